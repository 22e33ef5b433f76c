"""How often each sign stands in a text."""


def counts_of(text):
    return [(sign, text.count(sign)) for sign in sorted(set(text))]
