"""What a book is, and the codes of short and long flashes that it gives its signs."""

from lampcode.errors import NoBook

SHORT = "."
LONG = "-"


def is_book(book):
    signs = [sign for sign, length in book]
    lengths = [length for sign, length in book]
    if signs != sorted(set(signs)):
        return False
    if len(book) < 2:
        # The length 1 is no whole, but an only sign needs a flash to be seen by.
        return lengths == [] or lengths == [1]
    return min(lengths) >= 1 and make_a_whole(lengths)


def make_a_whole(lengths):
    # Each halving makes one part more, so a part halved n times has n others
    # beside it: n parts never hold one. Asked first, this also keeps the whole
    # below small, however many figures a length has.
    if max(lengths) >= len(lengths):
        return False
    whole = 1 << len(lengths)
    return sum([whole >> length for length in lengths]) == whole


def refuse_unless_book(book):
    if not is_book(book):
        raise NoBook("the pairs are those of no book")


def codes(book):
    refuse_unless_book(book)
    code_of = {}
    code = ""
    for length, sign in sorted([(length, sign) for sign, length in book]):
        code = code_behind(code, length)
        code_of[sign] = code
    return [(sign, code_of[sign]) for sign, length in book]


def code_behind(code, length):
    if code == "":
        return SHORT * length
    # What lies behind the last short flash becomes short, as does what is put
    # behind the code, so both are filled up at once.
    changed = code[:code.rfind(SHORT)] + LONG
    return changed.ljust(length, SHORT)
