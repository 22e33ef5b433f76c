"""Signs joined to groups by their counts, and the book of lengths that comes of it.

A group is a pair of its weight and its signs, told in order.
"""


def joints(counts):
    groups = [(count, sign) for sign, count in counts]
    made = []
    while len(groups) > 1:
        # No sign is in two groups, so at one weight the first sign of each,
        # its least, already decides the order of these pairs.
        groups = sorted(groups)
        made.append((groups[0][1], groups[1][1]))
        groups = groups[2:] + [joined(groups[0], groups[1])]
    return made


def joined(first, second):
    return (first[0] + second[0], "".join(sorted(first[1] + second[1])))


def book_of(counts):
    if len(counts) == 1:
        # No joint would leave the only sign without a flash to tell it by.
        return [(counts[0][0], 1)]
    made = joints(counts)
    return [(sign, times_joined(sign, made)) for sign, count in counts]


def times_joined(sign, made):
    return len([joint for joint in made if sign in joint[0] + joint[1]])
