"""Reaches: how far some real numbers go, and how far what operations make of them goes.

A reach is a tuple (low, high): the least and the greatest of some real numbers, or what they come near to.
Both are FRACTIONS, or NO_LOW and NO_HIGH, which stand for no end on that side.
"""

from nearestheld.fractions import added, compared, over, times

NO_LOW = (-1, 0)
NO_HIGH = (1, 0)


def reached(word, reaches):
    """The reach of what a word of a STEP, but "by", "root" and "if", makes of numbers with these reaches."""
    one, other = reaches[0], reaches[-1]
    if word == "add":
        return _sums(one, other)
    if word == "take":
        return _sums(one, _opposites(other))
    if word == "times":
        return products(one, other)
    if word == "fused":
        return _sums(products(one, reaches[1]), other)
    if word == "opposite":
        return _opposites(one)
    if word == "size":
        return _sizes(one)
    chosen = least_of if word == "least" else greatest_of
    return (chosen([one[0], other[0]]), chosen([one[1], other[1]]))


def products(one, other):
    """The reach of the products: they are least, and greatest, where each part is at an end."""
    found = [_product(x, y) for x in _ends(one) for y in _ends(other)]
    return (least_of(found), greatest_of(found))


def reciprocals(reach):
    """The list of the reaches of 1 by the numbers below 0, and of 1 by those above 0."""
    low, high = reach
    found = []
    if low[0] < 0:
        found.append((_reciprocal(high) if high[0] < 0 else NO_LOW, _reciprocal(low)))
    if high[0] > 0:
        found.append((_reciprocal(high), _reciprocal(low) if low[0] > 0 else NO_HIGH))
    return found


def least_of(ends):
    """The least one of some FRACTIONS, or ends."""
    least = ends[0]
    for end in ends:
        if _is_less(end, least):
            least = end
    return least


def greatest_of(ends):
    """The greatest one of some FRACTIONS, or ends."""
    greatest = ends[0]
    for end in ends:
        if _is_less(greatest, end):
            greatest = end
    return greatest


def is_point(reach):
    """Whether a reach is that of one number."""
    return reach[0] == reach[1]


def _is_less(x, y):
    """Whether one end is less than another one."""
    if x[1] == 0 and y[1] == 0:
        return x[0] < y[0]
    # Of a FRACTION and what stands for no end this tells the right one, too.
    return compared(x, y) < 0


def _ends(reach):
    """Both ends, or just one where they are the same."""
    return reach[:1] if is_point(reach) else reach


def _sums(one, other):
    """The reach of the sums."""
    low = _sum(one[0], other[0])
    if is_point(one) and is_point(other):
        return (low, low)
    return (low, _sum(one[1], other[1]))


def _sum(x, y):
    """The sum of two low ends, or of two high ones."""
    if x[1] == 0:
        return x
    return y if y[1] == 0 else added(x, y)


def _product(x, y):
    """The product of two ends; a number times 0 is 0 also where the number has no end."""
    if x[0] == 0 or y[0] == 0:
        return (0, 1)
    if x[1] == 0 or y[1] == 0:
        return NO_HIGH if (x[0] > 0) == (y[0] > 0) else NO_LOW
    return times(x, y)


def _reciprocal(end):
    """1 by an end that is not 0; 0, to which it comes near, where there is no end."""
    return (0, 1) if end[1] == 0 else over((1, 1), end)


def _opposites(reach):
    """The reach of the opposites."""
    low, high = reach
    return ((-high[0], high[1]), (-low[0], low[1]))


def _sizes(reach):
    """The reach of the sizes."""
    low, high = reach
    if low[0] < 0 and high[0] > 0:
        return ((0, 1), greatest_of([(-low[0], low[1]), high]))
    return reach if low[0] >= 0 else _opposites(reach)
