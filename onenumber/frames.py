"""Frames: for all pairs there is either a witness or a ring, never both.

The functions below the checks take any number of pairs; those of the interface take at most 80.
"""

from math import gcd, lcm

from onenumber.amounts import ONE, ZERO, is_above_zero, is_whole, lowest, multiply, subtract
from onenumber.errors import BadPairs, NoFrame
from onenumber.pairs import NOTHING, add_pairs, arrow, is_pair, multiply_pair, reach, turn

MOST_PAIRS = 80


def require_at_most_80(value):
    """Raises BadPairs for any value that is no list or tuple of at most 80 pairs."""
    if not isinstance(value, (list, tuple)) or len(value) > MOST_PAIRS:
        raise BadPairs(value)
    for entry in value:
        if not is_pair(entry):
            raise BadPairs(value)


def length(fractions):
    """How many bits the longest integer of a pair, or of a list of fractions, has."""
    return max(part.bit_length() for amount in fractions for part in amount)


def closing(arrows, first, last, number):
    """The numbers of the arrows that are a ring with this one, [] if none are.

    All arrows so far lie between the arrows first and last, less than half a turn apart, first being foremost.
    """
    here = arrows[number]
    if here == (0, 0):
        return [number]
    for edge in (first, last):
        if turn(arrows[edge], here) == 0 and reach(arrows[edge], here) < 0:
            return [edge, number]
    if turn(arrows[first], here) < 0 and turn(here, arrows[last]) < 0:
        return [first, last, number]
    return []


def earliest(arrows, before, number):
    """The numbers of a ring of three with this arrow, of the earliest ones before it on both sides of it."""
    here = arrows[number]
    one_side = [other for other in before if turn(arrows[other], here) < 0]
    other_side = [other for other in before if turn(here, arrows[other]) < 0]
    return [one_side[0], other_side[0], number]


def outermost(arrows, sequence):
    """Goes through arrows in a sequence: (the numbers of a ring, None), or ([], the foremost and the hindmost)."""
    first = last = sequence[0]
    for position, number in enumerate(sequence):
        around = closing(arrows, first, last, number)
        if len(around) == 3:
            around = earliest(arrows, sequence[:position], number)
        if around:
            return (around, None)
        if turn(arrows[first], arrows[number]) < 0:
            first = number
        elif turn(arrows[number], arrows[last]) < 0:
            last = number
    return ([], (arrows[first], arrows[last]))


def outermost_of(pairs):
    """As outermost, for at least one pair."""
    # The short pairs go first, so that a ring is of short ones where there is a choice.
    sequence = sorted(range(len(pairs)), key=lambda number: length(pairs[number]))
    return outermost([arrow(pair) for pair in pairs], sequence)


def distance(amount):
    return (abs(amount[0]), amount[1])


def turning(one, other):
    """By how much one pair is ahead of another one, or behind it."""
    return distance(subtract(multiply(one[0], other[1]), multiply(one[1], other[0])))


def divisor(numbers):
    """The greatest common divisor of a list of integers."""
    common = 0
    for number in numbers:
        common = gcd(common, number)
    return common


def shorter(shares):
    """The shares of a ring, all times the same, with the common divisors of tops and of bottoms taken out."""
    above = divisor([top for top, _ in shares])
    below = divisor([bottom for _, bottom in shares])
    return [(top // above, bottom // below) for top, bottom in shares]


def as_integers(shares):
    """Integers without a common divisor, to one another as some fractions are."""
    bottom = 1
    for _, below in shares:
        bottom = lcm(bottom, below)
    tops = [top * (bottom // below) for top, below in shares]
    common = divisor(tops)
    return [top // common for top in tops]


def products(factors):
    """The products of all choices of some integers, those that are 1 left out."""
    found = [1]
    for factor in factors:
        if factor > 1:
            found.extend([number * factor for number in list(found)])
    return found


def shares_of_three(one, other, third):
    """Shares above 0 by which the three pairs of a ring come to nothing."""
    first, second, last = as_integers([turning(other, third), turning(third, one), turning(one, other)])
    # What two of the integers, or an integer and its pair's bottoms, have in common is put in the other shares' bottoms
    # where they are shorter so.
    factors = [gcd(first, second), gcd(first, last), gcd(second, last), gcd(first, lcm(one[0][1], one[1][1])),
               gcd(second, lcm(other[0][1], other[1][1])), gcd(last, lcm(third[0][1], third[1][1]))]
    found = [[lowest(top, bottom) for top in (first, second, last)] for bottom in products(factors)]
    return min(found, key=length)


def shares_of(pairs):
    """Shares above 0 by which the one, two or three pairs of a ring come to nothing."""
    if len(pairs) == 1:
        return [ONE]
    if len(pairs) == 2:
        one, other = pairs
        side = 1 if one[0] == ZERO else 0
        return shorter([distance(other[side]), distance(one[side])])
    return shares_of_three(pairs[0], pairs[1], pairs[2])


def has_frame(pairs):
    """Whether a list or tuple of pairs has a frame."""
    return not pairs or not outermost_of(pairs)[0]


def find_ring(pairs):
    """Any ring of a list or tuple of pairs, or None."""
    if not pairs:
        return None
    numbers = sorted(outermost_of(pairs)[0])
    if not numbers:
        return None
    return tuple(zip(numbers, shares_of([pairs[number] for number in numbers])))


def require_frame(pairs):
    """Raises NoFrame with a ring of a list or tuple of pairs, if there is one."""
    found = find_ring(pairs)
    if found is not None:
        raise NoFrame(found)


def bits(aim):
    return max(aim[0].bit_length(), aim[1].bit_length())


def lengthened(one, other):
    """An arrow, made about as long as another one if it is shorter."""
    gap = max(0, bits(other) - bits(one))
    return (one[0] << gap, one[1] << gap)


def inner_arrow(foremost, hindmost):
    """An arrow to whose side both edges of a frame point."""
    # About midway between the two, so that few digits of it are needed.
    one, other = lengthened(foremost, hindmost), lengthened(hindmost, foremost)
    if reach(one, other) >= 0:
        return (one[0] + other[0], one[1] + other[1])
    return (other[1] - one[1], one[0] - other[0])


def rounded(aim, edges):
    """An arrow near aim, of few digits, to whose side both edges point, as they do to that of aim."""
    size = bits(aim)
    kept = 8
    while kept < size:
        rough = (aim[0] >> (size - kept), aim[1] >> (size - kept))
        if all(reach(rough, edge) > 0 for edge in edges):
            return rough
        kept += kept
    return aim


def find_witness(pairs):
    """Any witness for a list or tuple of pairs, or None."""
    if not pairs:
        return (ONE, ONE)
    edges = outermost_of(pairs)[1]
    if edges is None:
        return None
    pay, fall = rounded(inner_arrow(edges[0], edges[1]), edges)
    return ((pay, 1), (fall, 1))


def by_ahead(pairs):
    """The numbers of pairs that have a frame, in lists of level ones, the foremost list first.

    In each list they are ascending.
    """
    heads = []
    levels = []
    for number, pair in enumerate(pairs):
        here = arrow(pair)
        low, high = 0, len(heads)
        while low < high:
            middle = (low + high) // 2
            if turn(heads[middle], here) > 0:
                low = middle + 1
            else:
                high = middle
        # In a frame arrows that are level are the same.
        if low < len(heads) and heads[low] == here:
            levels[low].append(number)
        else:
            heads.insert(low, here)
            levels.insert(low, [number])
    return levels


def witness(pairs):
    """Any witness for at most 80 pairs, or None."""
    require_at_most_80(pairs)
    return find_witness(pairs)


def is_witness(pairs, value):
    """Whether any value is a witness for at most 80 pairs."""
    require_at_most_80(pairs)
    if not is_pair(value):
        return False
    aim = arrow(value)
    return all(reach(aim, arrow(pair)) > 0 for pair in pairs)


def ring(pairs):
    """Any ring of at most 80 pairs, or None."""
    require_at_most_80(pairs)
    return find_ring(pairs)


def has_form_of_ring(value, count):
    """Whether any value is a tuple of 1 to 3 tuples of a number below count and a share, by ascending numbers."""
    if not isinstance(value, tuple) or not 1 <= len(value) <= 3:
        return False
    below = -1
    for entry in value:
        if not isinstance(entry, tuple) or len(entry) != 2 or not is_whole(entry[0]):
            return False
        if not below < entry[0] < count or not is_above_zero(entry[1]):
            return False
        below = entry[0]
    return True


def is_ring(pairs, value):
    """Whether any value is a ring of at most 80 pairs."""
    require_at_most_80(pairs)
    if not has_form_of_ring(value, len(pairs)):
        return False
    return add_pairs([multiply_pair(pairs[number], share) for number, share in value]) == NOTHING
