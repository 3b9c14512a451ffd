"""Boxes that are opened one after the other, each at its price, until one prize of those that were seen is taken.

The functions below the checks trust that they are handed boxes; those of the interface look first.
"""

from onenumber.amounts import (
    ONE,
    ZERO,
    add_all,
    divide,
    greatest,
    is_above_zero,
    is_below,
    is_from_zero,
    is_number_below,
    multiply,
    negative,
    subtract,
)
from onenumber.errors import BadBox, BadBoxes, BadSeen

MOST_PRIZES = 3
MOST_BOXES = 3
LEAVE = ("leave",)


def is_prize(value):
    """Whether any value is a tuple of a chance and a value that is not below 0."""
    return isinstance(value, tuple) and len(value) == 2 and is_above_zero(value[0]) and is_from_zero(value[1])


def are_prizes(value):
    """Whether any value is a tuple of 1 to 3 prizes of which just one comes."""
    if not isinstance(value, tuple) or not 1 <= len(value) <= MOST_PRIZES:
        return False
    return all(is_prize(entry) for entry in value) and add_all([chance for chance, _ in value]) == ONE


def is_box(value):
    """Whether any value is a box."""
    return isinstance(value, tuple) and len(value) == 2 and is_from_zero(value[0]) and are_prizes(value[1])


def is_boxes(value):
    """Whether any value is a tuple of 1 to 3 boxes."""
    return isinstance(value, tuple) and 1 <= len(value) <= MOST_BOXES and all(is_box(entry) for entry in value)


def require_box(value):
    if not is_box(value):
        raise BadBox(value)


def require_boxes(value):
    if not is_boxes(value):
        raise BadBoxes(value)


def is_seen(boxes, value):
    """Whether any value tells of each box the number of the prize that it held, or None."""
    if not isinstance(value, tuple) or len(value) != len(boxes):
        return False
    return all(entry is None or is_number_below(entry, len(box[1])) for entry, box in zip(value, boxes))


def require_boxes_and_seen(boxes, seen):
    require_boxes(boxes)
    if not is_seen(boxes, seen):
        raise BadSeen(seen)


def worth_of_opening(boxes, seen, number, known):
    """The mean of what is to come if a box is opened, less its price."""
    price, prizes = boxes[number]
    shares = [negative(price)]
    for prize, (chance, _) in enumerate(prizes):
        behind = seen[:number] + (prize,) + seen[number + 1:]
        shares.append(multiply(chance, best_worth_of(boxes, behind, known)))
    return add_all(shares)


def moves_of(boxes, seen, known):
    """The list of the tuples (move, mean of what is to come if it is made)."""
    found = [(LEAVE, ZERO)]
    for number, prize in enumerate(seen):
        if prize is None:
            found.append((("open", number), worth_of_opening(boxes, seen, number, known)))
        else:
            found.append((("take", number), boxes[number][1][prize][1]))
    return found


def best_worth_of(boxes, seen, known):
    """The greatest mean of what is to come; known keeps what has been worked out."""
    if seen not in known:
        known[seen] = greatest([worth for _, worth in moves_of(boxes, seen, known)])
    return known[seen]


def box_term(box):
    """The term of a box."""
    require_box(box)
    price, prizes = box
    return ("step", negative(price), tuple([(chance, ("step", value, ())) for chance, value in prizes]))


def reserve(box):
    """The reserve of a box: the value above which its prizes make up for its price in the mean."""
    require_box(box)
    price, prizes = box
    found = []
    for _, least in prizes:
        # Were just these prizes above the reserve, it would be this; with others it is less.
        above = [(chance, value) for chance, value in prizes if not is_below(value, least)]
        gained = add_all([multiply(chance, value) for chance, value in above])
        found.append(divide(subtract(gained, price), add_all([chance for chance, _ in above])))
    return greatest(found)


def boxes_worth(boxes):
    """The worth of some boxes."""
    require_boxes(boxes)
    return best_worth_of(boxes, (None,) * len(boxes), {})


def best_moves(boxes, seen):
    """The ascending list of all moves by which the greatest mean of what is to come is had."""
    require_boxes_and_seen(boxes, seen)
    moves = moves_of(boxes, seen, {})
    best = greatest([worth for _, worth in moves])
    return sorted([move for move, worth in moves if worth == best])


def worth_of(boxes, seen):
    """The greatest mean of what is to come."""
    require_boxes_and_seen(boxes, seen)
    return best_worth_of(boxes, seen, {})
