"""Walkers who come one behind the other, each with its whole way."""

from pushdoors.counts import check_fates
from pushdoors.houses import check_house, is_way_out, with_door


def let_walk(room, path):
    """What becomes of a walker who comes into the room at this path, and the room behind it."""
    if is_way_out(room):
        return ("out", path, room), room
    hand, doors = room
    need, stands, inner = doors[hand]
    further = path + (hand,)
    if stands < need:
        return ("push", further), (hand, with_door(doors, hand, (need, stands + 1, inner)))
    told, inner_then = let_walk(inner, further)
    if told[0] == "push":
        return told, (hand, with_door(doors, hand, (need, stands, inner_then)))
    return told, ((hand + 1) % len(doors), with_door(doors, hand, (need, 0, inner_then)))


def fates(house, many):
    """What becomes of each of the first so many walkers."""
    check_house(house)
    check_fates(many)
    told = []
    for _ in range(many):
        fate, house = let_walk(house, ())
        told.append(fate)
    return told
