"""Rounds, the mean of walkers, and whether two houses tell the same for ever."""

from math import gcd, lcm

from pushdoors.houses import check_house, is_way_out
from pushdoors.leavings import walkers_for, way_of_leaving


def cleaned(room):
    """The room with all doors shut and unpushed, and the hands told."""
    if is_way_out(room):
        return room
    hand, doors = room
    return hand, tuple([(need, 0, cleaned(inner)) for need, _, inner in doors])


def leavings_of_round(room):
    """The fewest leavings behind which a clean room is the same again."""
    if is_way_out(room):
        return 1
    # Behind a leaving a clean room is clean, so that its hands alone have to come round. Each
    # door gets one leaving in as many as there are doors, and the rooms behind come round together.
    together = 1
    for door in room[1]:
        together = lcm(together, leavings_of_round(door[2]))
    return len(room[1]) * together


def round_of(house):
    """(leavings, walkers) of the round of the clean house."""
    check_house(house)
    leavings = leavings_of_round(house)
    return leavings, walkers_for(cleaned(house), leavings)


def mean(house):
    """(walkers, leavings), as small as can be, that come for each other in the long run."""
    leavings, walkers = round_of(house)
    shared = gcd(leavings, walkers)
    return walkers // shared, leavings // shared


def leavings_that_tell(one, other):
    """So many leavings are alike in both houses only if all are."""
    first = leavings_of_round(one)
    second = leavings_of_round(other)
    # Within one round each door falls shut at least once, and the house is clean from then on.
    return max(first, second) + lcm(first, second)


def parted(one, other):
    """The first walker who leaves in just one house, or in both by unlike names; None for none."""
    check_house(one)
    check_house(other)
    for number in range(1, leavings_that_tell(one, other) + 1):
        came = walkers_for(one, number)
        came_to_other = walkers_for(other, number)
        _, name = way_of_leaving(one, number)
        _, name_of_other = way_of_leaving(other, number)
        if came != came_to_other or name != name_of_other:
            return min(came, came_to_other) - 1
    return None
