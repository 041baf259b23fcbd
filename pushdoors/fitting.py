"""Needs changed in the fewest steps that a told leaving is a told walker's."""

from pushdoors.counts import check_turn, check_walkers
from pushdoors.houses import MOST_NEED, check_house, door_at, is_way_out, is_wide, least_need, paths_of_doors
from pushdoors.houses import with_door_at, with_need
from pushdoors.leavings import turns_of_door, walkers_for

MOST_STEPS = 4


def choices_of(room, leavings):
    """Of each door, as paths ascend: how many walkers more come by so many leavings for each step
    that its need is greater, and its least and its greatest change."""
    if is_way_out(room):
        return []
    choices = []
    for at, door in enumerate(room[1]):
        turns = turns_of_door(room, at, leavings)
        # An open door stays open, so its first turn wants no pushes, whatever its need is.
        more = max(0, turns - 1) if is_wide(door) else turns
        need = door[0]
        choices.append((more, least_need(door) - need, MOST_NEED - need))
        choices.extend(choices_of(door[2], turns))
    return choices


def least_changes(choices, steps, gap):
    """The least tuple of changes, of just so many steps, that bring as many walkers more as the gap
    tells; None, if there's none."""
    if steps == 0:
        return (0,) * len(choices) if gap == 0 else None
    if len(choices) == 0:
        return None
    more, low, high = choices[0]
    for change in range(max(low, -steps), min(high, steps) + 1):
        behind = least_changes(choices[1:], steps - abs(change), gap - change * more)
        if behind is not None:
            return (change,) + behind
    return None


def with_changes(house, changes):
    """The house with needs changed, a number for each door, as paths ascend."""
    paths = paths_of_doors(house, ())
    for path, change in zip(paths, changes):
        door = door_at(house, path)
        house = with_door_at(house, path, with_need(door, door[0] + change))
    return house


def fitted(house, number, walker):
    """The house, changed in the fewest steps, of which this leaving is this walker's; None for none."""
    check_house(house)
    check_turn(number)
    check_walkers(walker)
    gap = walker + 1 - walkers_for(house, number)
    choices = choices_of(house, number)
    for steps in range(MOST_STEPS + 1):
        changes = least_changes(choices, steps, gap)
        if changes is not None:
            return with_changes(house, changes)
    return None
