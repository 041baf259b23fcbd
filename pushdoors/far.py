"""Any far walker, leaving or push, told at once."""

from pushdoors.counts import check_turn, check_walkers
from pushdoors.houses import check_door, check_house, check_name
from pushdoors.leavings import behind_walkers, leaving_by_name, leavings_of, walker_of_push, walkers_for
from pushdoors.leavings import way_of_leaving
from pushdoors.walking import let_walk


def fate(house, walker):
    """What becomes of a walker."""
    check_house(house)
    check_walkers(walker)
    told, _ = let_walk(behind_walkers(house, walker), ())
    return told


def after(house, many):
    """The house behind so many walkers."""
    check_house(house)
    check_walkers(many)
    return behind_walkers(house, many)


def left(house, many):
    """How many of the first so many walkers leave."""
    check_house(house)
    check_walkers(many)
    return leavings_of(house, many)


def leaving(house, number):
    """(walker, path, name) of a leaving."""
    check_house(house)
    check_turn(number)
    path, name = way_of_leaving(house, number)
    return walkers_for(house, number) - 1, path, name


def named(house, name, number):
    """(walker, path) of a leaving by this name, counted by it alone."""
    check_house(house)
    check_name(house, name)
    check_turn(number)
    which = leaving_by_name(house, name, number)
    path, _ = way_of_leaving(house, which)
    return walkers_for(house, which) - 1, path


def pushed(house, path, number):
    """The walker who pushes the door at this path as the told one."""
    check_house(house)
    check_door(house, path)
    check_turn(number)
    return walker_of_push(house, path, number)
