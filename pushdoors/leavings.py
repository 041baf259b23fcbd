"""What so many leavings do to a room, without a walk for each walker.

From one leaving to the next a room's hand goes on by one door, so the leavings
are dealt to its doors in turn. Towards a leaving by a door come as many walkers
as that door wants pushes, and then those who come into the room behind it.
"""

from pushdoors.houses import is_way_out, with_door


def first_at_which(low, high, holds):
    """The least number from low to high at which it holds; it holds from there on, and at high."""
    while low < high:
        middle = (low + high) // 2
        if holds(middle):
            high = middle
        else:
            low = middle + 1
    return low


def turns_of_door(room, at, leavings):
    """How many of the room's first so many leavings are by this door."""
    hand, doors = room
    ahead = (at - hand) % len(doors)
    return (leavings - ahead + len(doors) - 1) // len(doors)


def leaving_of_turn(room, at, turn):
    """Which leaving of the room is the told one by this door; both are counted from 1."""
    hand, doors = room
    return (turn - 1) * len(doors) + (at - hand) % len(doors) + 1


def walkers_for(room, leavings):
    """How many walkers come into the room by so many leavings."""
    if is_way_out(room):
        return leavings
    total = 0
    for at, (need, stands, inner) in enumerate(room[1]):
        turns = turns_of_door(room, at, leavings)
        if turns > 0:
            total += turns * need - stands + walkers_for(inner, turns)
    return total


def leavings_of(room, walkers):
    """How many of the first so many walkers who come into the room leave."""
    # Each leaving takes one walker at least, so one more leaving than walkers is too many.
    return first_at_which(1, walkers + 1, lambda number: walkers_for(room, number) > walkers) - 1


def behind_leavings(room, leavings):
    """The room as it stands right behind so many leavings."""
    if is_way_out(room):
        return room
    hand, doors = room
    doors_then = []
    for at, (need, stands, inner) in enumerate(doors):
        turns = turns_of_door(room, at, leavings)
        stands_then = stands if turns == 0 else 0
        doors_then.append((need, stands_then, behind_leavings(inner, turns)))
    return (hand + leavings) % len(doors), tuple(doors_then)


def behind_pushes(room, walkers):
    """The room behind so many walkers, none of whom leaves."""
    if walkers == 0:
        return room
    hand, doors = room
    need, stands, inner = doors[hand]
    pushes = min(walkers, need - stands)
    door_then = (need, stands + pushes, behind_pushes(inner, walkers - pushes))
    return hand, with_door(doors, hand, door_then)


def behind_walkers(room, walkers):
    """The room behind so many walkers."""
    leavings = leavings_of(room, walkers)
    return behind_pushes(behind_leavings(room, leavings), walkers - walkers_for(room, leavings))


def way_of_leaving(room, number):
    """The path and the name of the way out by which a leaving is, counted from 1."""
    path = ()
    while not is_way_out(room):
        hand, doors = room
        at = (hand + number - 1) % len(doors)
        number = (number - 1) // len(doors) + 1
        path = path + (at,)
        room = doors[at][2]
    return path, room


def leavings_by_name(room, name, leavings):
    """How many of the room's first so many leavings are by this name."""
    if is_way_out(room):
        return leavings if room == name else 0
    total = 0
    for at, door in enumerate(room[1]):
        total += leavings_by_name(door[2], name, turns_of_door(room, at, leavings))
    return total


def leaving_by_name(room, name, number):
    """Which leaving of the room is the told one by this name, which some way out has."""
    enough = number
    while leavings_by_name(room, name, enough) < number:
        enough = enough * 2
    return first_at_which(number, enough, lambda many: leavings_by_name(room, name, many) >= number)


def place_of_push(room, path, number):
    """Towards which leaving of the room a push of the door is, and how many came towards it before."""
    at = path[0]
    need, stands, inner = room[1][at]
    if len(path) > 1:
        turn, came_inside = place_of_push(inner, path[1:], number)
        came = came_inside + need
    else:
        turn = (stands + number - 1) // need + 1
        came = (stands + number - 1) % need
    if turn == 1:
        # The pushes with which the door stands were made ahead of all walkers.
        came = came - stands
    return leaving_of_turn(room, at, turn), came


def walker_of_push(house, path, number):
    """The walker who pushes the door at this path as the told one, counted from 1."""
    leaving, came = place_of_push(house, path, number)
    return walkers_for(house, leaving - 1) + came
