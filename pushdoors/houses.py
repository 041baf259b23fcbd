"""What a house is, and what is found in it."""

from pushdoors.errors import BadHouse, NoDoor, NoName

LETTERS = "abcdefghijklmnopqrstuvwxyz"
LONGEST_NAME = 6
MOST_DOORS_OF_A_ROOM = 4
MOST_DOORS_OF_A_HOUSE = 12
MOST_NEED = 99


def is_way_out(room):
    """Whether a room is a way out, not one with doors."""
    return isinstance(room, str)


def is_name(text):
    """Whether a way out may be called so."""
    return 1 <= len(text) <= LONGEST_NAME and all(letter in LETTERS for letter in text)


def is_door(door):
    """Whether a door can be; the room behind it is not looked at."""
    need, stands, _ = door
    return 1 <= need <= MOST_NEED and 0 <= stands <= need


def can_be(room):
    """Whether a room can be; the rooms behind its doors are not looked at."""
    if is_way_out(room):
        return is_name(room)
    hand, doors = room
    if not 1 <= len(doors) <= MOST_DOORS_OF_A_ROOM or not 0 <= hand < len(doors):
        return False
    return all(is_door(door) for door in doors)


def rooms_behind(room, path):
    """The rooms just behind the doors of a room at this path, each as (path, room)."""
    if is_way_out(room):
        return []
    return [(path + (at,), door[2]) for at, door in enumerate(room[1])]


def check_house(house):
    """Refuse a house that can't be, by its first room that can't."""
    found = 0
    waiting = [((), house)]
    while waiting:
        path, room = waiting.pop()
        if not can_be(room):
            raise BadHouse(path)
        behind = rooms_behind(room, path)
        found += len(behind)
        # The last of the list is looked at next, so the room behind door 0 stands last.
        waiting.extend(behind[::-1])
    if found > MOST_DOORS_OF_A_HOUSE:
        raise BadHouse(())


def room_at(house, path):
    """The room behind the doors of this path; None, if there is no such door."""
    room = house
    for at in path:
        if is_way_out(room) or not 0 <= at < len(room[1]):
            return None
        room = room[1][at][2]
    return room


def check_door(house, path):
    """Refuse a path at which there is no door."""
    if len(path) == 0 or room_at(house, path) is None:
        raise NoDoor(path)


def has_name(room, name):
    """Whether a way out in this room, or behind it, is called so."""
    if is_way_out(room):
        return room == name
    return any(has_name(door[2], name) for door in room[1])


def check_name(house, name):
    """Refuse a name that no way out of the house has."""
    if not has_name(house, name):
        raise NoName(name)


def with_door(doors, at, door):
    """The doors, with another one at this number."""
    return doors[:at] + (door,) + doors[at + 1:]


def paths_of_doors(room, path):
    """The paths of all doors in and behind the room at this path, ascending."""
    paths = []
    for further, inner in rooms_behind(room, path):
        paths.append(further)
        paths.extend(paths_of_doors(inner, further))
    return paths


def door_at(house, path):
    """The door at the path of a door."""
    return room_at(house, path[:-1])[1][path[-1]]


def with_room_at(house, path, room):
    """The house with another room at the path of a room."""
    if len(path) == 0:
        return room
    hand, doors = house
    at = path[0]
    need, stands, inner = doors[at]
    return hand, with_door(doors, at, (need, stands, with_room_at(inner, path[1:], room)))


def with_door_at(house, path, door):
    """The house with another door at the path of a door."""
    hand, doors = room_at(house, path[:-1])
    return with_room_at(house, path[:-1], (hand, with_door(doors, path[-1], door)))


def is_wide(door):
    """Whether a door stands open."""
    need, stands, _ = door
    return stands == need


def least_need(door):
    """The least need that the door can be given."""
    # A shut door would open by itself, were its need not greater than its pushes.
    return 1 if is_wide(door) else door[1] + 1


def with_need(door, need):
    """The door with another need; an open one stays open."""
    _, stands, inner = door
    stands_then = need if is_wide(door) else stands
    return need, stands_then, inner
