"""What several tests use: a plain walk of its own kind, houses, and each function with what it takes."""

import random

from pushdoors import far, fitting, keepers, notes, rounds, walking

FAR = 10 ** 18
TURNS = 10 ** 15

WAY_OUT = "ab"
ONE_ROOM = (0, ((2, 0, "a"),))
TWO_DOORS = (1, ((2, 0, "a"), (3, 1, "b")))
NESTED = (0, ((2, 1, (1, ((1, 0, "in"), (3, 3, "deep")))), (1, 0, "out"), (4, 2, "in")))
OPEN = (0, ((2, 2, (0, ((3, 0, "x"), (1, 1, "y")))), (5, 5, "x")))
FOUR = (3, ((1, 0, "a"), (2, 0, "b"), (3, 0, "c"), (99, 98, "abcdef")))
CHAIN = (0, ((1, 1, (0, ((2, 2, (0, ((3, 1, "end"),))),))),))
TWELVE = (2, (
    (2, 0, (1, ((1, 0, "a"), (2, 2, "b"), (3, 1, "c")))),
    (1, 1, (0, ((1, 0, "b"), (2, 0, (1, ((1, 1, "d"), (4, 0, "e"))))))),
    (3, 2, (0, ((2, 1, "a"), (1, 0, "f")))),
))

HOUSES = (WAY_OUT, ONE_ROOM, TWO_DOORS, NESTED, OPEN, FOUR, CHAIN, TWELVE)


def doors_of(house, path=()):
    """The paths of all doors, ascending."""
    if isinstance(house, str):
        return []
    found = []
    for at, door in enumerate(house[1]):
        found.append(path + (at,))
        found.extend(doors_of(door[2], path + (at,)))
    return found


def names_of(house):
    if isinstance(house, str):
        return {house}
    return set().union(*[names_of(door[2]) for door in house[1]])


def chain_of(many, end="z"):
    """A house of so many doors, one behind the other."""
    house = end
    for _ in range(many):
        house = (0, ((1, 0, house),))
    return house


def thawed(room):
    """The room as lists, which the plain walk changes in place."""
    if isinstance(room, str):
        return room
    return [room[0], [[need, stands, thawed(inner)] for need, stands, inner in room[1]]]


def frozen(room):
    if isinstance(room, str):
        return room
    return (room[0], tuple((need, stands, frozen(inner)) for need, stands, inner in room[1]))


def plain_walk(room):
    """One walker through a thawed house, told as the document tells it."""
    path = ()
    passed = []
    while not isinstance(room, str):
        door = room[1][room[0]]
        path += (room[0],)
        if door[1] < door[0]:
            door[1] += 1
            return ("push", path)
        passed.append((room, door))
        room = door[2]
    for where, door in passed:
        door[1] = 0
        where[0] += 1
        if where[0] == len(where[1]):
            where[0] = 0
    return ("out", path, room)


def plain_fates(house, many):
    room = thawed(house)
    return [plain_walk(room) for _ in range(many)]


def plain_after(house, many):
    room = thawed(house)
    for _ in range(many):
        plain_walk(room)
    return frozen(room)


def cleaned(house):
    """The house with all doors shut and unpushed, and the hands told."""
    if isinstance(house, str):
        return house
    return (house[0], tuple((need, 0, cleaned(inner)) for need, _, inner in house[1]))


def thawed_at(room, path):
    """The room at a path of a thawed house; None for none."""
    for at in path:
        if isinstance(room, str) or not 0 <= at < len(room[1]):
            return None
        room = room[1][at][2]
    return room


def thawed_door(room, path):
    """The door at a path of a thawed house, a list [need, stands, room]; None for none."""
    if len(path) == 0 or thawed_at(room, path) is None:
        return None
    return thawed_at(room, path[:-1])[1][path[-1]]


def made_room(chance, doors, most_need):
    """A room with so many doors in it and behind them; a way out for none."""
    if doors == 0:
        return chance.choice(("a", "b", "c", "abcdef"))
    here = chance.randint(1, min(4, doors))
    behind = [0] * here
    for _ in range(doors - here):
        behind[chance.randrange(here)] += 1
    rows = []
    for many in behind:
        need = chance.randint(1, most_need)
        stands = chance.choice((0, need, chance.randint(0, need)))
        rows.append((need, stands, made_room(chance, many, most_need)))
    return (chance.randrange(here), tuple(rows))


def made_houses(many, most_doors=12, most_need=5, seed=1):
    chance = random.Random(seed)
    return [made_room(chance, chance.randint(0, most_doors), most_need) for _ in range(many)]


BAD_HOUSE = (0, ((1, 0, (0, ((1, 0, (0, ((0, 0, "a"),))),))),))

# Each function that is handed a house, called with what it takes besides.
CALLS = {
    "fates": lambda house: walking.fates(house, 3),
    "fate": lambda house: far.fate(house, 3),
    "after": lambda house: far.after(house, 3),
    "left": lambda house: far.left(house, 3),
    "leaving": lambda house: far.leaving(house, 3),
    "named": lambda house: far.named(house, "a", 3),
    "pushed": lambda house: far.pushed(house, (0,), 3),
    "round_of": lambda house: rounds.round_of(house),
    "mean": lambda house: rounds.mean(house),
    "parted": lambda house: rounds.parted(house, "a"),
    "parted from": lambda house: rounds.parted("a", house),
    "fitted": lambda house: fitting.fitted(house, 1, 2),
    "Keeper": lambda house: keepers.Keeper(house),
    "again": lambda house: keepers.again(house, [("walk",), ("send", 5)]),
    "written": lambda house: notes.written(house),
}

# The same, with everything else that is handed in beyond its limits.
WRONG_CALLS = {
    "fates": lambda house: walking.fates(house, 301),
    "fate": lambda house: far.fate(house, -1),
    "after": lambda house: far.after(house, FAR + 1),
    "left": lambda house: far.left(house, -1),
    "leaving": lambda house: far.leaving(house, 0),
    "named": lambda house: far.named(house, "nobody", 0),
    "pushed": lambda house: far.pushed(house, (), 0),
    "parted": lambda house: rounds.parted(house, BAD_HOUSE),
    "fitted": lambda house: fitting.fitted(house, 0, -1),
    "again": lambda house: keepers.again(house, [("send", -1), ("stay",), ()]),
}
