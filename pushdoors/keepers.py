"""A keeper, who has a house and changes it deed by deed."""

from pushdoors.counts import check_count, check_walkers
from pushdoors.errors import BadCount, BadDeed, NoDoor
from pushdoors.houses import MOST_NEED, check_door, check_house, door_at, is_way_out, least_need, room_at
from pushdoors.houses import with_door_at, with_need, with_room_at
from pushdoors.leavings import behind_walkers, leavings_of
from pushdoors.walking import let_walk


class Keeper:
    """Has a house, and tells of all that was done with it."""

    def __init__(self, house):
        check_house(house)
        self._now = house
        self._came = 0
        self._went = 0
        self._done = []

    def walk(self):
        """Let a walker come; tell what becomes of it."""
        told, self._now = let_walk(self._now, ())
        self._came += 1
        if told[0] == "out":
            self._went += 1
        self._done.append(("walk",))
        return told

    def send(self, many):
        """Let so many walkers come; tell how many left."""
        check_walkers(many)
        leavings = leavings_of(self._now, many)
        self._now = behind_walkers(self._now, many)
        self._came += many
        self._went += leavings
        self._done.append(("send", many))
        return leavings

    def renew(self, path, need):
        """Give a door another need."""
        path = tuple(path)
        check_door(self._now, path)
        door = door_at(self._now, path)
        check_count(need, least_need(door), MOST_NEED)
        self._now = with_door_at(self._now, path, with_need(door, need))
        self._done.append(("renew", path, need))

    def turn(self, path, hand):
        """Make the hand of a room point at a door."""
        path = tuple(path)
        room = room_at(self._now, path)
        if room is None or is_way_out(room):
            raise NoDoor(path)
        doors = room[1]
        check_count(hand, 0, len(doors) - 1)
        self._now = with_room_at(self._now, path, (hand, doors))
        self._done.append(("turn", path, hand))

    def shut(self, path):
        """Shut a door; its pushes are lost."""
        path = tuple(path)
        check_door(self._now, path)
        need, _, inner = door_at(self._now, path)
        self._now = with_door_at(self._now, path, (need, 0, inner))
        self._done.append(("shut", path))

    def unlatch(self, path):
        """Open a door."""
        path = tuple(path)
        check_door(self._now, path)
        need, _, inner = door_at(self._now, path)
        self._now = with_door_at(self._now, path, (need, need, inner))
        self._done.append(("unlatch", path))

    def house(self):
        """The house as it stands."""
        return self._now

    def counts(self):
        """How many walkers came, and how many of them left."""
        return self._came, self._went

    def deeds(self):
        """All that was done, in turn."""
        return list(self._done)


def do_deed(keeper, deed):
    """Let a keeper do a deed; tell whether it's one, by its word and how many things."""
    match deed:
        case ("walk",):
            keeper.walk()
        case ("send", many):
            keeper.send(many)
        case ("renew", path, need):
            keeper.renew(path, need)
        case ("turn", path, hand):
            keeper.turn(path, hand)
        case ("shut", path):
            keeper.shut(path)
        case ("unlatch", path):
            keeper.unlatch(path)
        case _:
            return False
    return True


def again(house, deeds):
    """A keeper of the house who did all these deeds."""
    keeper = Keeper(house)
    for number, deed in enumerate(deeds):
        try:
            known = do_deed(keeper, deed)
        except (BadCount, NoDoor):
            raise BadDeed(number) from None
        if not known:
            raise BadDeed(number)
    return keeper
