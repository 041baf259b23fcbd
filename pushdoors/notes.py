"""Houses as texts: a row for each room and each door."""

from pushdoors.errors import BadText
from pushdoors.houses import check_house, is_name, is_way_out

FIGURES = "0123456789"
MOST_FIGURES = 2


def rows_of(room):
    """The rows of a room and of all that is behind its doors."""
    if is_way_out(room):
        return [f"out {room}"]
    hand, doors = room
    rows = [f"room {hand} {len(doors)}"]
    for need, stands, inner in doors:
        rows.append(f"door {need} {stands}")
        rows.extend(rows_of(inner))
    return rows


def written(house):
    """The house as a text."""
    check_house(house)
    return "\n".join(rows_of(house))


def is_number(word):
    """Whether a word is a number of one or two figures, none of them needless."""
    if not 1 <= len(word) <= MOST_FIGURES or not all(figure in FIGURES for figure in word):
        return False
    return len(word) == 1 or word[0] != "0"


def can_stand(words, wanted):
    """Whether a row of these words can stand where a "room" or a "door" is wanted."""
    if words[0] == "out":
        return wanted == "room" and len(words) == 2 and is_name(words[1])
    return words[0] == wanted and len(words) == 3 and is_number(words[1]) and is_number(words[2])


def wanted_behind(words):
    """What else is wanted for the sake of a row."""
    if words[0] == "room":
        return ["door"] * int(words[2])
    if words[0] == "door":
        return ["room"]
    return []


def words_of_rows(text):
    """The words of each row; refused is the first that can't stand there, is more, or lacks."""
    told = []
    wanted = ["room"]
    for number, row in enumerate(text.split("\n")):
        words = row.split(" ")
        if len(wanted) == 0 or not can_stand(words, wanted.pop()):
            raise BadText(number)
        wanted.extend(wanted_behind(words))
        told.append(words)
    if len(wanted) > 0:
        raise BadText(len(told))
    return told


def built(told):
    """The house of which the rows have these words."""
    # From the last row to the first, so that what is behind a door is there ahead of the door, and
    # the doors ahead of their room. What is ready stands the other way round, door 0 last.
    ready = []
    for words in told[::-1]:
        if words[0] == "out":
            ready.append(words[1])
        elif words[0] == "door":
            ready.append((int(words[1]), int(words[2]), ready.pop()))
        else:
            rest = len(ready) - int(words[2])
            doors = tuple(ready[rest:][::-1])
            del ready[rest:]
            ready.append((int(words[1]), doors))
    return ready[0]


def read(text):
    """The house that a text tells."""
    house = built(words_of_rows(text))
    check_house(house)
    return house
