"""The limits of what is counted."""

from pushdoors.errors import BadCount

MOST_FATES = 300
MOST_WALKERS = 10 ** 18
MOST_TURNS = 10 ** 15


def check_count(number, least, most):
    """Refuse a number beyond its limits."""
    if not least <= number <= most:
        raise BadCount("a number lies beyond its limits")


def check_fates(many):
    """Refuse what isn't a number of fates that are told in one list."""
    check_count(many, 0, MOST_FATES)


def check_walkers(number):
    """Refuse what is neither a walker's number nor a number of walkers."""
    check_count(number, 0, MOST_WALKERS)


def check_turn(number):
    """Refuse what isn't a number of a leaving or of a push."""
    check_count(number, 1, MOST_TURNS)
