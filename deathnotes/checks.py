"""What can be handed in: houses, worths and handles."""

from deathnotes.errors import BadHandle, BadHouse, BadWorth

FEWEST_HOUSES = 2
MOST_HOUSES = 8
MOST_THINGS = 100
WORTHS = 1000


def is_below(value, limit):
    """Tell whether this is a whole number from 0 on below the limit; truths are no numbers."""
    return isinstance(value, int) and not isinstance(value, bool) and 0 <= value < limit


def check_place(number, many):
    """Refuse a house that cannot be among so many."""
    if not is_below(many, MOST_HOUSES + 1) or many < FEWEST_HOUSES:
        raise BadHouse("there are 2 to 8 houses")
    if not is_below(number, many):
        raise BadHouse("no such house")


def check_other(other, number, many):
    """Refuse what is no house, or the house of this number itself."""
    check_place(other, many)
    if other == number:
        raise BadHouse("the house itself, not another one")


def check_worth(worth):
    """Refuse what is no worth."""
    if not is_below(worth, WORTHS):
        raise BadWorth("no number from 0 to 999")


def is_handle(value, many):
    """Tell whether this can be a handle among so many houses, whether its thing was made or not."""
    if not isinstance(value, tuple) or len(value) != 2:
        return False
    house, thing = value
    return is_below(house, many) and is_below(thing, MOST_THINGS)


def check_handle(handle, many):
    """Refuse what cannot be a handle among so many houses."""
    if not is_handle(handle, many):
        raise BadHandle("a handle is (house, thing), of a house and a thing that can be")
