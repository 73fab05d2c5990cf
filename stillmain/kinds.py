"""What kind of thing something is, asked of whatever is handed in."""

LONGEST_NAME = 8
HIGHEST_COST = 99
LAST_TIME = 10 ** 9
MOST_NAMES = 60
MOST_IN_STRETCH = 24
MOST_IN_CREW = 6
POSITIONS = ("open", "shut")


def is_whole(thing):
    """Tell whether it is an int that is no truth."""
    # To Python True and False are ints.
    return isinstance(thing, int) and not isinstance(thing, bool)


def is_name(thing):
    """Tell whether it is a text of one to eight small letters a to z."""
    if not isinstance(thing, str) or not 1 <= len(thing) <= LONGEST_NAME:
        return False
    return all(["a" <= sign <= "z" for sign in thing])


def is_cost(thing):
    """Tell whether it is a whole number from 0 to 99."""
    return is_whole(thing) and 0 <= thing <= HIGHEST_COST


def is_time(thing):
    """Tell whether it is a whole number from 0 to 10 ** 9."""
    return is_whole(thing) and 0 <= thing <= LAST_TIME


def is_position(thing):
    """Tell whether it is "open" or "shut"."""
    return isinstance(thing, str) and thing in POSITIONS


def are_names(thing):
    """Tell whether it is a list of at most 60 names, no two alike."""
    if not isinstance(thing, list) or len(thing) > MOST_NAMES:
        return False
    # The members are asked first: of a set they must be names to be members.
    return all([is_name(member) for member in thing]) and len(set(thing)) == len(thing)


def is_stretch(thing):
    """Tell whether it is names, 1 to 24 of them."""
    return are_names(thing) and 1 <= len(thing) <= MOST_IN_STRETCH


def is_crew(thing):
    """Tell whether it is names, 1 to 6 of them."""
    return are_names(thing) and 1 <= len(thing) <= MOST_IN_CREW
