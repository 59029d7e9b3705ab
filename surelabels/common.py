"""What several files of the package need to judge arguments and to number things."""

from surelabels.errors import BadNumber, BadText

SIGNS = "0123456789abcdefghijklmnopqrstuvwxyz"


def is_whole(thing):
    """Tell whether a thing is an integer; a bool is none."""
    return isinstance(thing, int) and not isinstance(thing, bool)


def is_from(thing, low):
    """Tell whether a thing is an integer from low on."""
    return is_whole(thing) and thing >= low


def is_within(thing, low, high):
    """Tell whether a thing is an integer from low to high."""
    return is_whole(thing) and low <= thing <= high


def check_from(thing, low, part):
    """Raise BadNumber for what is no integer from low on."""
    if not is_from(thing, low):
        raise BadNumber(part)


def check_within(thing, low, high, part):
    """Raise BadNumber for what is no integer from low to high."""
    if not is_within(thing, low, high):
        raise BadNumber(part)


def items_of(thing):
    """Return the items of a tuple or a list as a tuple, None for anything else."""
    if isinstance(thing, (tuple, list)):
        return tuple(thing)
    return None


def is_rising(things):
    """Tell whether each thing is greater than the one ahead of it."""
    return all([one < other for one, other in zip(things, things[1:])])


def is_sign(thing):
    """Tell whether a thing is a string of one digit or letter a to z."""
    return isinstance(thing, str) and len(thing) == 1 and thing in SIGNS


def check_text(text, signs):
    """Raise BadText for what is no string of these signs."""
    if not isinstance(text, str):
        raise BadText(-1)
    for place, character in enumerate(text):
        if character not in signs:
            raise BadText(place)


def met_from(firsts, after):
    """Return the dict from all that is met from some first things on to what each leads to.

    after(thing) is the list of what a thing leads to. The things are looked at in the order
    in which they are met, and this is the order of the keys: if after goes by the signs in
    order, it is the order of the least texts to them.
    """
    known = {first: True for first in firsts}
    met = list(known)
    led = {}
    while len(led) < len(met):
        here = met[len(led)]
        found = after(here)
        led[here] = found
        for thing in found:
            if thing not in known:
                known[thing] = True
                met.append(thing)
    return led
