"""What shows that no case is cheaper than a price, or that there is none (document, points 10.3 and 10.4)."""

from surelabels.chains import KINDS, check_size
from surelabels.common import COST, GOAL, check_from, check_kind, is_within, items_of
from surelabels.prices import WIDEST, is_halfway, search_cases
from surelabels.standings import Course


def _heights_from(course, halfways, price):
    """Return the least heights of the standings behind some halfways, as far as they are below a price.

    halfways is the dict from them to the least prices of ways to them; a price of None is none at all.
    """
    least = {}
    for halfway in halfways:
        for more, standing in course.standings(halfway):
            height = halfways[halfway] + more
            if (price is None or height < price) and height < least.get(standing, height + 1):
                least[standing] = height
    return least


def _case_free(course, kind, price):
    """Return the heights, below a price, of all standings that labels lead to; None if a case is cheaper."""
    search = search_cases(course, kind, None if price is None else price * COST)
    if GOAL in search.costs:
        return None
    halfways = {thing: search.costs[thing] // COST for thing in search.costs if is_halfway(thing)}
    return _heights_from(course, halfways, price)


def heights(chain, kind, price):
    """Return the heights that show that no case of a kind is cheaper than a price, None if one is."""
    check_kind(kind, KINDS)
    check_from(price, 0, "price")
    check_size(chain, WIDEST)
    return _case_free(Course(chain), kind, price)


def _least_merged(course, known):
    """Return the dict from the merged standings of a dict of heights to the least heights of these."""
    least = {}
    for standing in known:
        one = course.merged(standing)
        least[one] = min(known[standing], least.get(one, known[standing]))
    return least


def _halfways_behind(course, kind, known, price):
    """Return the halfways at the start and behind some standings, with the least prices of ways to them by heights.

    None if a case of the kind ends behind one of the standings below the price (at all, if it is None).
    """
    least = {halfway: more for more, halfway in course.firsts()}
    for standing in known:
        height = known[standing]
        halfways, finishes = course.onward(standing)
        for whats, more, _, _, _, _ in finishes:
            if kind in whats and (price is None or height + more < price):
                return None
        for more, halfway in halfways:
            least[halfway] = min(height + more, least.get(halfway, height + more))
    return least


def _holds(course, kind, known, price):
    """Tell whether a dict from standings to heights shows that no case is cheaper than a price, None being no price."""
    halfways = _halfways_behind(course, kind, _least_merged(course, known), price)
    if halfways is None:
        return False
    wanted = _heights_from(course, halfways, price)
    return all([standing in known and known[standing] <= wanted[standing] for standing in wanted])


def check_heights(chain, kind, price, thing):
    """Tell whether a thing is a dict of heights that shows that no case of a kind is cheaper than a price."""
    check_kind(kind, KINDS)
    check_from(price, 0, "price")
    if not isinstance(thing, dict):
        return False
    course = Course(chain)
    for key in thing:
        if course.standing_of(key) is None or not is_within(thing[key], 0, price - 1):
            return False
    return _holds(course, kind, thing, price)


def closed(chain, kind):
    """Return the list of standings that shows that there is no case of a kind, None if there is one."""
    check_kind(kind, KINDS)
    check_size(chain, WIDEST)
    found = _case_free(Course(chain), kind, None)
    return None if found is None else list(found)


def check_closed(chain, kind, thing):
    """Tell whether a thing is a list of standings that shows that there is no case of a kind."""
    check_kind(kind, KINDS)
    things = items_of(thing)
    if things is None:
        return False
    course = Course(chain)
    standings = [course.standing_of(item) for item in things]
    if not all([standing is not None for standing in standings]):
        return False
    # Heights tell nothing here, but that all standings that are wanted are there.
    known = {standing: 0 for standing in standings}
    if len(known) != len(standings):
        return False
    return _holds(course, kind, known, None)
