"""The least prices of cases, over all texts and all worn rows (document, points 10.1, 10.2 and 10.5)."""

from surelabels.chains import KINDS, check_size
from surelabels.common import COST, GOAL, check_kind, cheapest_from
from surelabels.standings import Course

# The most that size may be.
WIDEST = 20000


def _next_ways(course, kind, here):
    """List the pairs (cost, next) behind a halfway or a standing, the goal if a case of a kind ends here."""
    if is_halfway(here):
        return [(price * COST, course.merged(standing)) for price, standing in course.standings(here)]
    halfways, finishes = course.onward(here)
    found = [(price * COST + 1, halfway) for price, halfway in halfways]
    costs = [price * COST + signs for whats, price, signs, _, _, _ in finishes if kind in whats]
    if costs:
        found.append((min(costs), GOAL))
    return found


def is_halfway(thing):
    """Tell whether a thing that a search of cases met is a halfway."""
    return len(thing) == 5


def search_cases(course, kind, limit):
    """Return the search for a case of a kind at a cost below a limit, through halfways and merged standings."""
    firsts = [(price * COST, halfway) for price, halfway in course.firsts()]
    return cheapest_from(firsts, lambda here: _next_ways(course, kind, here), GOAL, limit)


def _least_price(course, kind):
    """Return the least price of a case of a kind, None if there is none."""
    search = search_cases(course, kind, None)
    return search.costs[GOAL] // COST if GOAL in search.costs else None


def least_price(chain, kind):
    """Return the least price of a case of a kind over all texts and worn rows, None if there is none."""
    check_kind(kind, KINDS)
    check_size(chain, WIDEST)
    return _least_price(Course(chain), kind)


def _piece_between(course, halfway, standing):
    """Return the worn cells of the block of a mark by which a halfway leads to a standing."""
    spot, printed, _, _, _ = halfway
    pieces = [piece for _, piece, front in course.fronts(spot, printed) if front == standing[:3]]
    return course.head_of(spot) + pieces[0]


def _finish(course, book, kind, standing):
    """Return the text and the worn row behind a standing of the cheapest end of a kind, with the fewest signs."""
    finishes = [finish for finish in course.onward(standing)[1] if kind in finish[0]]
    least = min([finish[1:3] for finish in finishes])
    _, _, _, printed, state, worn = [finish for finish in finishes if finish[1:3] == least][0]
    if printed == "stop":
        return ("", worn)
    text = course.least_signs(state)
    rest = [cell for mark in list(text) + ["stop"] for cell in book.pattern(mark)]
    return (printed + text, worn + tuple(rest))


def least_case(chain, kind):
    """Return a case (price, text, worn) of a kind with the least price and the fewest signs, None if there is none."""
    check_kind(kind, KINDS)
    check_size(chain, WIDEST)
    course = Course(chain)
    search = search_cases(course, kind, None)
    if GOAL not in search.costs:
        return None
    way = search.way_to(GOAL)
    worn = []
    for halfway, standing in zip(way[::2], way[1::2]):
        worn.extend(_piece_between(course, halfway, standing))
    text, rest = _finish(course, chain.book, kind, way[-1])
    signs = "".join([halfway[1] for halfway in way[2::2]])
    return (search.costs[GOAL] // COST, signs + text, tuple(worn) + rest)


def sure(chain):
    """Tell whether no case is wrong."""
    return least_price(chain, "wrong") is None


def margin(chain):
    """Return the tuple of the least prices of "none", "wrong" and "unlike"."""
    check_size(chain, WIDEST)
    course = Course(chain)
    return tuple([_least_price(course, kind) for kind in KINDS])
