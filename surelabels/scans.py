"""What several scans of one label tell together (document, point 14)."""

from itertools import combinations

from surelabels.books import label
from surelabels.cells import is_row
from surelabels.chains import is_let
from surelabels.common import check_from, list_of
from surelabels.errors import BadList, NoText, TooMany
from surelabels.fits import MOST_TEXTS, Fits, Scan, is_fit_row
from surelabels.readers import read
from surelabels.wears import price_of


def _scans_of(chain, thing):
    """Return 1 to 5 rows of one length, which labels of a chain can have, as a tuple, or raise BadList."""
    scans = list_of(thing, 1, 5)
    for index, scan in enumerate(scans):
        if not is_fit_row(chain, scan) or len(scan) != len(scans[0]):
            raise BadList(index)
    return scans


def fitting(chain, scans, most):
    """List the pairs (price, text) of the texts for which all scans together have a price of at most `most`."""
    rows = _scans_of(chain, scans)
    check_from(most, 0, "most")
    found = Fits(chain, [Scan(chain, row) for row in rows]).texts(most, MOST_TEXTS)
    if found is None:
        raise TooMany(MOST_TEXTS)
    return found


def sure_signs(chain, scans, most):
    """List the sign that all texts that fit have at each place, None where they differ; None if no text fits."""
    texts = [text for _, text in fitting(chain, scans, most)]
    if not texts:
        return None
    first = texts[0]
    return [sign if all([text[place] == sign for text in texts]) else None for place, sign in enumerate(first)]


def _own_prices(chain, rows, text):
    """List the prices of a text's label for some worn rows, or raise NoText."""
    if not is_let(chain, text):
        raise NoText()
    row = label(chain.book, text)
    if len(row) != len(rows[0]):
        raise NoText()
    prices = [price_of(chain.wear, row, worn) for worn in rows]
    if None in prices:
        raise NoText()
    return prices


def least_scans(chain, scans, text):
    """Return the least tuple of indexes of scans, the fewest first, that tell a text alone, None if there is none."""
    rows = _scans_of(chain, scans)
    prices = _own_prices(chain, rows, text)
    kept = [Scan(chain, row) for row in rows]
    for count in range(1, len(rows) + 1):
        for chosen in combinations(range(len(rows)), count):
            fits = Fits(chain, [kept[index] for index in chosen])
            # The text itself is always found.
            if fits.texts(sum([prices[index] for index in chosen]), 1) is not None:
                return chosen
    return None


def voted(reader, rows):
    """Return the text that is read in the row of what more of some rows have at each place, or None."""
    things = list_of(rows, 1, 9)
    for index, thing in enumerate(things):
        if not is_row(thing) or len(thing) % reader.width != 0 or len(thing) != len(things[0]):
            raise BadList(index)
    return read(reader, tuple([int(2 * sum(cells) > len(things)) for cells in zip(*things)]))
