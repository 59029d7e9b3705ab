"""What texts a worn label can have been (document, points 12.1 and 12.2)."""

from surelabels.common import check_from
from surelabels.errors import BadRow, TooMany
from surelabels.fits import MOST_TEXTS, Fits, Scan, is_fit_row


def _fits_of(chain, worn):
    """Return the texts whose labels fit a worn row, or raise BadRow."""
    if not is_fit_row(chain, worn):
        raise BadRow("worn")
    return Fits(chain, [Scan(chain, worn)])


def prices_of(chain, worn, most):
    """List the pairs (price, text) of the texts whose labels have a price of at most `most` for a worn row."""
    fits = _fits_of(chain, worn)
    check_from(most, 0, "most")
    found = fits.texts(most, MOST_TEXTS)
    if found is None:
        raise TooMany(MOST_TEXTS)
    return found


def mended(chain, worn):
    """Return the least price of a label for a worn row, and all texts whose labels have it; None if there is none."""
    fits = _fits_of(chain, worn)
    least = fits.bound()
    if least is None:
        return None
    found = fits.texts(least, MOST_TEXTS)
    if found is None:
        raise TooMany(MOST_TEXTS)
    return (least, [text for _, text in found])


def is_one(chain, worn):
    """Tell whether just one text has the least price of a label for a worn row."""
    fits = _fits_of(chain, worn)
    least = fits.bound()
    return least is not None and fits.texts(least, 1) is not None
