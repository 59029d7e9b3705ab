"""Rows, books, rules, wears and windows as texts (document, point 15).

What is read is written again: so it is taken only if it stands there as it is written.
"""

from surelabels.books import Book
from surelabels.cells import check_row, is_row
from surelabels.common import number_of
from surelabels.errors import BadBook, BadRule, BadWear, BadWindow, NoText
from surelabels.rules import Rule
from surelabels.wears import Wear
from surelabels.windows import Window


def show_row(row):
    """Return the text of a row: its cells, "-" for none."""
    check_row(row, "row")
    return "".join([str(cell) for cell in row]) if row else "-"


def show_book(book):
    """Return the text of a book: start, stop, and the signs with their rows."""
    words = ["start", show_row(book.start), "stop", show_row(book.stop)]
    for sign in book.signs:
        words.extend([sign, show_row(book.pattern(sign))])
    return " ".join(words)


def _show_numbers(numbers):
    """Return numbers with commas between two, "-" for none."""
    return ",".join([str(number) for number in numbers]) if numbers else "-"


def show_rule(rule):
    """Return the text of a rule: its signs, its good states, and the moves of each state."""
    moves = [_show_numbers(row) for row in rule.moves]
    return " ".join(["".join(rule.signs), "good", _show_numbers(rule.good)] + moves)


def _show_move(move):
    """Return the text of a move of a wear."""
    cell, worn, price, after = move
    return f"{cell}>{worn}:{price}:{after}"


def show_wear(wear):
    """Return the text of a wear: the moves of each standing place."""
    return " ".join([",".join([_show_move(move) for move in moves]) for moves in wear.moves])


def show_window(window):
    """Return the text of a window: its radius and its table."""
    return f"{window.radius} {show_row(window.table)}"


def _words_of(text, least):
    """Return the words of a text, at least so many, or raise NoText."""
    if not isinstance(text, str):
        raise NoText()
    words = text.split(" ")
    if len(words) < least:
        raise NoText()
    return words


def _check_written(text, shown):
    """Raise NoText where a text is not just what is written."""
    if text != shown:
        raise NoText()


def _numbers_of(words):
    """Return the tuple of the numbers that are written in some words, or raise NoText."""
    numbers = tuple([number_of(word) for word in words])
    if None in numbers:
        raise NoText()
    return numbers


def _listed(word):
    """Return the numbers that are written with commas between two, "-" being none, or raise NoText."""
    return () if word == "-" else _numbers_of(word.split(","))


def _row_of(word):
    """Return the row that is written in a word, the empty one for no word, too, or raise NoText."""
    row = () if word == "-" else _numbers_of(list(word))
    if not is_row(row):
        raise NoText()
    return row


def read_row(text):
    """Return the row whose text it is."""
    row = _row_of(_words_of(text, 1)[0])
    _check_written(text, show_row(row))
    return row


def read_book(text):
    """Return the book whose text it is."""
    words = _words_of(text, 4)
    start, stop, *rows = [_row_of(word) for word in words[1::2]]
    try:
        book = Book(dict(zip(words[4::2], rows)), start, stop)
    except BadBook:
        raise NoText() from None
    _check_written(text, show_book(book))
    return book


def read_rule(text):
    """Return the rule whose text it is."""
    words = _words_of(text, 3)
    moves = [_listed(word) for word in words[3:]]
    try:
        rule = Rule(tuple(words[0]), moves, _listed(words[2]))
    except BadRule:
        raise NoText() from None
    _check_written(text, show_rule(rule))
    return rule


def _move_of(word):
    """Return the move of a wear that is written in a word; that its signs are right is looked at later."""
    return _numbers_of(word.replace(">", ":").split(":"))


def read_wear(text):
    """Return the wear whose text it is."""
    places = [[_move_of(word) for word in part.split(",")] for part in _words_of(text, 1)]
    try:
        wear = Wear(places)
    except BadWear:
        raise NoText() from None
    _check_written(text, show_wear(wear))
    return wear


def read_window(text):
    """Return the window whose text it is."""
    words = _words_of(text, 2)
    radius = _numbers_of(words[:1])[0]
    try:
        window = Window(radius, _row_of(words[1]))
    except BadWindow:
        raise NoText() from None
    _check_written(text, show_window(window))
    return window
