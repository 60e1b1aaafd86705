"""Readings: tables, sortings, scripts and lines read back from texts."""

from listwindow.checks import are_keys
from listwindow.errors import Unreadable
from listwindow.naming import is_name
from listwindow.tables import Table

PARTS = {
    "sort": ("place",),
    "only": ("place", "bound", "bound"),
    "fold": ("number",),
    "one": ("number",),
    "all": (),
    "click": ("place",),
    "range": ("place",),
    "turn": ("number",),
    "visit": ("name",),
}


def read_table(text):
    shown, colon, rest = text.partition(":")
    width = _from_zero(shown, text)
    if width < 1 or colon == "" or rest[:1] not in ("", " "):
        raise Unreadable(text)
    rows = [[_integer(cell, text) for cell in row.split(",")] for row in rest.split(" ")[1:]]
    if not all([len(cells) == width for cells in rows]):
        raise Unreadable(text)
    return Table(width, rows)


def read_sorting(text):
    sorting = [_key(shown, text) for shown in _split(text)]
    if not are_keys(sorting):
        raise Unreadable(text)
    return sorting


def _split(text):
    return [] if text == "." else text.split(" ")


def _key(shown, text):
    if shown[:1] not in ("+", "-"):
        raise Unreadable(text)
    return (_from_zero(shown[1:], text), 1 if shown[:1] == "+" else -1)


def read_script(text):
    if text == ".":
        return []
    return [_deed(shown.split(" "), text) for shown in text.split("; ")]


def _deed(words, text):
    word = words[0]
    if word not in PARTS or len(words) - 1 != len(PARTS[word]):
        raise Unreadable(text)
    return tuple([word] + [_part(kind, shown, text) for kind, shown in zip(PARTS[word], words[1:])])


def _part(kind, shown, text):
    if kind == "name":
        if not is_name(shown):
            raise Unreadable(text)
        return shown
    if kind == "bound" and shown == "*":
        return None
    return _from_zero(shown, text) if kind == "place" else _integer(shown, text)


def read_lines(text):
    shown = _split(text)
    lines = []
    at = 0
    while at < len(shown):
        if shown[at].startswith("#"):
            lines.append(("row", _from_zero(shown[at][1:], text)))
            at += 1
        else:
            lines.append(("head", _integer(shown[at], text), _number_of_rows(shown[at + 1:at + 2], text)))
            at += 2
    return lines


def _number_of_rows(shown, text):
    """The number in round brackets behind the value of a head."""
    if not shown or not shown[0].startswith("(") or not shown[0].endswith(")"):
        raise Unreadable(text)
    number = _from_zero(shown[0][1:-1], text)
    if number == 0:
        raise Unreadable(text)
    return number


def _from_zero(shown, text):
    number = _integer(shown, text)
    if number < 0:
        raise Unreadable(text)
    return number


def _integer(shown, text):
    digits = shown[1:] if shown.startswith("-") else shown
    is_plain = shown == "0" or not digits.startswith("0")
    if not digits.isdigit() or not is_plain or len(digits) > 60:
        raise Unreadable(text)
    return int(shown)
