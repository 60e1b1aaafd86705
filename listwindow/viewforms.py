"""The forms of deeds of a view: what they do to all views."""

from listwindow.checks import check_columns, check_columns_from_zero, check_words
from listwindow.clickforms import form_of, formed
from listwindow.filters import last_only, with_only
from listwindow.folding import fold_form
from listwindow.views import View


def view_form(deeds):
    check_words(("sort", "only", "fold", "all"), deeds)
    check_columns_from_zero([deed[1] for deed in deeds if deed[0] in ("sort", "only")])
    clicks = [deed[1] for deed in deeds if deed[0] == "sort"]
    return (form_of(clicks), last_only([deed for deed in deeds if deed[0] == "only"]), _fold_forms(deeds))


def _fold_forms(deeds):
    """The fold forms of what is done to the groups of each column that was clicked last, None for none."""
    column = None
    parts = {}
    for deed in deeds:
        if deed[0] == "sort":
            column = deed[1]
        elif deed[0] != "only":
            parts.setdefault(column, []).append(deed)
    columns = [None] + sorted([told for told in list(parts) if told is not None])
    forms = [(told, fold_form(parts.get(told, []))) for told in columns]
    return [pair for pair in forms if pair[1] != (False, [])]


def views_alike(one, other):
    return view_form(one) == view_form(other)


def by_view_form(form, view):
    clicks, only, fold_forms = form
    check_columns(view.table.width, [column for column, sign in clicks[0]] + [deed[1] for deed in only])
    folds = view.folds
    for clicked, (cleared, values) in fold_forms:
        for column in _columns_told(clicked, view.sorting):
            folds[column] = _behind_form(folds[column], cleared, values)
    return View(view.table, formed(clicks, view.sorting), with_only(view.filters, only), folds)


def _columns_told(clicked, sorting):
    """The column whose groups are meant: ahead of all clicks that of the first key, if there is one."""
    return [column for column, sign in sorting[:1]] if clicked is None else [clicked]


def _behind_form(folded, cleared, values):
    left = [] if cleared else folded
    return [value for value in left if value not in values] + [value for value in values if value not in left]
