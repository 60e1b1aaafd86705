"""Seen: which lines a window shows at a scroll, and the scrolls at which lines and rows are seen."""

from listwindow.checks import check_height, check_position, check_shown, check_there
from listwindow.errors import InvalidNumber, InvalidRow
from listwindow.folding import all_ways_to_fold
from listwindow.groupforms import shortest_deeds
from listwindow.rooms import room_of, turned_by


def seen_lines(view, height, scroll):
    check_height(height)
    lines = view.lines()
    if not 0 <= scroll <= room_of(len(lines), height):
        raise InvalidNumber(scroll)
    return _seen(lines, height, scroll)


def _seen(lines, height, scroll):
    seen = lines[scroll:scroll + height]
    heads = [line for line in lines[:scroll] if line[0] == "head"]
    # The head of its group stays in the place of a row that would be the first line.
    if heads and seen[0][0] == "row":
        return heads[-1:] + seen[1:]
    return seen


def seen_at_most(view, height, scroll):
    """The lines that are seen at a scroll, or at the room if that is less."""
    lines = view.lines()
    return _seen(lines, height, min(scroll, room_of(len(lines), height)))


def scrolls_for(view, height, line):
    check_height(height)
    lines = view.lines()
    check_position(len(lines), line)
    return _span(lines, height, line)


def _span(lines, height, line):
    """The least and the greatest scroll at which a line stands in the window."""
    return (max(line - height + 1, 0), min(line, room_of(len(lines), height)))


def scrolls_showing(view, height, row):
    check_height(height)
    lines = view.lines()
    _check_line_of(lines, row)
    least, greatest = _row_span(lines, height, row)
    return list(range(least, greatest + 1))


def _check_line_of(lines, row):
    if ("row", row) not in lines:
        raise InvalidRow(row)


def _check_lines_of(lines, rows):
    for row in rows:
        _check_line_of(lines, row)
    check_there(rows)


def _row_span(lines, height, row):
    """The least and the greatest scroll at which the line of a row is seen; if it never is, the greatest is less."""
    line = lines.index(("row", row))
    least, greatest = _span(lines, height, line)
    # Among groups a row is never the first line that is seen.
    return (least, min(greatest, line - 1) if _has_groups(lines) else greatest)


def _has_groups(lines):
    return lines[0][0] == "head"


def _head_span(lines, height, line):
    """The least and the greatest scroll at which a head is seen, in the place of one of its rows, too."""
    heads = [at for at in range(line + 1, len(lines)) if lines[at][0] == "head"]
    behind = min(heads, default=len(lines))
    return (_span(lines, height, line)[0], min(behind - 1, room_of(len(lines), height)))


def stops(view, height):
    check_height(height)
    lines = view.lines()
    heads = [_head_span(lines, height, at) for at, line in enumerate(lines) if line[0] == "head"]
    return _fewest_in(heads + [_row_span(lines, height, row) for row in view.open_rows()])


def _fewest_in(spans):
    """The first, as lists, of the shortest ascending lists with a scroll in each span, None if a span has none."""
    if not _have_scrolls(spans):
        return None
    found = []
    left = spans
    while left:
        needed = _number_needed(left)
        least = min([span[0] for span in left])
        greatest = min([span[1] for span in left])
        # The least scroll behind which one less is enough for the spans that begin later.
        scrolls = [scroll for scroll in range(least, greatest + 1) if _number_needed(_beyond(left, scroll)) < needed]
        found.append(scrolls[0])
        left = _beyond(left, scrolls[0])
    return found


def _have_scrolls(spans):
    return all([least <= greatest for least, greatest in spans])


def _number_needed(spans):
    """How many scrolls are needed for one in each span: each as late as the span that ends first allows."""
    number = 0
    left = spans
    while left:
        left = _beyond(left, min([span[1] for span in left]))
        number += 1
    return number


def _beyond(spans, scroll):
    return [span for span in spans if span[0] > scroll]


def told_scrolls(view, height, seen):
    lines = view.lines()
    scrolls = list(range(room_of(len(lines), height) + 1))
    return [scroll for scroll in scrolls if _seen(lines, height, scroll) == seen]


def told_starts(view, height, turns, seen):
    check_height(height)
    if len(seen) != len(turns) + 1:
        raise InvalidNumber(len(seen))
    lines = view.lines()
    scrolls = list(range(room_of(len(lines), height) + 1))
    return [scroll for scroll in scrolls if _seen_along(lines, height, scroll, turns) == seen]


def _seen_along(lines, height, scroll, turns):
    rooms = (room_of(len(lines), height), 0)
    scrolls = (scroll, 0)
    told = [_seen(lines, height, scroll)]
    for turn in turns:
        scrolls = turned_by(rooms, scrolls, [turn])
        told.append(_seen(lines, height, scrolls[0]))
    return told


def fewest_scrolls(view, height, rows):
    check_height(height)
    lines = view.lines()
    _check_lines_of(lines, rows)
    return _fewest_in([_row_span(lines, height, row) for row in rows])


def never_together(view, height, rows):
    check_height(height)
    lines = view.lines()
    _check_lines_of(lines, rows)
    told = [row for row in view.open_rows() if row in rows]
    spans = [_row_span(lines, height, row) for row in told]
    return _first_apart(told, spans) if _have_scrolls(spans) else None


def _first_apart(rows, spans):
    """The first, as lists, of the longest lists of rows whose spans, one after the other, have no scroll in common."""
    lengths = _lengths_apart(spans)
    found = []
    reached = -1
    for length in range(max(lengths, default=0), 0, -1):
        told = [(rows[at], spans[at][1]) for at in range(len(rows)) if lengths[at] == length and spans[at][0] > reached]
        row, reached = min(told)
        found.append(row)
    return found


def _lengths_apart(spans):
    """For each span how many, from it on, can follow each other without a scroll in common, at most."""
    lengths = []
    for least, greatest in spans[::-1]:
        later = spans[len(spans) - len(lengths):]
        follow = [length for span, length in zip(later, lengths) if span[0] > greatest]
        lengths = [1 + max(follow, default=0)] + lengths
    return lengths


def least_height(view, rows):
    lines = view.lines()
    _check_lines_of(lines, rows)
    if not rows:
        return None
    places = [lines.index(("row", row)) for row in rows]
    first = min(places) - 1 if _has_groups(lines) else min(places)
    return (max(places) - first + 1, first)


def fewest_to_see(view, height, rows):
    check_height(height)
    check_shown(view.shown(), rows)
    return shortest_deeds([deeds for left, deeds in all_ways_to_fold(view)
                           if all([row in left for row in rows]) and _are_seen_at_once(view.done(deeds), height, rows)])


def _are_seen_at_once(view, height, rows):
    lines = view.lines()
    spans = [_row_span(lines, height, row) for row in rows]
    return max([span[0] for span in spans], default=0) <= min([span[1] for span in spans], default=0)
