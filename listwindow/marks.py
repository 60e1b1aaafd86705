"""Marks: what clicks and range clicks mark among the rows that are there, and what it costs."""

from listwindow.checks import check_clicks, check_marks, check_marks_there, check_there
from listwindow.sources import sources_behind


def marked(there, marks, anchor, clicks):
    check_there(there)
    check_marks(marks)
    check_clicks(len(there), clicks)
    sources, last = sources_behind(there, anchor, clicks)
    made = [row for row, (source, turned) in zip(there, sources) if (there[source] in marks) != turned]
    return (sorted([row for row in marks if row not in there] + made), last)


def positions(there, rows):
    check_there(there)
    return [position for position, row in enumerate(there) if row in rows]


def anchor_after(there, anchor, clicks):
    check_there(there)
    check_clicks(len(there), clicks)
    _, last = sources_behind(there, anchor, clicks)
    return last


def borders(there, marks):
    check_there(there)
    check_marks(marks)
    told = [False] + [row in marks for row in there] + [False]
    return [border for border in range(len(there) + 1) if told[border] != told[border + 1]]


def blocks(there, marks):
    told = borders(there, marks)
    firsts = [border for border in told if border - 1 not in told]
    lasts = [border for border in told if border + 1 not in told]
    return list(zip(firsts, lasts))


def cost(there, marks):
    check_there(there)
    check_marks_there(there, marks)
    return sum([(last - first + 2) // 2 for first, last in blocks(there, marks)])
