"""Effects: what clicks on rows do, whatever was marked before."""

from listwindow.checks import check_clicks, check_marks_of, check_number, check_there_of
from listwindow.errors import InvalidNumber
from listwindow.sources import sources_behind


def effect_of(rows, there, anchor, clicks):
    check_number(rows)
    check_there_of(rows, there)
    check_clicks(len(there), clicks)
    effect, _ = _effect_and_anchor(rows, there, anchor, clicks)
    return effect


def _effect_and_anchor(rows, there, anchor, clicks):
    sources, last = sources_behind(there, anchor, clicks)
    effect = [(row, False) for row in range(rows)]
    for row, (source, turned) in zip(there, sources):
        effect[row] = (there[source], turned)
    return (effect, last)


def marks_by(effect, marks):
    check_marks_of(len(effect), marks)
    return [row for row, (source, turned) in enumerate(effect) if (source in marks) != turned]


def then(one, other):
    if len(one) != len(other):
        raise InvalidNumber(len(other))
    return [(one[source][0], one[source][1] != turned) for source, turned in other]


def sources_rise(there, effect):
    check_there_of(len(effect), there)
    sources = [effect[row][0] for row in there]
    if not all([source in there for source in sources]):
        return False
    told = [there.index(source) for source in sources]
    return told == sorted(told)


def same_for(rows, there, anchor, one, other):
    mine, others = _both(rows, there, anchor, one, other)
    return mine == others


def _both(rows, there, anchor, one, other):
    """The effects, and the anchors then, of two lists of clicks."""
    check_number(rows)
    check_there_of(rows, there)
    check_clicks(len(there), one)
    check_clicks(len(there), other)
    return [_effect_and_anchor(rows, there, anchor, clicks) for clicks in (one, other)]


def first_marks_apart(rows, there, anchor, one, other):
    (mine, _), (others, _) = _both(rows, there, anchor, one, other)
    pairs = [(told, met) for told, met in zip(mine, others) if told != met]
    if not pairs:
        return None
    # Without marks a row tells which of its sources is turned; if none differs there, one mark tells two sources.
    if any([told[1] != met[1] for told, met in pairs]):
        return []
    return [min([min(told[0], met[0]) for told, met in pairs])]


def same_made(effect, marks, other):
    return marks_by(effect, marks) == marks_by(effect, other)


def forgotten(effect):
    sources = [source for source, turned in effect]
    return [row for row in range(len(effect)) if row not in sources]
