"""Covers: all ways to tell marks by the fewest tokens, and which clicks make which borders."""

from listwindow.checks import check_clicks, check_marks_there, check_there
from listwindow.errors import InvalidNumber, InvalidValue
from listwindow.marks import blocks, borders, cost, marked


def count_covers(there, marks):
    check_there(there)
    check_marks_there(there, marks)
    number = 1
    for first, last in blocks(there, marks):
        number *= _number_of_parts(first, last)
    return number


def _number_of_parts(first, last):
    """In how many ways a block is told by the fewest tokens: one of an odd number of borders stands alone."""
    return (last - first) // 2 + 1 if (last - first) % 2 == 0 else 1


def cover_at(there, marks, index):
    number = count_covers(there, marks)
    if not 0 <= index < number:
        raise InvalidNumber(index)
    left = index
    cover = []
    # The last block changes first, as lists are ordered.
    for first, last in blocks(there, marks)[::-1]:
        cover = _part(first, last, left % _number_of_parts(first, last)) + cover
        left //= _number_of_parts(first, last)
    return cover


def _part(first, last, pairs):
    """The tokens of a block, so many pairs ahead of the border that stands alone, if one does."""
    tokens = []
    border = first
    while border <= last:
        if (last - first) % 2 == 0 and len(tokens) == pairs:
            tokens.append((border,))
            border += 1
        else:
            tokens.append((border, border + 1))
            border += 2
    return tokens


def clicks_of_cover(there, marks, cover):
    number = cost(there, marks)
    told = [border for token in cover for border in token]
    if told != borders(there, marks) or len(cover) != number or not all([_is_token(token) for token in cover]):
        raise InvalidValue(list(cover))
    return _clicks_of(cover)


def _is_token(token):
    return len(token) == 1 or len(token) == 2 and token[1] == token[0] + 1


def _clicks_of(cover):
    alone = [token[0] for token in cover if len(token) == 1]
    clicks = []
    for first, behind in zip(alone[::2], alone[1::2]):
        clicks.extend([("click", first), ("range", behind - 1)])
    return clicks + [("click", token[0]) for token in cover if len(token) == 2]


def is_cheapest(there, marks, clicks):
    number = cost(there, marks)
    made, _ = marked(there, [], None, clicks)
    return made == marks and len(clicks) == number


def makers(there, clicks):
    check_there(there)
    check_clicks(len(there), clicks)
    last = {}
    standing = []
    for index in range(len(clicks)):
        made, _ = marked(there, [], None, clicks[:index + 1])
        behind = borders(there, made)
        for border in behind:
            if border not in standing:
                last[border] = index
        standing = behind
    return [(border, last[border]) for border in standing]


def idle_clicks(there, clicks):
    busy = [index for border, index in makers(there, clicks)]
    return [index for index in range(len(clicks)) if index not in busy]
