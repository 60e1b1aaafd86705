"""Sources: whose mark each row has behind clicks, whatever the marks were."""


def sources_behind(there, anchor, clicks):
    """For each position the one whose mark is there behind clicks, and whether it is turned; and the anchor then."""
    last = anchor
    sources = [(position, False) for position in range(len(there))]
    for word, position in clicks:
        if word == "range" and last in there:
            at = there.index(last)
            low, high = sorted([at, position])
            sources = sources[:low] + [sources[at]] * (high - low + 1) + sources[high + 1:]
        else:
            source, turned = sources[position]
            sources[position] = (source, not turned)
            last = there[position]
    return (sources, last)
