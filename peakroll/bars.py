"""Entries in order, and bars: of entries, and of two bars together."""


def empty():
    """The bar of no entries."""
    return (0, 0, None, None, None, None)


def in_order(entries):
    return sorted([tuple(entry) for entry in entries], key=place_of)


def place_of(entry):
    # The value has no part in it: entries of one moment and key stay as they stood.
    return (entry[0], entry[1])


def bar_of(entries):
    rows = in_order(entries)
    if not rows:
        return empty()
    values = [row[2] for row in rows]
    return (len(rows), sum(values), min(values), max(values), rows[0], rows[-1])


def joined(one, other):
    """The bar of all entries of two bars that have no key in common."""
    # A bar of no entries has no least, no greatest and no ends to be compared.
    bars = [bar for bar in (one, other) if bar[0] > 0]
    if not bars:
        return empty()
    ends = in_order([bar[4] for bar in bars] + [bar[5] for bar in bars])
    return (
        sum([bar[0] for bar in bars]),
        sum([bar[1] for bar in bars]),
        min([bar[2] for bar in bars]),
        max([bar[3] for bar in bars]),
        ends[0],
        ends[-1],
    )
