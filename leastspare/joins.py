"""Things that hang together."""


def heads_of(many, groups):
    """Return for each of so many things the least one of those that hang together with it, by these groups."""
    heads = list(range(many))
    for group in groups:
        for other in group[1:]:
            low, high = sorted([_head(heads, group[0]), _head(heads, other)])
            heads[high] = low
    return [_head(heads, thing) for thing in range(many)]


def _head(heads, thing):
    now = thing
    while heads[now] != now:
        # The way to the head gets shorter with each look, so that long chains cost little.
        heads[now] = heads[heads[now]]
        now = heads[now]
    return now
