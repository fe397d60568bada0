"""Things put in an order that is told by a def alone, for fractions and points have none of Python's own."""


def in_order(things, earlier):
    """A new list of the things; earlier(one, other) tells whether the one stands ahead of the other."""
    if len(things) < 2:
        return list(things)
    half = len(things) // 2
    return merged(in_order(things[:half], earlier), in_order(things[half:], earlier), earlier)


def merged(ones, others, earlier):
    """Two lists in order made one."""
    whole = []
    at = 0
    for other in others:
        while at < len(ones) and not earlier(other, ones[at]):
            whole.append(ones[at])
            at += 1
        whole.append(other)
    return whole + ones[at:]
