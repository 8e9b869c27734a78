"""Where polynomials turn, on whole numbers alone."""


def rise(poly):
    """The Poly of how much poly rises from each place to the next one."""
    return poly.moved(1, 1) - poly


def summits(poly, last):
    """0, last, and all integers between them ahead of which poly rises, but not behind them, or the other way about."""
    return [0] + [place + 1 for place in changes(rise(poly), last - 1)] + [last]


def changes(poly, last):
    """All integers from 0 on, ahead of last, at which poly is above 0, but not at the next one, or the other way."""
    if poly.degree() < 1:
        return []
    # From one of these stops to the next one poly rises at all steps, or at none.
    stops = [0] + [place + 1 for place in changes(rise(poly), last - 1)] + [last]
    found = []
    for low, high in zip(stops, stops[1:]):
        if _is_up(poly, low) != _is_up(poly, high):
            found.append(_change(poly, low, high))
    return found


def _change(poly, low, high):
    """The integer from low on, ahead of high, behind which poly is no longer above 0, or first is."""
    sign = _is_up(poly, low)
    while high - low > 1:
        middle = (low + high) // 2
        if _is_up(poly, middle) == sign:
            low = middle
        else:
            high = middle
    return low


def _is_up(poly, place):
    """Whether poly is above 0 at a place."""
    return poly.at(place)[0] > 0
