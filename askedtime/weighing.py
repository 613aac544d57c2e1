"""The best offset: those that are true, the ones far off left out, weighed."""

from askedtime.roots import spread

# However far apart so few lie, all of them are weighed.
ALWAYS_WEIGHED = 3


def by_rank(views):
    """In order by stratum, then by distance, then by number."""
    # They come in order by number, and equal ones stay as they are.
    return sorted(views, key=lambda view: (view.stratum, view.distance))


def farthest(spreads):
    """The place of the greatest spread, of equal ones the last."""
    greatest = max(spreads)
    return max([place for place in range(len(spreads)) if spreads[place] == greatest])


def without_farthest(views):
    """All but the one farthest off; all of them if even that one is as near as a jitter."""
    offsets = [view.offset for view in views]
    spreads = [spread(offset, offsets) for offset in offsets]
    place = farthest(spreads)
    if spreads[place] < min([view.jitter for view in views]):
        return views
    return views[:place] + views[place + 1:]


def that_stay(views):
    """Those that are weighed, of those that are true in their order."""
    while len(views) > ALWAYS_WEIGHED:
        left = without_farthest(views)
        if len(left) == len(views):
            return views
        views = left
    return views


def weighed(views):
    """The mean of the offsets, the nearer weighing more."""
    # Over the product of all distances, each part is a whole number: nothing is lost before the end.
    product = 1
    for view in views:
        product = product * view.distance
    offsets = sum([view.offset * (product // view.distance) for view in views])
    weights = sum([product // view.distance for view in views])
    return offsets // weights
