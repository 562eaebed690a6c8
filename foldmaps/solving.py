"""The first map in order that solves an equation of maps, or None where no map solves it."""

from foldmaps.points import steps, then


def undo(a):
    # A point that nothing goes to is free, and 0 is the first that it can take.
    return [a.index(point) if point in a else 0 for point in range(len(a))]


def before(a, b):
    if any([goal not in a for goal in b]):
        return None
    return [a.index(goal) for goal in b]


def behind(a, b):
    found = [b[a.index(point)] if point in a else 0 for point in range(len(a))]
    # Points that a takes together can't be parted behind it.
    if then(a, found) != b:
        return None
    return found


def alike(a, b):
    partners = partners_of(a, b)
    placed = {}
    # No choice is ever taken back: each placed point brings all that it goes to, and has the same shape hanging
    # on it as its partner, so if a and b are alike at all, what is still to be placed fits what is left.
    for point in range(len(a)):
        if point not in placed:
            placed = first_placing(a, b, partners, placed, point)
            if placed is None:
                return None
    return [placed[point] for point in range(len(a))]


def first_placing(a, b, partners, placed, point):
    for partner in partners[point]:
        grown = placing(a, b, partners, placed, point, partner)
        if grown is not None:
            return grown
    return None


def placing(a, b, partners, placed, point, partner):
    grown = dict(placed)
    here = point
    there = partner
    while here not in grown:
        if there not in partners[here] or there in list(grown.values()):
            return None
        grown[here] = there
        here = a[here]
        there = b[there]
    if grown[here] != there:
        return None
    return grown


def partners_of(a, b):
    shapes = shapes_of(b)
    return [places_of(shape, shapes) for shape in shapes_of(a)]


def places_of(shape, shapes):
    return [place for place in range(len(shapes)) if shapes[place] == shape]


def shapes_of(a):
    far = steps(a)
    hanging = [() for point in a]
    # The farthest first: what hangs on a point is known before the point that it goes to is looked at.
    for point in sorted(range(len(a)), key=lambda place: -far[place]):
        fallen = [hanging[place] for place in range(len(a)) if a[place] == point and far[place] > 0]
        hanging[point] = tuple(sorted(fallen))
    return list(zip(far, hanging))
