"""Jobs of one turn each, and which of them stand ahead of which."""

from levelbench.errors import NoName, Ring, Stranger, TooMany, Twice
from levelbench.kinds import is_name, is_one_of, own_copy

MOST_JOBS = 20


def check_names(names):
    if len(names) > MOST_JOBS:
        raise TooMany("there are more than twenty names")
    for thing in names:
        if not is_name(thing):
            raise NoName(own_copy(thing))
    seen = {}
    for name in names:
        if name in seen:
            raise Twice(name)
        seen[name] = True


def check_parts(names, orders):
    for order in orders:
        for part in order:
            check_job(names, part)


def check_job(names, thing):
    if not is_one_of(thing, names):
        raise Stranger(own_copy(thing))


def told_ahead(names, orders):
    told = {}
    for name in names:
        told[name] = []
    for one, other in orders:
        told[other].append(one)
    return told


def has_all(done, names):
    return all([name in done for name in names])


def all_ahead(names, told):
    # A job is gone through only when all told ahead of it are, so what is ahead of those is known by then.
    far = {}
    left = list(names)
    while left:
        free = [name for name in left if has_all(far, told[name])]
        if not free:
            raise Ring(ring_among(left, told))
        for name in free:
            far[name] = joined(told[name], far)
        left = [name for name in left if name not in far]
    return far


def joined(near, far):
    found = {}
    for name in near:
        found[name] = True
        found.update(far[name])
    return found


def ring_among(left, told):
    # Each job left has one told ahead of it that is left too, so a walk against the orders must come back.
    trail = []
    here = left[0]
    while here not in trail:
        trail.append(here)
        here = [name for name in told[here] if name in left][0]
    ring = trail[trail.index(here):]
    return list(reversed(ring))


class Jobs:
    def __init__(self, names, orders):
        check_names(names)
        check_parts(names, orders)
        self.row = list(names)
        self.pairs = sorted(set([(one, other) for one, other in orders]))
        self.above = all_ahead(self.row, told_ahead(self.row, self.pairs))

    def names(self):
        return list(self.row)

    def orders(self):
        return list(self.pairs)

    def is_ahead(self, one, other):
        check_job(self.row, one)
        check_job(self.row, other)
        return one in self.above[other]

    def behind(self, name):
        check_job(self.row, name)
        return [other for other in self.row if name in self.above[other]]

    def ahead(self, name):
        check_job(self.row, name)
        return [other for other in self.row if other in self.above[name]]

    def straight(self, name):
        later = self.behind(name)
        return [other for other in later if not self.has_between(later, other)]

    def has_between(self, later, other):
        return any([name in self.above[other] for name in later])

    def turned(self):
        return Jobs(self.row, [(other, one) for one, other in self.pairs])
