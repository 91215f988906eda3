"""Plans: their faults, the turn of a job, the turns that jobs fill, and plans listed by a row."""

from levelbench.errors import NoRow
from levelbench.kinds import check_benches, is_one_of, own_copy


def fault(jobs, benches, plan):
    check_benches(benches)
    earlier = {}
    for number, row in enumerate(plan, start=1):
        found = turn_fault(jobs, benches, earlier, row)
        if found is not None:
            return (found[0], number, found[1])
        take(earlier, row)
    for name in jobs.names():
        if name not in earlier:
            return ("missing", name)
    return None


def turn_fault(jobs, benches, earlier, row):
    names = jobs.names()
    for thing in row:
        if not is_one_of(thing, names):
            return ("stranger", own_copy(thing))
    stood = dict(earlier)
    for name in row:
        if name in stood:
            return ("again", name)
        stood[name] = True
    for name in row:
        if not is_ready(jobs, earlier, name):
            return ("early", name)
    if len(row) > benches:
        return ("wide", len(row))
    return None


def is_ready(jobs, earlier, name):
    return all([one in earlier for one in jobs.ahead(name)])


def take(taken, row):
    for name in row:
        taken[name] = True


def turn_of(plan, name):
    for number, row in enumerate(plan, start=1):
        if name in row:
            return number
    return None


def turns_filled(many, benches):
    return (many + benches - 1) // benches


def listed(jobs, benches, row):
    check_benches(benches)
    check_row(jobs.names(), row)
    plan = []
    taken = {}
    left = list(row)
    while left:
        ready = [name for name in left if is_ready(jobs, taken, name)]
        turn = ready[:benches]
        plan.append(turn)
        take(taken, turn)
        left = [name for name in left if name not in taken]
    return plan


def check_row(names, row):
    # Only names of jobs may come to sorted: it can't put things of any kind beside one another.
    if not all([is_one_of(thing, names) for thing in row]) or sorted(row) != sorted(names):
        raise NoRow("each job stands in the row just once, and nothing else")
