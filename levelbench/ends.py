"""Ends of jobs: mended ones, and plans that meet them, or what shows that none does."""

from levelbench.errors import NoEnd, NoWood
from levelbench.heights import last_ones_first
from levelbench.kinds import check_benches, is_whole
from levelbench.plans import listed, turns_filled
from levelbench.woods import is_gathering


def check_ends(jobs, ends):
    names = jobs.names()
    if not isinstance(ends, dict) or not all([name in ends for name in names]):
        raise NoEnd("a job has no end")
    if len(ends) > len(names):
        raise NoEnd("something that has an end is no job")
    if not all([is_whole(end) for end in ends.values()]):
        raise NoEnd("an end is no whole number")


def mended(jobs, benches, ends):
    check_benches(benches)
    check_ends(jobs, ends)
    found = {}
    for name in last_ones_first(jobs):
        later = [found[other] for other in jobs.behind(name)]
        found[name] = min([ends[name]] + [latest_turn(benches, later, end) for end in later])
    return found


def latest_turn(benches, later, end):
    # Only the mended ends of those behind are looked at as ends: from one to the next no more jobs are wanted.
    many = len([other for other in later if other <= end])
    return end - turns_filled(many, benches)


def mended_for_plan(jobs, benches, ends):
    due = mended(jobs, benches, ends)
    if benches > 2 and not is_gathering(jobs):
        raise NoWood("on more than two benches the jobs must be gathering")
    return due


def soonest_first(jobs, benches, due):
    return listed(jobs, benches, sorted(jobs.names(), key=lambda name: due[name]))


def first_late(plan, due, grace):
    for number, row in enumerate(plan, start=1):
        for name in row:
            if number > due[name] + grace:
                return name
    return None


def due_by(jobs, due, turn):
    return [name for name in jobs.names() if due[name] <= turn]


def met(jobs, benches, ends):
    due = mended_for_plan(jobs, benches, ends)
    plan = soonest_first(jobs, benches, due)
    late = first_late(plan, due, 0)
    if late is None:
        return ("plan", plan)
    # All turns ahead of the late job's are full of jobs that are due no later than it: else one that it waits for
    # would have come too late itself.
    return ("late", due[late], due_by(jobs, due, due[late]))
