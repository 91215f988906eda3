"""The lateness of a plan by ends, and the least that there is, with what shows that no plan has less."""

from levelbench.ends import due_by, first_late, mended_for_plan, soonest_first
from levelbench.errors import NoJob


def lateness(plan, ends):
    found = []
    for number, row in enumerate(plan, start=1):
        found.extend([number - ends[name] for name in row])
    return max(found)


def least_late(jobs, benches, ends):
    due = mended_for_plan(jobs, benches, ends)
    if not due:
        raise NoJob("without jobs there is no lateness")
    plan = soonest_first(jobs, benches, due)
    most = lateness(plan, ends)
    # Were each end later by one turn less than that, the plan would not meet them, and so no plan would.
    turn = due[first_late(plan, due, most - 1)]
    return (most, plan, turn, due_by(jobs, due, turn))
