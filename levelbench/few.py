"""All plans of a few jobs: a shortest one, and how many there are of just so many turns."""

from levelbench.errors import NoTurns, TooMany
from levelbench.kinds import check_benches, is_whole
from levelbench.plans import is_ready

MOST_FEW = 7
MOST_TURNS = 40


def check_few(jobs):
    if len(jobs.names()) > MOST_FEW:
        raise TooMany("there are more than seven jobs")


def check_turns(turns):
    if not is_whole(turns) or not 0 <= turns <= MOST_TURNS:
        raise NoTurns("turns are a whole number from 0 to 40")


def fewest(jobs, benches):
    check_benches(benches)
    check_few(jobs)
    steps = all_steps(jobs, benches)
    plans = {(): []}
    while tuple(jobs.names()) not in plans:
        plans = plans_one_turn_on(steps, plans)
    return plans[tuple(jobs.names())]


def plans_one_turn_on(steps, plans):
    # One plan for all that do the same jobs in as many turns: what can follow is the same for each of them.
    later = {}
    for done, plan in plans.items():
        for row, now in steps[done]:
            later[now] = plan + [row]
    return later


def counted(jobs, benches, turns):
    check_benches(benches)
    check_turns(turns)
    check_few(jobs)
    steps = all_steps(jobs, benches)
    ways = {(): 1}
    for number in range(turns):
        ways = ways_one_turn_on(steps, ways)
    return ways.get(tuple(jobs.names()), 0)


def ways_one_turn_on(steps, ways):
    later = {}
    for done, many in ways.items():
        for row, now in steps[done]:
            later[now] = later.get(now, 0) + many
    return later


def all_steps(jobs, benches):
    steps = {}
    left = [()]
    while left:
        done = left.pop()
        if done not in steps:
            steps[done] = steps_from(jobs, benches, done)
            left.extend([now for row, now in steps[done]])
    return steps


def steps_from(jobs, benches, done):
    names = jobs.names()
    free = [name for name in names if name not in done and is_ready(jobs, done, name)]
    # What is done stands in the jobs' order, so that the same jobs are the same key however they came to be done.
    return [(row, tuple([name for name in names if name in done or name in row])) for row in rows_of(free, benches)]


def rows_of(names, most):
    rows = [[]]
    for name in names:
        rows = rows + [row + [name] for row in rows if len(row) < most]
    return rows
