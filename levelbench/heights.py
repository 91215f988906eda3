"""Heights and depths of jobs, and a longest row of jobs each ahead of the next one."""


def last_ones_first(jobs):
    # All that are behind a job have fewer behind them than it has itself, so they come ahead of it here.
    return sorted(jobs.names(), key=lambda name: len(jobs.behind(name)))


def heights(jobs):
    found = {}
    for name in last_ones_first(jobs):
        found[name] = 1 + max([found[other] for other in jobs.behind(name)], default=0)
    return found


def depths(jobs):
    return heights(jobs.turned())


def longest(jobs):
    high = heights(jobs)
    row = []
    left = jobs.names()
    while left:
        top = max(left, key=lambda name: high[name])
        row.append(top)
        left = jobs.behind(top)
    return row
