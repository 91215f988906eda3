"""Ranks of jobs, dealt from those behind to those ahead."""

from levelbench.jobs import has_all


def ranks(jobs):
    near = {}
    for name in jobs.names():
        near[name] = jobs.straight(name)
    dealt = {}
    left = jobs.names()
    while left:
        ready = [name for name in left if has_all(dealt, near[name])]
        least = min(ready, key=lambda name: falling_ranks(dealt, near[name]))
        dealt[least] = len(dealt) + 1
        left.remove(least)
    return dealt


def falling_ranks(dealt, row):
    return sorted([dealt[name] for name in row], reverse=True)
