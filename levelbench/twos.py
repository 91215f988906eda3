"""A shortest plan on two benches, and the blocks that show that none is shorter."""

from levelbench.plans import listed
from levelbench.ranks import ranks


def two_plan(jobs):
    dealt = ranks(jobs)
    row = sorted(jobs.names(), key=lambda name: dealt[name], reverse=True)
    plan = listed(jobs, 2, row)
    return (plan, blocks_of(plan, dealt))


def blocks_of(plan, dealt):
    blocks = []
    place = len(plan) - 1
    while place >= 0:
        first = plan[place][0]
        cut = place_ahead(plan, dealt, place)
        blocks.append(joined_turns(plan[cut + 1:place]) + [first])
        place = cut
    return list(reversed(blocks))


def place_ahead(plan, dealt, place):
    # Between the place told here and the one handed in both benches do jobs of no lesser rank. These jobs all had
    # to wait for the first job of the place told here: else one of them would stand beside it.
    rank = dealt[plan[place][0]]
    for earlier in range(place - 1, -1, -1):
        row = plan[earlier]
        if len(row) < 2 or dealt[row[1]] < rank:
            return earlier
    return -1


def joined_turns(turns):
    row = []
    for turn in turns:
        row.extend(turn)
    return row
