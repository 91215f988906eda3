"""Woods: shortest plans on any number of benches, and the number that shows that none is shorter."""

from levelbench.errors import NoWood
from levelbench.heights import heights
from levelbench.kinds import check_benches
from levelbench.plans import listed, turns_filled


def is_gathering(jobs):
    return all([len(jobs.straight(name)) <= 1 for name in jobs.names()])


def is_spreading(jobs):
    return is_gathering(jobs.turned())


def wood_plan(jobs, benches):
    check_benches(benches)
    if is_gathering(jobs):
        plan = highest_first(jobs, benches)
        return (plan, ("behind", paper_number(heights(jobs), benches, len(plan))))
    turned = jobs.turned()
    if is_gathering(turned):
        plan = highest_first(turned, benches)
        return (list(reversed(plan)), ("ahead", paper_number(heights(turned), benches, len(plan))))
    raise NoWood("the jobs are neither gathering nor spreading")


def highest_first(jobs, benches):
    high = heights(jobs)
    return listed(jobs, benches, sorted(jobs.names(), key=lambda name: high[name], reverse=True))


def paper_number(high, benches, length):
    for number in range(length):
        many = len([name for name in high if high[name] > number])
        if turns_filled(many, benches) + number == length:
            return number
    # Only a plan without turns comes here: of a wood's other plans one number always fits.
    return 0
