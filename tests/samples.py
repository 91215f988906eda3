"""What several tests need: odd things, drawn jobs, and plain reckonings to hold the program's against."""

import itertools

from levelbench.errors import BenchError
from levelbench.jobs import Jobs
from levelbench.plans import listed

NO_TEXTS = [None, 0, 1, -7, 10 ** 59, True, False, 2.5, (), ("a",), ("a", "b"), [], ["a"], [["a"], {"a": 1}],
            {}, {"a": 1}, {"a": ["b"]}]
NO_NAME_TEXTS = ["", " ", "abcdefghi", "abcdefghijklmnop", "A", "aB", "Ab", "a1", "1", "a b", " a", "a ",
                 "a-b", "a_b", "<", ";", "/", "`a", "a{", "@"]
NO_NAMES = NO_TEXTS + NO_NAME_TEXTS
NO_KEYS = NO_NAME_TEXTS + [None, 0, 1, True, 2.5, (), ("a",), (1, 2)]
NO_BENCHES = [0, -1, -2, -10 ** 59, True, False, None, "", "2", "two", [], [2], (2,), {}, {2: 2}, 2.0]
MANY_BENCHES = 10 ** 60 - 1
TWENTY = [letter * 2 for letter in "tsrqponmlkjihgfedcba"]

NONE = Jobs([], [])
LOOSE = Jobs(["c", "b", "a"], [])
CHAIN = Jobs(["c", "b", "a"], [("a", "b"), ("b", "c")])
GATHERING = Jobs(["a", "b", "c"], [("a", "c"), ("b", "c")])
SPREADING = Jobs(["a", "b", "c"], [("a", "c"), ("a", "b")])
DIAMOND = Jobs(["a", "b", "c", "d"], [("a", "b"), ("a", "c"), ("b", "d"), ("c", "d")])
GOOD_ENDS = {"a": 1, "b": 2, "c": 3}
HUGE = 10 ** 60 - 1
NO_NUMBERS = [True, False, None, "", "1", "a", [], [1], (), (1,), {}, {1: 1}, 1.0, 2.5]
BAD_ENDS = (
    [{}, {"a": 1}, {"a": 1, "b": 2}, {"b": 2, "c": 3}, {"a": 1, "c": 3}]
    + [{**GOOD_ENDS, key: 4} for key in ["d", "", "A", "aa", 1, None, True, (), ("a",), 2.5]]
    + [{"a": 1, "b": 2, key: 3} for key in ["d", "", "C", "cc", 3, None, False, ("c",)]]
    + [{**GOOD_ENDS, name: thing} for thing in NO_NUMBERS for name in "abc"]
    + [{**GOOD_ENDS, "d": None}, {"a": None}, {1: None}, {None: 1}]
)


def same(one, other):
    """Equal, and of the same kinds all through: 1 is not True here."""
    return repr(one) == repr(other) and one == other


def refusal(ask, *things):
    """The refusal that comes of asking, or None. What was handed in must have stayed as it was."""
    before = written(things)
    try:
        ask(*things)
    except BenchError as refused:
        found = refused
    else:
        found = None
    if written(things) != before:
        raise AssertionError(f"{before} became {written(things)}")
    return found


def asked(ask, *things):
    """What is told. What was handed in must have stayed as it was."""
    before = written(things)
    told = ask(*things)
    if written(things) != before:
        raise AssertionError(f"{before} became {written(things)}")
    return told


def written(things):
    return repr([(thing.names(), thing.orders()) if isinstance(thing, Jobs) else thing for thing in things])


def subsets(pairs):
    for many in range(len(pairs) + 1):
        for chosen in itertools.combinations(pairs, many):
            yield list(chosen)


def far_orders(names, orders):
    """All pairs that follow of the told ones (Warshall's way)."""
    far = set(orders)
    for middle in names:
        for one in names:
            for other in names:
                if (one, middle) in far and (middle, other) in far:
                    far.add((one, other))
    return far


def near_orders(names, orders):
    """The pairs that follow of the told ones, without those that have a job between."""
    far = far_orders(names, orders)
    return [(x, y) for x, y in far if not any((x, z) in far and (z, y) in far for z in names)]


def reckoned_height(pairs, name):
    return 1 + max([reckoned_height(pairs, other) for one, other in pairs if one == name], default=0)


def goes_round(names, orders):
    far = far_orders(names, orders)
    return any((name, name) in far for name in names)


def all_ringless(names):
    """Each set of orders over these names that does not go round."""
    for orders in subsets(list(itertools.permutations(names, 2))):
        if not goes_round(names, orders):
            yield orders


def drawn_names(draw, many):
    names = set()
    while len(names) < many:
        names.add("".join(draw.choice("abcdefghijklmnopqrstuvwxyz") for _ in range(draw.randint(1, 8))))
    return draw.sample(sorted(names), many)


def any_orders(draw, row):
    share = draw.choice([0.05, 0.15, 0.3, 0.6])
    return [pair for pair in itertools.combinations(row, 2) if draw.random() < share]


def gathering_orders(draw, row):
    share = draw.choice([0.5, 0.8, 1.0])
    return [(name, draw.choice(row[place + 1:])) for place, name in enumerate(row[:-1]) if draw.random() < share]


def spreading_orders(draw, row):
    return [(one, other) for other, one in gathering_orders(draw, row[::-1])]


def layered_orders(draw, row):
    layers = []
    while row:
        many = draw.randint(1, 4)
        layers.append(row[:many])
        row = row[many:]
    pairs = [pair for one, other in zip(layers, layers[1:]) for pair in itertools.product(one, other)]
    share = draw.choice([0.5, 0.8, 1.0])
    return [pair for pair in pairs if draw.random() < share]


def with_more_told(draw, names, orders):
    """The same orders, some told twice, and some told that follow of others, in any sequence."""
    far = sorted(far_orders(names, orders))
    more = draw.sample(far, draw.randint(0, min(len(far), 60)))
    told = (orders + more + more[:5])[:200] if len(orders) <= 130 else list(orders)
    return draw.sample(told, len(told))


SORTS = [any_orders, gathering_orders, spreading_orders, layered_orders]


def drawn_case(draw, most, sorts=None, least=0):
    """Names and orders, as they would be handed in."""
    names = drawn_names(draw, draw.randint(least, most))
    orders = draw.choice(sorts or SORTS)(draw, draw.sample(names, len(names)))
    if draw.random() < 0.5:
        orders = with_more_told(draw, names, orders)
    return names, orders


def all_by_a_row(row):
    """Each set of orders in which one told earlier in the row stands ahead of a later one."""
    return subsets(list(itertools.combinations(row, 2)))


def next_done(far, names, done, benches):
    """All that can be done behind one more turn, a turn with no job among them."""
    free = [name for name in names if name not in done and all(one in done for one, other in far if other == name)]
    for many in range(min(len(free), benches) + 1):
        for turn in itertools.combinations(free, many):
            yield turn, done | frozenset(turn)


def shortest_length(names, orders, benches):
    """The length of the shortest right plan: all of them are gone through turn by turn."""
    far = far_orders(names, orders)
    reached, length = {frozenset()}, 0
    while frozenset(names) not in reached:
        reached = {later for done in reached for _, later in next_done(far, names, done, benches)}
        length += 1
    return length


def least_lateness(names, orders, benches, ends):
    """The least lateness of all right plans, gone through turn by turn; as many turns as jobs are enough."""
    far = far_orders(names, orders)
    reached = {frozenset(): -10 ** 99}
    for turn in range(1, len(names) + 1):
        later = {}
        for done, late in reached.items():
            for row, now in next_done(far, names, done, benches):
                worst = max([late] + [turn - ends[name] for name in row])
                later[now] = min(worst, later.get(now, worst))
        reached = later
    return reached[frozenset(names)]


def reckoned_mended(names, orders, benches, ends):
    """Mended ends by their words: over all numbers e that lie near enough to an end to matter."""
    far = far_orders(names, orders)
    near = range(min(ends.values(), default=0) - len(names) - 2, max(ends.values(), default=0) + 3)
    found = {}
    while len(found) < len(names):
        for name in names:
            behind = [other for other in names if (name, other) in far]
            if name in found or not all(other in found for other in behind):
                continue
            numbers = [ends[name]]
            for e in near:
                many = sum(1 for other in behind if found[other] <= e)
                if many > 0:
                    numbers.append(e - -(-many // benches))
            found[name] = min(numbers)
    return found


def drawn_ends(draw, names, plan):
    """Ends that lie near to where a right plan would meet them; some of them anywhere."""
    at = {name: turn for turn, row in enumerate(plan, start=1) for name in row}
    slack = draw.choice([(0, 0), (0, 2), (-1, 0), (-1, 1), (-2, 3), (-5, 9)])
    ends = {name: at[name] + draw.randint(*slack) for name in draw.sample(names, len(names))}
    if names and draw.random() < 0.3:
        ends[draw.choice(names)] = draw.randint(-3, len(names) + 2)
    return ends


def drawn_jobs_and_ends(draw, most, benches, least=0):
    """On more than two benches gathering ones alone."""
    names, orders = drawn_case(draw, most, None if benches <= 2 else [gathering_orders], least)
    jobs = Jobs(names, orders)
    ends = drawn_ends(draw, names, listed(jobs, benches, draw.sample(names, len(names))))
    return names, orders, ends


def scramble(told):
    """Changes each list and dict of what is told, and those within it."""
    if isinstance(told, (list, tuple)):
        for part in told:
            scramble(part)
    if isinstance(told, dict):
        for part in told.values():
            scramble(part)
        told.clear()
        told["scrambled"] = [0]
    if isinstance(told, list):
        told.reverse()
        told.append("scrambled")
        told[0] = ["scrambled"]
