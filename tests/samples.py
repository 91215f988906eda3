"""What several tests need: odd things, and a plain reckoning of orders to hold the program's against."""

import itertools

from levelbench.errors import BenchError
from levelbench.jobs import Jobs

NO_TEXTS = [None, 0, 1, -7, 10 ** 59, True, False, 2.5, (), ("a",), ("a", "b"), [], ["a"], [["a"], {"a": 1}],
            {}, {"a": 1}, {"a": ["b"]}]
NO_NAME_TEXTS = ["", " ", "abcdefghi", "abcdefghijklmnop", "A", "aB", "Ab", "a1", "1", "a b", " a", "a ",
                 "a-b", "a_b", "<", ";", "/", "`a", "a{", "@"]
NO_NAMES = NO_TEXTS + NO_NAME_TEXTS
NO_BENCHES = [0, -1, -2, -10 ** 59, True, False, None, "", "2", "two", [], [2], (2,), {}, {2: 2}, 2.0]
MANY_BENCHES = 10 ** 60 - 1
TWENTY = [letter * 2 for letter in "tsrqponmlkjihgfedcba"]


def same(one, other):
    """Equal, and of the same kinds all through: 1 is not True here."""
    return repr(one) == repr(other) and one == other


def refusal(ask, *things):
    """The refusal that comes of asking, or None. What was handed in must have stayed as it was."""
    before = written(things)
    try:
        ask(*things)
    except BenchError as refused:
        found = refused
    else:
        found = None
    if written(things) != before:
        raise AssertionError(f"{before} became {written(things)}")
    return found


def written(things):
    return repr([(thing.names(), thing.orders()) if isinstance(thing, Jobs) else thing for thing in things])


def subsets(pairs):
    for many in range(len(pairs) + 1):
        for chosen in itertools.combinations(pairs, many):
            yield list(chosen)


def far_orders(names, orders):
    """All pairs that follow of the told ones (Warshall's way)."""
    far = set(orders)
    for middle in names:
        for one in names:
            for other in names:
                if (one, middle) in far and (middle, other) in far:
                    far.add((one, other))
    return far


def goes_round(names, orders):
    far = far_orders(names, orders)
    return any((name, name) in far for name in names)


def all_ringless(names):
    """Each set of orders over these names that does not go round."""
    for orders in subsets(list(itertools.permutations(names, 2))):
        if not goes_round(names, orders):
            yield orders
