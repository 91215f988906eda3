"""Points 2, 4 and 14: woods, their shortest plans, and the number that shows it."""

import itertools
import random
import unittest

from levelbench.errors import NoBench, NoWood
from levelbench.jobs import Jobs
from levelbench.plans import fault
from levelbench.woods import is_gathering, is_spreading, wood_plan
from samples import (CHAIN, DIAMOND, GATHERING, LOOSE, MANY_BENCHES, NO_BENCHES, NONE, SPREADING, TWENTY,
                     all_by_a_row, asked, drawn_case, drawn_names, far_orders, gathering_orders, near_orders,
                     reckoned_height, refusal, scramble, shortest_length, spreading_orders, with_more_told)

CHAIN_TOLD_TWICE = Jobs(["c", "b", "a"], [("a", "b"), ("b", "c"), ("a", "c"), ("a", "b")])
ZIGZAG = Jobs(["a", "b", "c", "d"], [("a", "c"), ("b", "c"), ("b", "d")])
APART = Jobs(["a", "b", "c", "d", "e", "f"], [("a", "c"), ("b", "c"), ("d", "e"), ("d", "f")])


def reckoned_sorts(names, orders):
    near = near_orders(names, orders)
    gathering = all(sum(1 for x, y in near if x == name) <= 1 for name in names)
    spreading = all(sum(1 for x, y in near if y == name) <= 1 for name in names)
    return (gathering, spreading)


def length(names, orders, benches):
    return len(wood_plan(Jobs(names, orders), benches)[0])


class Sorts(unittest.TestCase):
    def assert_sorts(self, jobs, gathering, spreading):
        self.assertIs(asked(is_gathering, jobs), gathering)
        self.assertIs(asked(is_spreading, jobs), spreading)
        self.assertIs(is_gathering(jobs.turned()), spreading)
        self.assertIs(is_spreading(jobs.turned()), gathering)

    def test_both(self):
        for jobs in (NONE, Jobs(["a"], []), LOOSE, CHAIN, CHAIN_TOLD_TWICE):
            self.assert_sorts(jobs, True, True)

    def test_one_or_the_other(self):
        self.assert_sorts(GATHERING, True, False)
        self.assert_sorts(SPREADING, False, True)

    def test_neither(self):
        for jobs in (DIAMOND, ZIGZAG, APART):
            self.assert_sorts(jobs, False, False)

    def test_an_order_told_that_follows_takes_no_wood_away(self):
        self.assert_sorts(Jobs(TWENTY, list(itertools.combinations(TWENTY, 2))), True, True)
        near = [("a", "c"), ("b", "c"), ("c", "d")]
        self.assert_sorts(Jobs(["a", "b", "c", "d"], near + [("a", "d"), ("b", "d")]), True, False)
        turned = [(other, one) for one, other in near]
        self.assert_sorts(Jobs(["a", "b", "c", "d"], turned + [("d", "a"), ("d", "b")]), False, True)

    def test_orders_of_four_as_reckoned(self):
        for orders in all_by_a_row(["a", "b", "c", "d"]):
            self.assert_sorts(Jobs(["d", "b", "a", "c"], orders), *reckoned_sorts(["d", "b", "a", "c"], orders))

    def test_drawn_jobs_as_reckoned(self):
        draw = random.Random(14)
        for _ in range(150):
            names, orders = drawn_case(draw, 12)
            self.assert_sorts(Jobs(names, orders), *reckoned_sorts(names, orders))


class WoodPlan(unittest.TestCase):
    def assert_shown(self, names, orders, benches):
        jobs = Jobs(names, orders)
        told = asked(wood_plan, jobs, benches)
        self.assertEqual((type(told), len(told)), (tuple, 2))
        plan, paper = told
        self.assertEqual((type(plan), type(paper), len(paper)), (list, tuple, 2))
        self.assertIsNone(fault(jobs, benches, plan), (names, orders, plan))
        word, k = paper
        self.assertIn(word, ("behind", "ahead"))
        self.assertIs(type(k), int)
        self.assertGreaterEqual(k, 0)
        if not names:
            self.assertEqual((plan, k), ([], 0))
            return 0
        far = set(near_orders(names, orders))
        if word == "ahead":
            far = {(other, one) for one, other in far}
        many = sum(1 for name in names if reckoned_height(far, name) > k)
        self.assertGreater(many, 0)
        self.assertEqual(-(-many // benches) + k, len(plan), (names, orders, benches, told))
        return len(plan)

    def test_no_jobs(self):
        for benches in (1, 2, 3, MANY_BENCHES):
            self.assertEqual(self.assert_shown([], [], benches), 0)

    def test_one_job(self):
        for benches in (1, 2, MANY_BENCHES):
            plan, paper = wood_plan(Jobs(["a"], []), benches)
            self.assertEqual((plan, paper[1]), ([["a"]], 0))

    def test_jobs_without_orders(self):
        for many, benches in itertools.product(range(1, 21), (1, 2, 3, 7, 19, 20, 21, MANY_BENCHES)):
            self.assertEqual(self.assert_shown(TWENTY[:many], [], benches), -(-many // benches))

    def test_a_row_of_twenty(self):
        for orders in (list(zip(TWENTY, TWENTY[1:])), list(itertools.combinations(TWENTY, 2))):
            for benches in (1, 2, 3, MANY_BENCHES):
                self.assertEqual(self.assert_shown(TWENTY, orders, benches), 20)

    def test_a_number_above_nought(self):
        # Five at once, then a row of three: two turns for the five and the first, and two more behind them.
        names = ["a", "b", "c", "d", "e", "f", "g", "h"]
        orders = [(name, "f") for name in "abcde"] + [("f", "g"), ("g", "h")]
        for benches, turns in ((1, 8), (2, 6), (3, 5), (4, 5), (5, 4), (6, 4)):
            self.assertEqual(self.assert_shown(names, orders, benches), turns)
            self.assertEqual(self.assert_shown(names, [(y, x) for x, y in orders], benches), turns)

    def test_the_highest_first(self):
        # Taking a, b and c ahead of the row would cost a turn.
        names = ["a", "b", "c", "p", "q", "r"]
        for orders in ([("p", "q"), ("q", "r")], [("r", "q"), ("q", "p")]):
            self.assertEqual(self.assert_shown(names, orders, 2), 3)
        gathering = [("x", "y"), ("y", "z"), ("a", "z"), ("b", "z"), ("c", "z")]
        self.assertEqual(self.assert_shown(["a", "b", "c", "x", "y", "z"], gathering, 2), 4)
        spreading = [(other, one) for one, other in gathering]
        self.assertEqual(self.assert_shown(["a", "b", "c", "x", "y", "z"], spreading, 2), 4)

    def test_no_wood(self):
        for jobs in (DIAMOND, ZIGZAG, APART, DIAMOND.turned(), ZIGZAG.turned(), APART.turned()):
            for benches in (1, 2, 3, 4, 20, MANY_BENCHES):
                self.assertIs(type(refusal(wood_plan, jobs, benches)), NoWood)

    def test_benches_come_first(self):
        for benches in NO_BENCHES:
            for jobs in (NONE, LOOSE, GATHERING, SPREADING, DIAMOND, ZIGZAG):
                self.assertIs(type(refusal(wood_plan, jobs, benches)), NoBench, benches)

    def test_orders_of_five_against_all_plans(self):
        names = ["c", "e", "a", "d", "b"]
        for orders in all_by_a_row(["a", "b", "c", "d", "e"]):
            if not any(reckoned_sorts(names, orders)):
                self.assertIs(type(refusal(wood_plan, Jobs(names, orders), 2)), NoWood)
                continue
            for benches in (1, 2, 3):
                wanted = shortest_length(names, orders, benches)
                self.assertEqual(self.assert_shown(names, orders, benches), wanted, (orders, benches))

    def test_drawn_woods_against_all_plans(self):
        draw = random.Random(141)
        for _ in range(120):
            names, orders = drawn_case(draw, 7, [gathering_orders, spreading_orders])
            for benches in (1, 2, 3, 4, 8):
                wanted = shortest_length(names, orders, benches)
                self.assertEqual(self.assert_shown(names, orders, benches), wanted, (orders, benches))

    def test_drawn_woods_up_to_twenty(self):
        draw = random.Random(1414)
        for sort in (gathering_orders, spreading_orders):
            for _ in range(150):
                names, orders = drawn_case(draw, 20, [sort])
                self.assert_shown(names, orders, draw.choice([1, 2, 3, 4, 5, 19, 21, MANY_BENCHES]))
            for benches in (1, 2, 3, 4, 5, 20, MANY_BENCHES):
                self.assert_shown(*drawn_case(draw, 20, [sort], least=20), benches)

    def test_drawn_jobs_that_may_be_no_wood(self):
        draw = random.Random(14141)
        for _ in range(150):
            names, orders = drawn_case(draw, 8)
            if any(reckoned_sorts(names, orders)):
                self.assert_shown(names, orders, draw.randint(1, 4))
            else:
                self.assertIs(type(refusal(wood_plan, Jobs(names, orders), draw.randint(1, 4))), NoWood)

    def test_the_same_length_however_it_is_told(self):
        draw = random.Random(4)
        for _ in range(100):
            names, orders = drawn_case(draw, 20, [gathering_orders, spreading_orders])
            benches = draw.randint(1, 5)
            wanted = length(names, orders, benches)
            self.assertEqual(length(draw.sample(names, len(names)), draw.sample(orders, len(orders)), benches), wanted)
            self.assertEqual(length(names, orders + orders, benches), wanted)
            self.assertEqual(length(names, with_more_told(draw, names, orders), benches), wanted)
            self.assertEqual(length(names, [(y, x) for x, y in orders], benches), wanted)
            other = dict(zip(names, drawn_names(draw, len(names))))
            self.assertEqual(length(list(other.values()), [(other[x], other[y]) for x, y in orders], benches), wanted)

    def test_a_bench_more_never_makes_it_longer(self):
        draw = random.Random(44)
        for _ in range(80):
            names, orders = drawn_case(draw, 20, [gathering_orders, spreading_orders])
            lengths = [length(names, orders, benches) for benches in (1, 2, 3, 4, 5, 6, 20, MANY_BENCHES)]
            self.assertEqual(lengths, sorted(lengths, reverse=True))

    def test_an_order_more_never_makes_it_shorter(self):
        draw = random.Random(444)
        tried = 0
        for _ in range(300):
            names, orders = drawn_case(draw, 12, [gathering_orders, spreading_orders], least=2)
            more = orders + [tuple(draw.sample(names, 2))]
            if (more[-1][1], more[-1][0]) in far_orders(names, orders) or not any(reckoned_sorts(names, more)):
                continue
            tried += 1
            benches = draw.randint(1, 4)
            self.assertGreaterEqual(length(names, more, benches), length(names, orders, benches))
        self.assertGreater(tried, 30)

    def test_what_is_told_is_the_asker_s_own(self):
        draw = random.Random(2)
        for _ in range(40):
            names, orders = drawn_case(draw, 12, [gathering_orders, spreading_orders])
            jobs, benches = Jobs(names, orders), draw.randint(1, 4)
            before = repr(wood_plan(jobs, benches))
            scramble(wood_plan(jobs, benches))
            wood_plan(Jobs(*drawn_case(draw, 12, [gathering_orders])), benches)
            self.assertEqual(repr(wood_plan(jobs, benches)), before)
            self.assertEqual(repr(wood_plan(Jobs(names, orders), benches)), before)


if __name__ == "__main__":
    unittest.main()
