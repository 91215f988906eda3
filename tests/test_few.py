"""Points 2, 4 and 22: all plans of a few jobs."""

import itertools
import math
import random
import unittest

from levelbench.errors import NoBench, NoTurns, TooMany
from levelbench.few import counted, fewest
from levelbench.jobs import Jobs
from levelbench.plans import fault
from samples import (CHAIN, DIAMOND, GATHERING, HUGE, LOOSE, MANY_BENCHES, NO_BENCHES, NO_NUMBERS, NONE, SPREADING,
                     TWENTY, all_by_a_row, asked, drawn_case, drawn_names, far_orders, refusal, same, scramble,
                     shortest_length, with_more_told)

SEVEN = ["g", "b", "f", "a", "e", "c", "d"]
ROW_OF_SEVEN = list(zip(SEVEN, SEVEN[1:]))
EIGHT = SEVEN + ["h"]
NO_TURNS = NO_NUMBERS + [-1, -2, -40, -HUGE, 41, 42, 100, HUGE, "0", "40", (7,)]


def reckoned_count(names, orders, benches, turns):
    """Each way to give each job a turn is looked at."""
    far = far_orders(names, orders)
    many = 0
    for chosen in itertools.product(range(turns), repeat=len(names)):
        at = dict(zip(names, chosen))
        in_order = all(at[one] < at[other] for one, other in far)
        if in_order and max([chosen.count(turn) for turn in chosen], default=0) <= benches:
            many += 1
    return many


class Refused(unittest.TestCase):
    def test_too_many(self):
        twenty = Jobs(TWENTY, [])
        for jobs in (Jobs(EIGHT, []), Jobs(EIGHT, list(zip(EIGHT, EIGHT[1:]))), Jobs(TWENTY[:9], []), twenty):
            for benches in (1, 2, 8, MANY_BENCHES):
                self.assertIs(type(refusal(fewest, jobs, benches)), TooMany)
                for turns in (0, 1, 8, 40):
                    self.assertIs(type(refusal(counted, jobs, benches, turns)), TooMany)

    def test_seven_are_not_too_many(self):
        for orders in ([], ROW_OF_SEVEN):
            self.assertIsNone(refusal(fewest, Jobs(SEVEN, orders), 2))
            self.assertIsNone(refusal(counted, Jobs(SEVEN, orders), 2, 7))

    def test_no_turns_comes_ahead_of_too_many(self):
        for turns in NO_TURNS:
            for jobs in (NONE, LOOSE, DIAMOND, Jobs(SEVEN, []), Jobs(EIGHT, []), Jobs(TWENTY, [])):
                for benches in (1, 2, MANY_BENCHES):
                    self.assertIs(type(refusal(counted, jobs, benches, turns)), NoTurns, turns)

    def test_benches_come_first(self):
        for benches in NO_BENCHES:
            for jobs in (NONE, LOOSE, DIAMOND, Jobs(EIGHT, []), Jobs(TWENTY, [])):
                self.assertIs(type(refusal(fewest, jobs, benches)), NoBench, benches)
                for turns in (0, 3, 40, 41, -1, True, None, "3"):
                    self.assertIs(type(refusal(counted, jobs, benches, turns)), NoBench, benches)


class Fewest(unittest.TestCase):
    def assert_fewest(self, names, orders, benches, wanted):
        jobs = Jobs(names, orders)
        plan = asked(fewest, jobs, benches)
        self.assertEqual([type(part) for part in [plan] + plan], [list] * (1 + len(plan)))
        self.assertIsNone(fault(jobs, benches, plan), (orders, plan))
        self.assertEqual(len(plan), wanted, (orders, benches, plan))

    def test_no_jobs_and_one(self):
        for benches in (1, 2, MANY_BENCHES):
            self.assertTrue(same(fewest(NONE, benches), []))
            self.assertTrue(same(fewest(Jobs(["a"], []), benches), [["a"]]))

    def test_seven_without_orders_and_in_a_row(self):
        for benches, wanted in ((1, 7), (2, 4), (3, 3), (4, 2), (6, 2), (7, 1), (8, 1), (MANY_BENCHES, 1)):
            self.assert_fewest(SEVEN, [], benches, wanted)
            self.assert_fewest(SEVEN, ROW_OF_SEVEN, benches, 7)

    def test_jobs_that_are_no_wood(self):
        orders = [pair for pair in itertools.product("abc", "defg") if pair[0] != "c" or pair[1] == "g"]
        for benches in (1, 2, 3, 4):
            self.assert_fewest(SEVEN, orders, benches, shortest_length(SEVEN, orders, benches))
        for benches, wanted in ((1, 4), (2, 3), (3, 3)):
            self.assert_fewest(DIAMOND.names(), DIAMOND.orders(), benches, wanted)

    def test_orders_of_five_against_all_plans(self):
        names = ["c", "e", "a", "d", "b"]
        for orders in all_by_a_row(["a", "b", "c", "d", "e"]):
            for benches in (1, 2, 3):
                self.assert_fewest(names, orders, benches, shortest_length(names, orders, benches))

    def test_drawn_jobs_against_all_plans(self):
        draw = random.Random(22)
        for _ in range(200):
            names, orders = drawn_case(draw, 7, least=5)
            benches = draw.choice([1, 2, 2, 3, 3, 4, 7, MANY_BENCHES])
            self.assert_fewest(names, orders, benches, shortest_length(names, orders, benches))

    def test_it_is_the_first_number_of_turns_that_has_plans(self):
        draw = random.Random(221)
        for _ in range(60):
            jobs, benches = Jobs(*drawn_case(draw, 7)), draw.choice([1, 2, 3, 4])
            length = len(fewest(jobs, benches))
            self.assertEqual([counted(jobs, benches, turns) for turns in range(length)], [0] * length)
            self.assertGreater(counted(jobs, benches, length), 0)

    def test_what_is_told_is_the_asker_s_own(self):
        draw = random.Random(2)
        for _ in range(40):
            names, orders = drawn_case(draw, 7)
            jobs, benches = Jobs(names, orders), draw.randint(1, 4)
            before = repr(fewest(jobs, benches))
            many = counted(jobs, benches, 9)
            scramble(fewest(jobs, benches))
            fewest(Jobs(*drawn_case(draw, 7)), benches)
            self.assertEqual(repr(fewest(jobs, benches)), before)
            self.assertEqual(repr(fewest(Jobs(names, orders), benches)), before)
            self.assertEqual(counted(jobs, benches, 9), many)

    def test_no_two_turns_of_a_plan_are_one_list(self):
        for benches in (1, 2, 3):
            plan = fewest(Jobs(SEVEN, ROW_OF_SEVEN[:3]), benches)
            self.assertEqual(len({id(row) for row in plan}), len(plan))


class Counted(unittest.TestCase):
    def test_without_jobs(self):
        for turns in range(41):
            for benches in (1, 2, MANY_BENCHES):
                self.assertTrue(same(counted(NONE, benches, turns), 1))

    def test_no_turns_with_jobs(self):
        for jobs in (LOOSE, CHAIN, DIAMOND, Jobs(["a"], []), Jobs(SEVEN, [])):
            for benches in (1, 2, MANY_BENCHES):
                self.assertTrue(same(counted(jobs, benches, 0), 0))

    def test_one_job(self):
        for turns in range(41):
            self.assertTrue(same(asked(counted, Jobs(["a"], []), 1, turns), turns))

    def test_two_jobs(self):
        loose, row = Jobs(["a", "b"], []), Jobs(["a", "b"], [("b", "a")])
        for turns in range(41):
            self.assertEqual(counted(loose, 1, turns), turns * (turns - 1))
            self.assertEqual(counted(loose, 2, turns), turns * turns)
            self.assertEqual(counted(loose, MANY_BENCHES, turns), turns * turns)
            self.assertEqual(counted(row, 1, turns), turns * (turns - 1) // 2)
            self.assertEqual(counted(row, 2, turns), turns * (turns - 1) // 2)

    def test_seven_without_orders_and_in_a_row(self):
        loose, row = Jobs(SEVEN, []), Jobs(SEVEN, ROW_OF_SEVEN)
        for turns in (0, 1, 6, 7, 8, 20, 39, 40):
            self.assertEqual(counted(loose, 1, turns), math.perm(turns, 7))
            for benches in (7, 8, MANY_BENCHES):
                self.assertEqual(counted(loose, benches, turns), turns ** 7)
            self.assertEqual(counted(loose, 6, turns), turns ** 7 - turns)
            for benches in (1, 2, 7, MANY_BENCHES):
                self.assertEqual(counted(row, benches, turns), math.comb(turns, 7))

    def test_another_sequence_within_a_turn_is_the_same_plan(self):
        self.assertEqual(counted(LOOSE, 3, 1), 1)
        self.assertEqual(counted(LOOSE, 2, 2), 6)
        self.assertEqual(counted(DIAMOND, 2, 3), 1)
        self.assertEqual(counted(DIAMOND, 1, 4), 2)
        self.assertEqual(counted(GATHERING, 2, 2), 1)
        self.assertEqual(counted(SPREADING, 1, 3), 2)

    def test_empty_turns_are_let(self):
        self.assertEqual(counted(DIAMOND, 2, 4), 6)
        self.assertEqual(counted(CHAIN, 1, 4), 4)

    def test_orders_of_four_against_each_way(self):
        names = ["c", "a", "d", "b"]
        for orders in all_by_a_row(["a", "b", "c", "d"]):
            for benches, turns in itertools.product((1, 2, 3), range(5)):
                wanted = reckoned_count(names, orders, benches, turns)
                self.assertTrue(same(counted(Jobs(names, orders), benches, turns), wanted), (orders, benches, turns))

    def test_drawn_jobs_against_each_way(self):
        draw = random.Random(222)
        for _ in range(60):
            names, orders = drawn_case(draw, 6, least=4)
            benches, turns = draw.choice([1, 2, 2, 3, 3, 4, MANY_BENCHES]), draw.randint(2, 5)
            wanted = reckoned_count(names, orders, benches, turns)
            self.assertEqual(asked(counted, Jobs(names, orders), benches, turns), wanted, (orders, benches, turns))

    def test_the_same_number_however_it_is_told(self):
        draw = random.Random(4)
        for _ in range(60):
            names, orders = drawn_case(draw, 7)
            benches, turns = draw.randint(1, 4), draw.randint(0, 40)
            wanted = counted(Jobs(names, orders), benches, turns)
            told = [
                Jobs(draw.sample(names, len(names)), draw.sample(orders, len(orders))),
                Jobs(names, orders + orders),
                Jobs(names, with_more_told(draw, names, orders)),
                Jobs(names, orders).turned(),
            ]
            other = dict(zip(names, drawn_names(draw, len(names))))
            told.append(Jobs(list(other.values()), [(other[x], other[y]) for x, y in orders]))
            self.assertEqual([counted(jobs, benches, turns) for jobs in told], [wanted] * 5)

    def test_an_order_more_leaves_no_more_plans_and_a_bench_more_no_fewer(self):
        draw = random.Random(44)
        for _ in range(60):
            names, orders = drawn_case(draw, 7, least=2)
            turns = draw.randint(0, 12)
            many = [counted(Jobs(names, orders), benches, turns) for benches in (1, 2, 3, 4, 7, 8, MANY_BENCHES)]
            self.assertEqual(many, sorted(many))
            one, other = draw.sample(names, 2)
            if (other, one) not in far_orders(names, orders):
                self.assertLessEqual(counted(Jobs(names, orders + [(one, other)]), 2, turns), many[1])


if __name__ == "__main__":
    unittest.main()
