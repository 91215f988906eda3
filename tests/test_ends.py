"""Points 2, 15, 16 and 17: ends, mended ends, and whether they can be met."""

import copy
import itertools
import random
import unittest

from levelbench.ends import mended, met
from levelbench.errors import NoBench, NoEnd, NoWood
from levelbench.jobs import Jobs
from levelbench.plans import fault, listed, turn_of
from samples import (BAD_ENDS, CHAIN, DIAMOND, GATHERING, GOOD_ENDS, HUGE, LOOSE, MANY_BENCHES, NO_BENCHES, NONE,
                     SPREADING, TWENTY, all_by_a_row, all_ringless, asked, drawn_case, drawn_jobs_and_ends,
                     gathering_orders, least_lateness, reckoned_mended, refusal, same, scramble)


class Refused(unittest.TestCase):
    def test_no_end(self):
        for ask, benches in itertools.product((mended, met), (1, 2, 3, MANY_BENCHES)):
            for jobs in (LOOSE, CHAIN, GATHERING):
                for ends in BAD_ENDS:
                    self.assertIs(type(refusal(ask, jobs, benches, ends)), NoEnd, ends)
                self.assertIsNone(refusal(ask, jobs, benches, GOOD_ENDS))

    def test_no_end_without_jobs(self):
        for ask in (mended, met):
            for key in ["a", "", 1, None, True, ()]:
                self.assertIs(type(refusal(ask, NONE, 2, {key: 1})), NoEnd, key)
                self.assertIs(type(refusal(ask, NONE, 2, {key: None})), NoEnd, key)

    def test_ends_that_are_no_dict(self):
        for ask in (mended, met):
            for ends in [None, 3, True, "abc", [], ["a", "b", "c"], [("a", 1), ("b", 2), ("c", 3)], ("a", "b", "c")]:
                self.assertIs(type(refusal(ask, LOOSE, 2, ends)), NoEnd, ends)

    def test_benches_come_first(self):
        for benches in NO_BENCHES:
            for jobs, ends in itertools.product((NONE, LOOSE, DIAMOND), ({}, GOOD_ENDS, {"a": None}, {7: 7})):
                for ask in (mended, met):
                    self.assertIs(type(refusal(ask, jobs, benches, ends)), NoBench, benches)

    def test_no_wood(self):
        ends = {"a": 1, "b": 2, "c": 3, "d": 4}
        for benches in (3, 4, 20, MANY_BENCHES):
            self.assertIs(type(refusal(met, DIAMOND, benches, ends)), NoWood)
            self.assertIs(type(refusal(met, SPREADING, benches, GOOD_ENDS)), NoWood)
            self.assertIsNone(refusal(met, GATHERING, benches, GOOD_ENDS))
            self.assertIsNone(refusal(met, CHAIN, benches, GOOD_ENDS))
            self.assertIsNone(refusal(mended, DIAMOND, benches, ends))
            self.assertIsNone(refusal(mended, SPREADING, benches, GOOD_ENDS))
        for benches in (1, 2):
            self.assertIsNone(refusal(met, DIAMOND, benches, ends))
            self.assertIsNone(refusal(met, SPREADING, benches, GOOD_ENDS))

    def test_no_end_comes_ahead_of_no_wood(self):
        for benches in (3, MANY_BENCHES):
            for ends in BAD_ENDS:
                self.assertIs(type(refusal(met, SPREADING, benches, ends)), NoEnd, ends)
            for ends in (GOOD_ENDS, {}, {**GOOD_ENDS, "d": True}, {**GOOD_ENDS, "d": 4, "e": 5}):
                self.assertIs(type(refusal(met, DIAMOND, benches, ends)), NoEnd, ends)

    def test_an_order_told_that_follows_takes_no_wood_away(self):
        jobs = Jobs(["a", "b", "c"], [("a", "b"), ("b", "c"), ("a", "c")])
        self.assertEqual(met(jobs, 3, GOOD_ENDS), ("plan", [["a"], ["b"], ["c"]]))


class Mended(unittest.TestCase):
    def assert_mended(self, names, orders, benches, ends):
        told = asked(mended, Jobs(names, orders), benches, ends)
        self.assertIs(type(told), dict)
        wanted = reckoned_mended(names, orders, benches, ends)
        self.assertTrue(same(sorted(told.items()), sorted(wanted.items())), (orders, benches, ends, told, wanted))
        self.assertTrue(all(told[name] <= ends[name] for name in names))

    def test_no_jobs(self):
        for benches in (1, 2, MANY_BENCHES):
            self.assertEqual(mended(NONE, benches, {}), {})

    def test_jobs_without_orders(self):
        for ends in (GOOD_ENDS, {"a": 0, "b": -5, "c": 10 ** 59}, {"a": HUGE, "b": -HUGE, "c": 0}):
            self.assertEqual(mended(LOOSE, 2, ends), ends)

    def test_a_row(self):
        self.assertEqual(mended(CHAIN, 1, {"a": 9, "b": 9, "c": 9}), {"a": 7, "b": 8, "c": 9})
        self.assertEqual(mended(CHAIN, 2, {"a": 9, "b": 9, "c": 9}), {"a": 7, "b": 8, "c": 9})
        self.assertEqual(mended(CHAIN, 2, {"a": 1, "b": 9, "c": 1}), {"a": -1, "b": 0, "c": 1})
        self.assertEqual(mended(CHAIN, 2, {"a": 3, "b": 2, "c": 9}), {"a": 1, "b": 2, "c": 9})

    def test_several_behind(self):
        names = ["a", "b", "c", "d"]
        orders = [("a", "b"), ("a", "c"), ("a", "d")]
        for benches, end in ((1, 6), (2, 7), (3, 8), (4, 8), (MANY_BENCHES, 8)):
            wanted = {"a": end, "b": 9, "c": 9, "d": 9}
            self.assertEqual(mended(Jobs(names, orders), benches, {name: 9 for name in names}), wanted)
        self.assertEqual(mended(Jobs(names, orders), 2, {"a": 9, "b": 7, "c": 7, "d": 7})["a"], 5)
        self.assertEqual(mended(Jobs(names, orders), 2, {"a": 9, "b": 7, "c": 7, "d": 8})["a"], 6)
        self.assertEqual(mended(Jobs(names, orders), 2, {"a": 9, "b": 6, "c": 7, "d": 7})["a"], 5)
        self.assertEqual(mended(Jobs(names, orders), 2, {"a": 4, "b": 6, "c": 7, "d": 7})["a"], 4)

    def test_mended_ends_of_those_behind_count_and_not_their_ends(self):
        # b is due by turn 2 since c is by turn 3; d is due by turn 2 itself: so on one bench a is due by none.
        jobs = Jobs(["a", "b", "c", "d"], [("a", "b"), ("b", "c"), ("a", "d")])
        self.assertEqual(mended(jobs, 1, {"a": 9, "b": 9, "c": 3, "d": 2}), {"a": 0, "b": 2, "c": 3, "d": 2})

    def test_sixty_figures(self):
        for moved in (HUGE - 9, -HUGE, 10 ** 59, -10 ** 59):
            ends = {"a": 9 + moved, "b": 9 + moved, "c": 3 + moved, "d": 2 + moved}
            jobs = Jobs(["a", "b", "c", "d"], [("a", "b"), ("b", "c"), ("a", "d")])
            wanted = {"a": moved, "b": 2 + moved, "c": 3 + moved, "d": 2 + moved}
            self.assertEqual(mended(jobs, 1, ends), wanted)
        wanted = {"a": -HUGE - 2, "b": -HUGE - 1, "c": -HUGE}
        self.assertEqual(mended(CHAIN, 2, {"a": HUGE, "b": 0, "c": -HUGE}), wanted)

    def test_all_orders_of_three_with_many_ends(self):
        names = ["b", "c", "a"]
        for orders in all_ringless(names):
            for chosen in itertools.product([-1, 0, 2, 3], repeat=3):
                for benches in (1, 2):
                    self.assert_mended(names, orders, benches, dict(zip(names, chosen)))

    def test_drawn_jobs(self):
        draw = random.Random(16)
        for _ in range(200):
            benches = draw.choice([1, 1, 2, 2, 3, 4, 30, MANY_BENCHES])
            names, orders = drawn_case(draw, 14)
            ends = {name: draw.randint(-4, 12) for name in draw.sample(names, len(names))}
            self.assert_mended(names, orders, benches, ends)

    def test_mended_again_they_stay(self):
        draw = random.Random(166)
        for _ in range(60):
            benches = draw.randint(1, 4)
            names, orders, ends = drawn_jobs_and_ends(draw, 14, benches)
            jobs = Jobs(names, orders)
            told = mended(jobs, benches, ends)
            self.assertEqual(mended(jobs, benches, told), told)

    def test_what_is_told_is_the_asker_s_own(self):
        ends = {"a": 9, "b": 9, "c": 9}
        told = mended(CHAIN, 2, ends)
        told["a"] = 0
        told.clear()
        self.assertEqual(ends, {"a": 9, "b": 9, "c": 9})
        self.assertEqual(mended(CHAIN, 2, ends), {"a": 7, "b": 8, "c": 9})
        told = mended(LOOSE, 2, ends)
        ends["a"] = 4
        self.assertEqual(told, {"a": 9, "b": 9, "c": 9})
        self.assertEqual(mended(LOOSE, 2, ends), {"a": 4, "b": 9, "c": 9})


class Met(unittest.TestCase):
    def assert_told(self, names, orders, benches, ends, due=None):
        """Whether a plan is told: it, or what stands in its place, must be as the words say."""
        jobs = Jobs(names, orders)
        told = asked(met, jobs, benches, ends)
        self.assertIs(type(told), tuple)
        if told[0] == "plan":
            self.assertEqual(len(told), 2)
            self.assertIsNone(fault(jobs, benches, told[1]))
            self.assertTrue(all(turn_of(told[1], name) <= ends[name] for name in names), (orders, ends, told))
            return True
        self.assertEqual((told[0], len(told)), ("late", 3))
        self.assertEqual((type(told[1]), type(told[2])), (int, list))
        word, turn, row = told
        due = due or reckoned_mended(names, orders, benches, ends)
        self.assertEqual(len(set(row)), len(row))
        self.assertLessEqual(set(row), set(names))
        self.assertTrue(all(due[name] <= turn for name in row), (orders, ends, told))
        self.assertGreater(len(row), benches * max(turn, 0), (orders, ends, told))
        return False

    def test_no_jobs(self):
        for benches in (1, 2, 3, MANY_BENCHES):
            self.assertTrue(same(met(NONE, benches, {}), ("plan", [])))

    def test_one_job(self):
        one = Jobs(["a"], [])
        for benches in (1, 2, 3, MANY_BENCHES):
            for end in (1, 2, HUGE):
                self.assertEqual(met(one, benches, {"a": end}), ("plan", [["a"]]))
            for end in (0, -1, -HUGE):
                self.assertEqual(met(one, benches, {"a": end}), ("late", end, ["a"]))

    def test_a_row(self):
        self.assertEqual(met(CHAIN, 1, {"a": 1, "b": 2, "c": 3}), ("plan", [["a"], ["b"], ["c"]]))
        for benches in (1, 2, 3, MANY_BENCHES):
            self.assertFalse(self.assert_told(["c", "b", "a"], CHAIN.orders(), benches, {"a": 9, "b": 9, "c": 2}))
            self.assertFalse(self.assert_told(["c", "b", "a"], CHAIN.orders(), benches, {"a": 9, "b": 1, "c": 9}))
            self.assertTrue(self.assert_told(["c", "b", "a"], CHAIN.orders(), benches, {"a": 9, "b": 2, "c": 9}))

    def test_as_many_as_there_is_room_for_and_one_more(self):
        for many, benches in itertools.product(range(1, 21), (1, 2, 3, 4, 20)):
            names, turns = TWENTY[:many], -(-many // benches)
            self.assertTrue(self.assert_told(names, [], benches, {name: turns for name in names}))
            self.assertFalse(self.assert_told(names, [], benches, {name: turns - 1 for name in names}))

    def test_a_bench_too_few(self):
        self.assertTrue(self.assert_told(["a", "b", "c"], [], 3, {"a": 1, "b": 1, "c": 1}))
        self.assertFalse(self.assert_told(["a", "b", "c"], [], 2, {"a": 1, "b": 1, "c": 1}))
        self.assertTrue(self.assert_told(["a", "b", "c"], [], 2, {"a": 1, "b": 1, "c": 2}))

    def test_ends_that_want_a_longer_look_back(self):
        # By their own ends b, c and d would come first; but a has five behind it that are due.
        names = list("abcdefghi")
        orders = [("a", name) for name in "efghi"]
        ends = {**{name: 4 for name in names}, "a": 9, "b": 3, "c": 3, "d": 3}
        self.assertFalse(self.assert_told(names, orders, 2, ends))
        self.assertTrue(self.assert_told(names, orders, 2, {**ends, "b": 5, "c": 5, "d": 5}))

    def test_sixty_figures(self):
        for benches in (1, 2, 3, MANY_BENCHES):
            self.assertTrue(self.assert_told(["a", "b"], [("a", "b")], benches, {"a": HUGE, "b": HUGE}, {1: 1}))
            for ends in ({"a": -HUGE, "b": HUGE}, {"a": HUGE, "b": -HUGE}, {"a": -HUGE, "b": -HUGE}):
                due = mended(Jobs(["a", "b"], [("a", "b")]), benches, ends)
                self.assertFalse(self.assert_told(["a", "b"], [("a", "b")], benches, ends, due))

    def test_orders_of_three_with_many_ends_against_all_plans(self):
        names = ["b", "c", "a"]
        for orders in all_ringless(names):
            for chosen in itertools.product([0, 1, 2, 3], repeat=3):
                self.assert_against_all_plans(names, orders, dict(zip(names, chosen)), (1, 2))

    def test_orders_of_four_against_all_plans(self):
        draw = random.Random(17)
        names = ["b", "d", "c", "a"]
        for orders in all_by_a_row(["a", "b", "c", "d"]):
            for _ in range(12):
                ends = {name: draw.randint(1, 4) for name in names}
                self.assert_against_all_plans(names, orders, ends, (1, 2))

    def assert_against_all_plans(self, names, orders, ends, many_benches):
        for benches in many_benches:
            wanted = least_lateness(names, orders, benches, ends) <= 0
            self.assertIs(self.assert_told(names, orders, benches, ends), wanted, (orders, benches, ends))

    def test_drawn_jobs_against_all_plans(self):
        draw = random.Random(171)
        told = []
        for _ in range(300):
            benches = draw.choice([1, 2, 2, 3, 3, 4])
            names, orders, ends = drawn_jobs_and_ends(draw, 7, benches, 1)
            wanted = least_lateness(names, orders, benches, ends) <= 0
            told.append(wanted)
            self.assertIs(self.assert_told(names, orders, benches, ends), wanted, (orders, benches, ends))
        self.assertGreater(min(told.count(True), told.count(False)), 60)

    def test_drawn_jobs_up_to_twenty(self):
        draw = random.Random(1717)
        told = []
        for _ in range(400):
            benches = draw.choice([1, 2, 2, 2, 3, 4, 5, 19, 21, MANY_BENCHES])
            names, orders, ends = drawn_jobs_and_ends(draw, 20, benches)
            told.append(self.assert_told(names, orders, benches, ends))
        self.assertGreater(min(told.count(True), told.count(False)), 80)

    def test_ends_of_a_plan_are_met(self):
        draw = random.Random(17171)
        for _ in range(200):
            benches = draw.choice([1, 2, 2, 3, 4, 5])
            names, orders = drawn_case(draw, 20, None if benches <= 2 else [gathering_orders])
            plan = listed(Jobs(names, orders), benches, draw.sample(names, len(names)))
            self.assertTrue(self.assert_told(names, orders, benches, {name: turn_of(plan, name) for name in names}))

    def test_what_is_told_is_the_asker_s_own(self):
        draw = random.Random(2)
        for _ in range(60):
            benches = draw.randint(1, 3)
            names, orders, ends = drawn_jobs_and_ends(draw, 10, benches)
            jobs = Jobs(names, orders)
            told = met(jobs, benches, ends)
            before = repr(told)
            scramble(met(jobs, benches, ends))
            other = drawn_jobs_and_ends(draw, 10, benches)
            met(Jobs(other[0], other[1]), benches, other[2])
            self.assertEqual(repr(met(jobs, benches, ends)), before)
            self.assertEqual(repr(met(Jobs(names, orders), benches, copy.deepcopy(ends))), before)
            ends.clear()
            self.assertEqual(repr(told), before)


if __name__ == "__main__":
    unittest.main()
