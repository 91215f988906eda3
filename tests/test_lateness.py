"""Points 2, 15 and 18: the lateness of a plan, and the least that there is."""

import copy
import itertools
import random
import unittest

from levelbench.errors import NoBench, NoEnd, NoJob, NoWood
from levelbench.jobs import Jobs
from levelbench.lateness import lateness, least_late
from levelbench.plans import fault, turn_of
from samples import (BAD_ENDS, CHAIN, DIAMOND, GATHERING, GOOD_ENDS, HUGE, LOOSE, MANY_BENCHES, NO_BENCHES, NONE,
                     SPREADING, TWENTY, all_ringless, asked, drawn_jobs_and_ends, least_lateness, reckoned_mended,
                     refusal, same, scramble)


class Lateness(unittest.TestCase):
    def test_above_nought_nought_and_below(self):
        plan = [["a", "b"], ["c"]]
        cases = [
            ({"a": 1, "b": 1, "c": 2}, 0),
            ({"a": 1, "b": 1, "c": 1}, 1),
            ({"a": 1, "b": 0, "c": 2}, 1),
            ({"a": -4, "b": 1, "c": 2}, 5),
            ({"a": 2, "b": 2, "c": 3}, -1),
            ({"a": 9, "b": 5, "c": 9}, -4),
            ({"a": 9, "b": 9, "c": 9}, -7),
            ({"a": HUGE, "b": HUGE, "c": HUGE}, 2 - HUGE),
            ({"a": HUGE, "b": -HUGE, "c": HUGE}, 1 + HUGE),
        ]
        for ends, wanted in cases:
            self.assertTrue(same(asked(lateness, plan, ends), wanted), (ends, wanted))

    def test_empty_turns_count(self):
        self.assertEqual(asked(lateness, [[], ["a"], [], ["b"], []], {"a": 2, "b": 4}), 0)
        self.assertEqual(asked(lateness, [[], ["a"], [], ["b"], []], {"a": 9, "b": 3}), 1)
        self.assertEqual(asked(lateness, [[], [], ["a"]], {"a": 1}), 2)

    def test_one_job(self):
        for end in (-3, 0, 1, 2, 7):
            self.assertEqual(lateness([["a"]], {"a": end}), 1 - end)

    def test_orders_and_benches_have_no_part_in_it(self):
        self.assertEqual(lateness([TWENTY], {name: 3 for name in TWENTY}), -2)


class Refused(unittest.TestCase):
    def test_benches_come_first(self):
        for benches in NO_BENCHES:
            for jobs, ends in itertools.product((NONE, LOOSE, DIAMOND), ({}, GOOD_ENDS, {"a": None}, {7: 7})):
                self.assertIs(type(refusal(least_late, jobs, benches, ends)), NoBench, benches)

    def test_then_no_end(self):
        for benches in (1, 2, 3, MANY_BENCHES):
            for ends in BAD_ENDS:
                for jobs in (LOOSE, CHAIN, GATHERING, SPREADING):
                    self.assertIs(type(refusal(least_late, jobs, benches, ends)), NoEnd, ends)
            for key in ["a", "", 1, None, True, ()]:
                self.assertIs(type(refusal(least_late, NONE, benches, {key: 1})), NoEnd, key)

    def test_then_no_wood(self):
        for benches in (3, 20, MANY_BENCHES):
            self.assertIs(type(refusal(least_late, DIAMOND, benches, {"a": 1, "b": 2, "c": 3, "d": 4})), NoWood)
            self.assertIs(type(refusal(least_late, SPREADING, benches, GOOD_ENDS)), NoWood)
            self.assertIsNone(refusal(least_late, GATHERING, benches, GOOD_ENDS))
        for benches in (1, 2):
            self.assertIsNone(refusal(least_late, DIAMOND, benches, {"a": 1, "b": 2, "c": 3, "d": 4}))
            self.assertIsNone(refusal(least_late, SPREADING, benches, GOOD_ENDS))

    def test_without_jobs_last_of_all(self):
        for benches in (1, 2, 3, MANY_BENCHES):
            self.assertIs(type(refusal(least_late, NONE, benches, {})), NoJob)


class LeastLate(unittest.TestCase):
    def assert_shown(self, names, orders, benches, ends, due=None):
        jobs = Jobs(names, orders)
        told = asked(least_late, jobs, benches, ends)
        self.assertEqual((type(told), len(told)), (tuple, 4))
        late, plan, turn, row = told
        self.assertEqual((type(late), type(turn), type(row)), (int, int, list))
        self.assertIsNone(fault(jobs, benches, plan))
        self.assertEqual(late, max(turn_of(plan, name) - ends[name] for name in names))
        self.assertEqual(late, lateness(plan, ends))
        due = due or reckoned_mended(names, orders, benches, ends)
        self.assertEqual(len(set(row)), len(row))
        self.assertLessEqual(set(row), set(names))
        self.assertTrue(all(due[name] <= turn for name in row), (orders, ends, told))
        self.assertGreater(len(row), benches * max(turn + late - 1, 0), (orders, ends, told))
        return late

    def test_one_job(self):
        one = Jobs(["a"], [])
        for benches, end in itertools.product((1, 2, 3, MANY_BENCHES), (-HUGE, -1, 0, 1, 2, HUGE)):
            self.assertEqual(least_late(one, benches, {"a": end}), (1 - end, [["a"]], end, ["a"]))

    def test_a_row(self):
        cases = [({"a": 1, "b": 2, "c": 3}, 0), ({"a": 1, "b": 2, "c": 2}, 1), ({"a": 9, "b": 9, "c": 1}, 2),
                 ({"a": 4, "b": 4, "c": 4}, -1), ({"a": -5, "b": 2, "c": 3}, 6)]
        for ends, wanted in cases:
            for benches in (1, 2, 3, MANY_BENCHES):
                self.assertEqual(self.assert_shown(["c", "b", "a"], CHAIN.orders(), benches, ends), wanted)

    def test_jobs_without_orders(self):
        for many, benches in itertools.product(range(1, 21), (1, 2, 3, 4, 20)):
            names = TWENTY[:many]
            for end in (-2, 0, 1, 5, 30):
                ends = {name: end for name in names}
                self.assertEqual(self.assert_shown(names, [], benches, ends), -(-many // benches) - end)

    def test_the_late_one_comes_first_though_its_own_end_is_late(self):
        # a has all the others behind it, so it must not wait for z, whose end is ahead of its own.
        names = ["a", "b", "c", "d", "z"]
        orders = [("a", "b"), ("a", "c"), ("a", "d")]
        ends = {"a": 5, "b": 3, "c": 3, "d": 3, "z": 4}
        self.assertEqual(self.assert_shown(names, orders, 1, ends), 1)
        self.assertEqual(self.assert_shown(names, orders, 2, ends), 0)

    def test_sixty_figures(self):
        names, orders = ["a", "b"], [("a", "b")]
        for benches in (1, 2, 3, MANY_BENCHES):
            for ends in ({"a": HUGE, "b": HUGE}, {"a": -HUGE, "b": HUGE}, {"a": HUGE, "b": -HUGE}):
                due = {"a": min(ends["a"], ends["b"] - 1), "b": ends["b"]}
                self.assertEqual(self.assert_shown(names, orders, benches, ends, due), max(1 - due["a"], 2 - due["b"]))

    def test_orders_of_three_with_many_ends_against_all_plans(self):
        names = ["b", "c", "a"]
        for orders in all_ringless(names):
            for chosen in itertools.product([-1, 1, 2, 5], repeat=3):
                ends = dict(zip(names, chosen))
                for benches in (1, 2):
                    wanted = least_lateness(names, orders, benches, ends)
                    self.assertEqual(self.assert_shown(names, orders, benches, ends), wanted, (orders, benches, ends))

    def test_drawn_jobs_against_all_plans(self):
        draw = random.Random(18)
        signs = []
        for _ in range(300):
            benches = draw.choice([1, 2, 2, 3, 3, 4])
            names, orders, ends = drawn_jobs_and_ends(draw, 7, benches, 1)
            ends = {name: end + draw.choice([0, 0, 0, 2]) for name, end in ends.items()}
            wanted = least_lateness(names, orders, benches, ends)
            self.assertEqual(self.assert_shown(names, orders, benches, ends), wanted, (orders, benches, ends))
            signs.append((wanted > 0) - (wanted < 0))
        self.assertGreater(min(signs.count(sign) for sign in (-1, 0, 1)), 10)

    def test_drawn_jobs_up_to_twenty(self):
        draw = random.Random(181)
        for _ in range(300):
            benches = draw.choice([1, 2, 2, 2, 3, 4, 5, 19, 21, MANY_BENCHES])
            names, orders, ends = drawn_jobs_and_ends(draw, 20, benches, 1)
            self.assert_shown(names, orders, benches, ends)

    def test_all_ends_moved_by_one_number(self):
        draw = random.Random(1818)
        for _ in range(80):
            benches = draw.choice([1, 2, 3, 4])
            names, orders, ends = drawn_jobs_and_ends(draw, 12, benches, 1)
            jobs = Jobs(names, orders)
            late = least_late(jobs, benches, ends)[0]
            for moved in (1, -1, 7, -30, 10 ** 58, -10 ** 58):
                other = {name: end + moved for name, end in ends.items()}
                self.assertEqual(least_late(jobs, benches, other)[0], late - moved)

    def test_what_is_told_is_the_asker_s_own(self):
        draw = random.Random(2)
        for _ in range(60):
            benches = draw.randint(1, 3)
            names, orders, ends = drawn_jobs_and_ends(draw, 10, benches, 1)
            jobs = Jobs(names, orders)
            told = least_late(jobs, benches, ends)
            before = repr(told)
            scramble(least_late(jobs, benches, ends))
            other = drawn_jobs_and_ends(draw, 10, benches, 1)
            least_late(Jobs(other[0], other[1]), benches, other[2])
            self.assertEqual(repr(least_late(jobs, benches, ends)), before)
            self.assertEqual(repr(least_late(Jobs(names, orders), benches, copy.deepcopy(ends))), before)
            ends.clear()
            self.assertEqual(repr(told), before)


if __name__ == "__main__":
    unittest.main()
