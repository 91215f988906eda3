"""Points 2 and 11: heights, depths, and a longest row."""

import itertools
import random
import unittest

from levelbench.heights import depths, heights, longest
from levelbench.jobs import Jobs
from samples import TWENTY, all_ringless, drawn_case, far_orders, same, scramble, with_more_told, written


def reckoned_height(far, name):
    """All rows that begin with the job are gone through."""
    return 1 + max([reckoned_height(far, other) for one, other in far if one == name], default=0)


def told_of(jobs):
    return (heights(jobs), depths(jobs), longest(jobs))


class Heights(unittest.TestCase):
    def assert_as_reckoned(self, names, orders):
        jobs = Jobs(names, orders)
        far = far_orders(names, orders)
        back = {(other, one) for one, other in far}
        before = written([jobs])
        self.assertTrue(same(sorted(heights(jobs).items()), sorted((x, reckoned_height(far, x)) for x in names)))
        self.assertTrue(same(sorted(depths(jobs).items()), sorted((x, reckoned_height(back, x)) for x in names)))
        self.assert_longest(jobs, far)
        self.assertEqual(written([jobs]), before)

    def assert_longest(self, jobs, far):
        row = longest(jobs)
        self.assertIs(type(row), list)
        self.assertEqual(len(row), max(heights(jobs).values(), default=0))
        self.assertLessEqual(set(row), set(jobs.names()))
        for pair in zip(row, row[1:]):
            self.assertIn(pair, far)

    def test_no_jobs(self):
        self.assertEqual(told_of(Jobs([], [])), ({}, {}, []))

    def test_one_job(self):
        self.assertEqual(told_of(Jobs(["a"], [])), ({"a": 1}, {"a": 1}, ["a"]))

    def test_jobs_without_orders(self):
        jobs = Jobs(TWENTY, [])
        self.assertEqual(heights(jobs), {name: 1 for name in TWENTY})
        self.assertEqual(depths(jobs), {name: 1 for name in TWENTY})
        self.assertEqual(len(longest(jobs)), 1)
        self.assertIn(longest(jobs)[0], TWENTY)

    def test_a_row_of_twenty(self):
        near = list(zip(TWENTY, TWENTY[1:]))
        for names in (TWENTY, TWENTY[::-1], sorted(TWENTY)):
            for orders in (near, near[::-1], list(itertools.combinations(TWENTY, 2)), near + near):
                jobs = Jobs(names, orders)
                self.assertEqual(heights(jobs), {name: 20 - place for place, name in enumerate(TWENTY)})
                self.assertEqual(depths(jobs), {name: 1 + place for place, name in enumerate(TWENTY)})
                self.assertEqual(longest(jobs), TWENTY)

    def test_two_ways_of_unlike_lengths(self):
        jobs = Jobs(["e", "d", "c", "b", "a"], [("a", "b"), ("b", "c"), ("c", "e"), ("a", "d"), ("d", "e")])
        self.assertEqual(heights(jobs), {"a": 4, "b": 3, "c": 2, "d": 2, "e": 1})
        self.assertEqual(depths(jobs), {"a": 1, "b": 2, "c": 3, "d": 2, "e": 4})
        self.assertEqual(longest(jobs), ["a", "b", "c", "e"])

    def test_an_order_that_follows_told_as_well(self):
        jobs = Jobs(["a", "b", "c"], [("a", "c"), ("a", "b"), ("b", "c"), ("a", "c")])
        self.assertEqual(told_of(jobs), ({"a": 3, "b": 2, "c": 1}, {"a": 1, "b": 2, "c": 3}, ["a", "b", "c"]))

    def test_all_orders_of_four(self):
        names = ["c", "a", "d", "b"]
        for orders in all_ringless(names):
            self.assert_as_reckoned(names, orders)

    def test_drawn_jobs(self):
        draw = random.Random(11)
        for _ in range(150):
            self.assert_as_reckoned(*drawn_case(draw, 9))

    def test_drawn_jobs_up_to_twenty(self):
        draw = random.Random(111)
        for _ in range(100):
            names, orders = drawn_case(draw, 20)
            jobs = Jobs(names, orders)
            far = far_orders(names, orders)
            high, deep = heights(jobs), depths(jobs)
            for name in names:
                self.assertEqual(high[name], 1 + max([high[y] for x, y in far if x == name], default=0))
                self.assertEqual(deep[name], 1 + max([deep[x] for x, y in far if y == name], default=0))
            self.assertEqual((sorted(high), sorted(deep)), (sorted(names), sorted(names)))
            self.assert_longest(jobs, far)

    def test_turned_about_a_height_is_a_depth(self):
        draw = random.Random(1111)
        for _ in range(100):
            jobs = Jobs(*drawn_case(draw, 20))
            self.assertEqual(heights(jobs.turned()), depths(jobs))
            self.assertEqual(depths(jobs.turned()), heights(jobs))
            self.assertEqual(len(longest(jobs.turned())), len(longest(jobs)))

    def test_orders_more_than_once_or_in_another_sequence(self):
        draw = random.Random(11111)
        for _ in range(60):
            names, orders = drawn_case(draw, 12)
            told = with_more_told(draw, names, orders)
            one, other = Jobs(names, orders), Jobs(draw.sample(names, len(names)), told)
            self.assertEqual((heights(one), depths(one)), (heights(other), depths(other)))

    def test_what_is_told_is_the_asker_s_own(self):
        draw = random.Random(2)
        for _ in range(40):
            names, orders = drawn_case(draw, 10)
            jobs = Jobs(names, orders)
            before = repr(told_of(jobs))
            scramble(told_of(jobs))
            told_of(Jobs(*drawn_case(draw, 10)))
            self.assertEqual(repr(told_of(jobs)), before)
            self.assertEqual(repr(told_of(Jobs(names, orders))), before)


if __name__ == "__main__":
    unittest.main()
