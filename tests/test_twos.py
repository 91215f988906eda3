"""Points 2, 4 and 13: shortest plans on two benches, and the blocks that show it."""

import itertools
import random
import unittest

from levelbench.jobs import Jobs
from levelbench.plans import fault
from levelbench.twos import two_plan
from samples import (SORTS, TWENTY, all_by_a_row, all_ringless, drawn_case, drawn_names, far_orders, scramble,
                     shortest_length, with_more_told, written)


def length(names, orders):
    return len(two_plan(Jobs(names, orders))[0])


class TwoPlan(unittest.TestCase):
    def assert_shown(self, names, orders):
        jobs = Jobs(names, orders)
        before = written([jobs])
        told = two_plan(jobs)
        self.assertEqual(written([jobs]), before)
        self.assertEqual((type(told), len(told)), (tuple, 2))
        plan, blocks = told
        self.assertIsNone(fault(jobs, 2, plan), (names, orders, plan))
        self.assertEqual([type(row) for row in [plan, blocks] + plan + blocks],
                         [list] * (2 + len(plan) + len(blocks)))
        stood = [name for block in blocks for name in block]
        self.assertEqual(len(stood), len(set(stood)), blocks)
        self.assertLessEqual(set(stood), set(names))
        self.assertTrue(all(len(block) > 0 for block in blocks), blocks)
        far = far_orders(names, orders)
        for block, following in zip(blocks, blocks[1:]):
            self.assertLessEqual(set(itertools.product(block, following)), far, (orders, blocks))
        self.assertEqual(sum((len(block) + 1) // 2 for block in blocks), len(plan), (orders, plan, blocks))
        return len(plan)

    def test_no_jobs(self):
        self.assertEqual(two_plan(Jobs([], [])), ([], []))

    def test_one_job_and_two(self):
        self.assertEqual(two_plan(Jobs(["a"], [])), ([["a"]], [["a"]]))
        self.assertEqual(self.assert_shown(["a", "b"], []), 1)
        self.assertEqual(two_plan(Jobs(["a", "b"], [("b", "a")])), ([["b"], ["a"]], [["b"], ["a"]]))

    def test_jobs_without_orders(self):
        for many in range(21):
            self.assertEqual(self.assert_shown(TWENTY[:many], []), (many + 1) // 2)

    def test_a_row_of_twenty(self):
        for orders in (list(zip(TWENTY, TWENTY[1:])), list(itertools.combinations(TWENTY, 2))):
            self.assertEqual(self.assert_shown(TWENTY, orders), 20)

    def test_layers_that_wait_for_one_another(self):
        names = list("abcdefghi")
        orders = [pair for one, other in zip(["abc", "def"], ["def", "ghi"]) for pair in itertools.product(one, other)]
        self.assertEqual(self.assert_shown(names, orders), 6)

    def test_an_order_told_that_follows_of_others(self):
        # c is ahead of h by g already. Were h taken as straight behind c, c might come ahead of a and b, and the
        # plan would have five turns.
        names = list("abcdefgh")
        orders = [pair for pair in itertools.product("abc", "defg") if pair != ("c", "e")] + [("g", "h"), ("c", "h")]
        draw = random.Random(1)
        for _ in range(200):
            self.assertEqual(self.assert_shown(draw.sample(names, 8), draw.sample(orders, len(orders))), 4)

    def test_all_orders_of_four_against_all_plans(self):
        names = ["c", "a", "d", "b"]
        for orders in all_ringless(names):
            self.assertEqual(self.assert_shown(names, orders), shortest_length(names, orders, 2), orders)

    def test_orders_of_five_against_all_plans(self):
        names = ["c", "e", "a", "d", "b"]
        for orders in all_by_a_row(["a", "b", "c", "d", "e"]):
            self.assertEqual(self.assert_shown(names, orders), shortest_length(names, orders, 2), orders)

    def test_drawn_jobs_against_all_plans(self):
        draw = random.Random(13)
        for _ in range(150):
            names, orders = drawn_case(draw, 8)
            self.assertEqual(self.assert_shown(names, orders), shortest_length(names, orders, 2), orders)

    def test_drawn_jobs_up_to_twenty(self):
        draw = random.Random(133)
        for sort in SORTS:
            for _ in range(150):
                self.assert_shown(*drawn_case(draw, 20, [sort]))
            for _ in range(50):
                self.assert_shown(*drawn_case(draw, 20, [sort], least=20))

    def test_the_same_length_however_it_is_told(self):
        draw = random.Random(4)
        for _ in range(150):
            names, orders = drawn_case(draw, 20)
            wanted = length(names, orders)
            self.assertEqual(length(draw.sample(names, len(names)), draw.sample(orders, len(orders))), wanted)
            self.assertEqual(length(names, (orders + orders)[:200]), wanted)
            self.assertEqual(length(names, with_more_told(draw, names, orders)), wanted)
            other = dict(zip(names, drawn_names(draw, len(names))))
            self.assertEqual(length(list(other.values()), [(other[x], other[y]) for x, y in orders]), wanted)

    def test_turned_about_it_is_as_long(self):
        draw = random.Random(44)
        for _ in range(100):
            names, orders = drawn_case(draw, 20)
            self.assertEqual(length(names, [(y, x) for x, y in orders]), length(names, orders))

    def test_an_order_more_never_makes_it_shorter(self):
        draw = random.Random(444)
        for _ in range(200):
            names, orders = drawn_case(draw, 14, least=2)
            one, other = draw.sample(names, 2)
            if (other, one) not in far_orders(names, orders):
                self.assertGreaterEqual(length(names, orders + [(one, other)]), length(names, orders))

    def test_what_is_told_is_the_asker_s_own(self):
        draw = random.Random(2)
        for _ in range(40):
            names, orders = drawn_case(draw, 12)
            jobs = Jobs(names, orders)
            before = repr(two_plan(jobs))
            scramble(two_plan(jobs))
            two_plan(Jobs(*drawn_case(draw, 12)))
            self.assertEqual(repr(two_plan(jobs)), before)
            self.assertEqual(repr(two_plan(Jobs(names, orders))), before)

    def test_plan_and_blocks_have_nothing_in_common(self):
        for names, orders in [(["a"], []), (["a", "b"], []), (["a", "b", "c"], [("a", "b"), ("b", "c")])]:
            plan, blocks = two_plan(Jobs(names, orders))
            kept = repr(blocks)
            scramble(plan)
            self.assertEqual(repr(blocks), kept)


if __name__ == "__main__":
    unittest.main()
