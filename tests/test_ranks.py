"""Points 2 and 12: ranks."""

import itertools
import random
import unittest

from levelbench.jobs import Jobs
from levelbench.ranks import ranks
from samples import TWENTY, all_ringless, drawn_case, far_orders, scramble, written


class Ranks(unittest.TestCase):
    def assert_dealt(self, names, orders):
        jobs = Jobs(names, orders)
        before = written([jobs])
        dealt = ranks(jobs)
        self.assertEqual(written([jobs]), before)
        self.assertIs(type(dealt), dict)
        self.assertEqual(sorted(dealt), sorted(names))
        self.assertEqual(repr(sorted(dealt.values())), repr(list(range(1, len(names) + 1))))
        far = far_orders(names, orders)
        near = {x: [y for y in names if (x, y) in far and not any((x, z) in far and (z, y) in far for z in names)]
                for x in names}
        for name in names:
            mine = dealt[name]
            self.assertTrue(all(dealt[other] < mine for other in near[name]), (orders, dealt))
            lists = {x: sorted([dealt[y] for y in near[x]], reverse=True) for x in names
                     if dealt[x] >= mine and all(dealt[y] < mine for y in near[x])}
            self.assertEqual(lists[name], min(lists.values()), (orders, dealt))

    def test_no_jobs_and_one_job(self):
        self.assertEqual(ranks(Jobs([], [])), {})
        self.assertEqual(ranks(Jobs(["a"], [])), {"a": 1})

    def test_a_row_of_twenty(self):
        near = list(zip(TWENTY, TWENTY[1:]))
        for orders in (near, near[::-1], list(itertools.combinations(TWENTY, 2))):
            self.assertEqual(ranks(Jobs(TWENTY, orders)), {name: 20 - place for place, name in enumerate(TWENTY)})

    def test_the_least_list(self):
        # c, d and z have nothing behind them, so they come first, in whatever sequence.
        dealt = ranks(Jobs(["a", "b", "c", "d", "z"], [("a", "c"), ("b", "d")]))
        self.assertEqual(sorted([dealt["c"], dealt["d"], dealt["z"]]), [1, 2, 3])
        self.assertEqual(dealt["a"] < dealt["b"], dealt["c"] < dealt["d"])
        # x and z come first, then y with a list of one of them; q has [3] then, and p [3] and the rank of x.
        dealt = ranks(Jobs(["p", "q", "x", "y", "z"], [("p", "x"), ("p", "y"), ("q", "y"), ("y", "z")]))
        self.assertEqual((dealt["x"] + dealt["z"], dealt["y"], dealt["q"], dealt["p"]), (3, 3, 4, 5))

    def test_a_shorter_list_is_less_than_a_longer_one_that_begins_alike(self):
        dealt = ranks(Jobs(["p", "q", "x", "y"], [("p", "x"), ("p", "y"), ("q", "x"), ("q", "y"), ("p", "q")]))
        self.assertEqual((dealt["q"], dealt["p"]), (3, 4))
        dealt = ranks(Jobs(["m", "n", "x", "y"], [("m", "x"), ("m", "y"), ("n", "y"), ("n", "x")]))
        self.assertEqual(sorted([dealt["m"], dealt["n"]]), [3, 4])
        dealt = ranks(Jobs(["both", "alone", "x", "y"], [("both", "x"), ("both", "y"), ("alone", "y")]))
        self.assertEqual((dealt["alone"], dealt["both"]), (3, 4))

    def test_an_order_told_that_follows_of_others(self):
        # Were z straight behind p as well, the list of p would be longer.
        names = ["p", "q", "y", "w", "z"]
        near = [("p", "y"), ("q", "w"), ("y", "z"), ("w", "z")]
        for orders in (near, near + [("p", "z")], near + [("q", "z")], near + [("p", "z"), ("q", "z"), ("p", "z")]):
            self.assertEqual(ranks(Jobs(names, orders)), ranks(Jobs(names, near)))
            self.assert_dealt(names, orders)

    def test_all_orders_of_four(self):
        names = ["c", "a", "d", "b"]
        for orders in all_ringless(names):
            self.assert_dealt(names, orders)

    def test_drawn_jobs(self):
        draw = random.Random(12)
        for _ in range(250):
            self.assert_dealt(*drawn_case(draw, 20))

    def test_what_is_told_is_the_asker_s_own(self):
        draw = random.Random(122)
        for _ in range(40):
            names, orders = drawn_case(draw, 10)
            jobs = Jobs(names, orders)
            before = repr(ranks(jobs))
            scramble(ranks(jobs))
            ranks(Jobs(*drawn_case(draw, 10)))
            self.assertEqual(repr(ranks(jobs)), before)
            self.assertEqual(repr(ranks(Jobs(names, orders))), before)


if __name__ == "__main__":
    unittest.main()
