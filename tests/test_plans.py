"""Points 2, 8 and 10: faults of plans, turns of jobs, and plans listed by a row."""

import copy
import itertools
import unittest

from levelbench.errors import NoBench, NoRow
from levelbench.jobs import Jobs
from levelbench.plans import fault, listed, turn_of
from samples import MANY_BENCHES, NO_BENCHES, NO_NAMES, TWENTY, all_ringless, far_orders, refusal, same

STRANGERS = NO_NAMES + ["z", "aa"]
CHAIN = Jobs(["c", "b", "a"], [("a", "b"), ("b", "c")])
LOOSE = Jobs(["c", "b", "a"], [])


class Faults(unittest.TestCase):
    def assert_fault(self, jobs, benches, plan, wanted):
        kept = copy.deepcopy(plan)
        found = fault(jobs, benches, plan)
        self.assertTrue(same(found, wanted), (plan, found, wanted))
        self.assertEqual(repr(plan), repr(kept))

    def test_right_plans(self):
        self.assert_fault(CHAIN, 1, [["a"], ["b"], ["c"]], None)
        self.assert_fault(LOOSE, 3, [["a", "c", "b"]], None)
        self.assert_fault(LOOSE, 2, [["b"], ["c", "a"]], None)
        self.assert_fault(LOOSE, MANY_BENCHES, [["a", "b", "c"]], None)
        self.assert_fault(Jobs(["a", "b", "c", "d"], [("a", "c"), ("b", "d")]), 2, [["b", "a"], ["c", "d"]], None)

    def test_empty_turns(self):
        self.assert_fault(CHAIN, 1, [[], ["a"], [], [], ["b"], ["c"], []], None)
        self.assert_fault(CHAIN, 1, [[], [], ["b"]], ("early", 3, "b"))
        self.assert_fault(CHAIN, 1, [[]], ("missing", "c"))

    def test_no_turns(self):
        self.assert_fault(CHAIN, 1, [], ("missing", "c"))
        self.assert_fault(Jobs([], []), 1, [], None)
        self.assert_fault(Jobs([], []), 1, [[], []], None)

    def test_stranger(self):
        for thing in STRANGERS:
            self.assert_fault(CHAIN, 2, [[thing]], ("stranger", 1, thing))
            self.assert_fault(CHAIN, 2, [["a"], ["b", thing]], ("stranger", 2, thing))
            self.assert_fault(CHAIN, 2, [["a"], ["b"], ["c"], [thing]], ("stranger", 4, thing))
            self.assert_fault(Jobs([], []), 2, [[thing]], ("stranger", 1, thing))

    def test_the_first_stranger(self):
        for one, other in itertools.permutations(["z", None, ["a"], {"a": 1}, True], 2):
            self.assert_fault(CHAIN, 9, [["a", one, other]], ("stranger", 1, one))

    def test_again(self):
        self.assert_fault(LOOSE, 3, [["a", "a"]], ("again", 1, "a"))
        self.assert_fault(LOOSE, 3, [["a"], [], ["b", "a"]], ("again", 3, "a"))
        self.assert_fault(LOOSE, 3, [["a", "b", "c"], ["c"]], ("again", 2, "c"))

    def test_the_first_that_comes_again(self):
        self.assert_fault(LOOSE, 9, [["a", "b", "b", "a"]], ("again", 1, "b"))
        self.assert_fault(LOOSE, 9, [["a", "b"], ["c", "b", "a"]], ("again", 2, "b"))
        self.assert_fault(LOOSE, 9, [["a"], ["b", "b", "a"]], ("again", 2, "b"))
        self.assert_fault(LOOSE, 9, [["a"], ["b", "a", "b"]], ("again", 2, "a"))

    def test_early(self):
        self.assert_fault(CHAIN, 9, [["b"]], ("early", 1, "b"))
        self.assert_fault(CHAIN, 9, [["a"], ["c"], ["b"]], ("early", 2, "c"))
        self.assert_fault(Jobs(["a", "b", "c"], [("a", "c"), ("b", "c")]), 9, [["a"], ["c"], ["b"]], ("early", 2, "c"))

    def test_early_for_one_far_ahead(self):
        jobs = Jobs(["a", "b", "c", "d"], [("a", "b"), ("b", "c"), ("c", "d")])
        self.assert_fault(jobs, 9, [["d"]], ("early", 1, "d"))
        self.assert_fault(jobs, 9, [["a"], ["b"], ["d", "c"]], ("early", 3, "d"))

    def test_early_for_one_in_the_same_turn(self):
        self.assert_fault(CHAIN, 9, [["a", "b"]], ("early", 1, "b"))
        self.assert_fault(CHAIN, 9, [["b", "a"]], ("early", 1, "b"))
        self.assert_fault(CHAIN, 9, [["a"], ["b", "c"]], ("early", 2, "c"))

    def test_the_first_that_is_early(self):
        self.assert_fault(CHAIN, 9, [["c", "b"]], ("early", 1, "c"))
        self.assert_fault(CHAIN, 9, [["a", "b", "c"]], ("early", 1, "b"))
        self.assert_fault(CHAIN, 9, [["a", "c", "b"]], ("early", 1, "c"))

    def test_wide(self):
        self.assert_fault(LOOSE, 2, [["a", "b", "c"]], ("wide", 1, 3))
        self.assert_fault(LOOSE, 1, [["a", "b", "c"]], ("wide", 1, 3))
        self.assert_fault(LOOSE, 1, [["a"], ["c", "b"]], ("wide", 2, 2))
        self.assert_fault(Jobs(TWENTY, []), 19, [TWENTY], ("wide", 1, 20))
        self.assert_fault(Jobs(TWENTY, []), 20, [TWENTY], None)

    def test_missing(self):
        self.assert_fault(LOOSE, 2, [["a"]], ("missing", "c"))
        self.assert_fault(LOOSE, 2, [["c"]], ("missing", "b"))
        self.assert_fault(LOOSE, 2, [["b", "c"], []], ("missing", "a"))
        self.assert_fault(CHAIN, 2, [["a"]], ("missing", "c"))

    def test_which_comes_first_in_one_turn(self):
        self.assert_fault(CHAIN, 1, [["a", "a", "c", "z"]], ("stranger", 1, "z"))
        self.assert_fault(CHAIN, 1, [["a", "a", None]], ("stranger", 1, None))
        self.assert_fault(CHAIN, 1, [["c", "z"]], ("stranger", 1, "z"))
        self.assert_fault(CHAIN, 1, [["a", "z"]], ("stranger", 1, "z"))
        self.assert_fault(CHAIN, 1, [["z", "z"]], ("stranger", 1, "z"))
        self.assert_fault(CHAIN, 1, [["c", "a", "a"]], ("again", 1, "a"))
        self.assert_fault(CHAIN, 1, [["c", "c"]], ("again", 1, "c"))
        self.assert_fault(CHAIN, 1, [["a"], ["c", "a"]], ("again", 2, "a"))
        self.assert_fault(LOOSE, 1, [["a", "a"]], ("again", 1, "a"))
        self.assert_fault(CHAIN, 1, [["a", "b"]], ("early", 1, "b"))

    def test_which_comes_first_of_two_turns(self):
        wide, early, again, stranger = ["a", "b"], ["d"], ["e", "e"], ["z"]
        jobs = Jobs(["a", "b", "c", "d", "e"], [("c", "d")])
        faults = [(wide, ("wide", 2)), (early, ("early", "d")), (again, ("again", "e")), (stranger, ("stranger", "z"))]
        for one, other in itertools.permutations(faults, 2):
            told = one[1]
            self.assert_fault(jobs, 1, [one[0], other[0]], (told[0], 1, told[1]))
            self.assert_fault(jobs, 1, [[], one[0], other[0]], (told[0], 2, told[1]))

    def test_missing_comes_last(self):
        for row, wanted in [(["a", "b"], ("wide", 2, 2)), (["b", "b"], ("again", 2, "b")), ([0], ("stranger", 2, 0))]:
            self.assert_fault(LOOSE, 1, [[], row], wanted)
        self.assert_fault(CHAIN, 1, [[], ["b"]], ("early", 2, "b"))

    def test_benches(self):
        for benches in NO_BENCHES:
            for plan in ([], [["a"], ["b"], ["c"]], [[None]], [["a", "a"]]):
                self.assertIs(type(refusal(fault, CHAIN, benches, plan)), NoBench, benches)
            self.assertIs(type(refusal(fault, Jobs([], []), benches, [])), NoBench, benches)

    def test_all_plans_of_three_jobs_in_three_turns(self):
        names = ["b", "c", "a"]
        for orders in all_ringless(names):
            jobs = Jobs(names, orders)
            far = far_orders(names, orders)
            for turns in itertools.product([1, 2, 3], repeat=3):
                at = dict(zip(names, turns))
                plan = [[name for name in names if at[name] == turn] for turn in (1, 2, 3)]
                for benches in (1, 2, 3):
                    right = max(len(row) for row in plan) <= benches and all(at[one] < at[two] for one, two in far)
                    self.assertEqual(fault(jobs, benches, plan) is None, right, (orders, plan, benches))

    def test_what_is_told_is_the_asker_s_own(self):
        inner = ["x"]
        for thing in ([inner], {"k": inner}, ["a", {"k": [inner]}], [("k", inner)]):
            plan = [["a"], ["b", thing]]
            told = fault(CHAIN, 2, plan)
            inner.append("y")
            self.assertNotEqual(told[2], thing)
            inner.pop()
            self.assertEqual(told, ("stranger", 2, thing))
            told[2].clear()
            self.assertEqual(fault(CHAIN, 2, plan), ("stranger", 2, thing))
            self.assertIs(plan[1][1], thing)

    def test_what_is_done_to_the_plan_later(self):
        plan = [["a"], ["b"], ["z"]]
        told = fault(CHAIN, 1, plan)
        plan[2].clear()
        plan.clear()
        self.assertEqual(told, ("stranger", 3, "z"))
        self.assertIsNone(fault(CHAIN, 1, [["a"], ["b"], ["c"]]))


class Turns(unittest.TestCase):
    def test_the_first_turn(self):
        plan = [[], ["a", "b"], ["c"], ["b", "c"], []]
        self.assertEqual(turn_of(plan, "a"), 2)
        self.assertEqual(turn_of(plan, "b"), 2)
        self.assertEqual(turn_of(plan, "c"), 3)
        self.assertEqual(turn_of([["a"], ["a"]], "a"), 1)
        self.assertEqual(plan, [[], ["a", "b"], ["c"], ["b", "c"], []])

    def test_none(self):
        self.assertIsNone(turn_of([], "a"))
        self.assertIsNone(turn_of([[]], "a"))
        self.assertIsNone(turn_of([["b"], ["aa", "ab"]], "a"))
        self.assertIsNone(turn_of([["abc"]], "b"))

    def test_each_turn(self):
        plan = [[name] for name in TWENTY]
        self.assertEqual([turn_of(plan, name) for name in TWENTY], list(range(1, 21)))


class Listed(unittest.TestCase):
    def test_the_order_of_the_row(self):
        self.assertEqual(listed(LOOSE, 2, ["b", "c", "a"]), [["b", "c"], ["a"]])
        self.assertEqual(listed(LOOSE, 2, ["a", "b", "c"]), [["a", "b"], ["c"]])
        self.assertEqual(listed(LOOSE, 1, ["c", "a", "b"]), [["c"], ["a"], ["b"]])
        self.assertEqual(listed(LOOSE, 3, ["c", "a", "b"]), [["c", "a", "b"]])

    def test_orders_are_kept(self):
        for row in itertools.permutations(["a", "b", "c"]):
            self.assertEqual(listed(CHAIN, 2, list(row)), [["a"], ["b"], ["c"]])
        jobs = Jobs(["a", "b", "c", "d"], [("a", "b")])
        self.assertEqual(listed(jobs, 2, ["b", "d", "a", "c"]), [["d", "a"], ["b", "c"]])
        self.assertEqual(listed(jobs, 2, ["c", "d", "a", "b"]), [["c", "d"], ["a"], ["b"]])
        self.assertEqual(listed(jobs, 3, ["b", "c", "a", "d"]), [["c", "a", "d"], ["b"]])

    def test_one_behind_waits_for_the_next_turn(self):
        jobs = Jobs(["a", "b", "c"], [("a", "b")])
        self.assertEqual(listed(jobs, 2, ["a", "b", "c"]), [["a", "c"], ["b"]])
        self.assertEqual(listed(jobs, 3, ["a", "b", "c"]), [["a", "c"], ["b"]])

    def test_fewer_jobs_than_benches(self):
        self.assertEqual(listed(LOOSE, 4, ["c", "a", "b"]), [["c", "a", "b"]])
        self.assertEqual(listed(LOOSE, MANY_BENCHES, ["c", "a", "b"]), [["c", "a", "b"]])
        self.assertEqual(listed(CHAIN, MANY_BENCHES, ["c", "a", "b"]), [["a"], ["b"], ["c"]])
        self.assertEqual(listed(Jobs(TWENTY, []), MANY_BENCHES, TWENTY), [TWENTY])

    def test_no_jobs(self):
        for benches in (1, 2, MANY_BENCHES):
            self.assertEqual(listed(Jobs([], []), benches, []), [])

    def test_all_orders_of_four_as_told_step_by_step(self):
        names = ["b", "d", "a", "c"]
        rows = [["a", "b", "c", "d"], ["d", "c", "b", "a"], ["c", "a", "d", "b"]]
        for orders in all_ringless(names):
            jobs = Jobs(names, orders)
            far = far_orders(names, orders)
            for row, benches in itertools.product(rows, (1, 2, 3)):
                plan = listed(jobs, benches, row)
                self.assertIsNone(fault(jobs, benches, plan))
                self.assert_first_ones(far, benches, row, plan)

    def assert_first_ones(self, far, benches, row, plan):
        taken = []
        for turn in plan:
            free = [name for name in row if name not in taken
                    and all(one in taken for one, other in far if other == name)]
            self.assertEqual(turn, free[:benches])
            taken = taken + turn

    def test_no_row(self):
        for row in [[], ["a"], ["a", "b"], ["a", "b", "b"], ["a", "b", "c", "c"], ["a", "b", "c", "a", "b", "c"],
                    ["a", "b", "z"], ["a", "b", "c", "z"], ["z"]]:
            for jobs in (LOOSE, CHAIN):
                self.assertIs(type(refusal(listed, jobs, 2, row)), NoRow, row)

    def test_no_row_of_anything(self):
        for thing in STRANGERS:
            for row in ([thing], ["a", "b", thing], [thing, "a", "b", "c"], ["a", thing, "b", "c"], [thing, thing],
                        ["a", "b", "c", thing]):
                self.assertIs(type(refusal(listed, LOOSE, 2, row)), NoRow, row)
            self.assertIs(type(refusal(listed, Jobs([], []), 2, [thing])), NoRow, thing)
        self.assertIs(type(refusal(listed, LOOSE, 2, list(NO_NAMES))), NoRow)

    def test_benches_ahead_of_the_row(self):
        for benches in NO_BENCHES:
            for row in (["a", "b", "c"], [], ["a", "a", None], [["a"]]):
                self.assertIs(type(refusal(listed, LOOSE, benches, row)), NoBench, benches)
            self.assertIs(type(refusal(listed, Jobs([], []), benches, [])), NoBench, benches)

    def test_kept(self):
        row = ["c", "a", "b"]
        jobs = Jobs(["c", "b", "a"], [("a", "b")])
        plan = listed(jobs, 2, row)
        self.assertEqual(row, ["c", "a", "b"])
        row.clear()
        self.assertEqual(plan, [["c", "a"], ["b"]])
        plan[0].clear()
        plan.append(["x"])
        self.assertEqual(listed(jobs, 2, ["c", "a", "b"]), [["c", "a"], ["b"]])
        self.assertEqual(jobs.names(), ["c", "b", "a"])

    def test_the_row_of_the_jobs_itself_stays(self):
        row = ["a", "b"]
        plan = listed(Jobs(["a", "b"], []), 2, row)
        plan[0].append("x")
        self.assertEqual(row, ["a", "b"])


if __name__ == "__main__":
    unittest.main()
