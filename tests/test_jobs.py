"""Points 2, 5 and 6: jobs, their refusals, and what is told of them."""

import itertools
import unittest

from levelbench.errors import NoName, Ring, Stranger, TooMany, Twice
from levelbench.jobs import Jobs
from samples import NO_NAMES, NO_TEXTS, TWENTY, all_ringless, far_orders, goes_round, refusal, same, subsets

STRANGERS = NO_NAMES + ["z", "aa", "abc"]


def told_of(jobs):
    rows = [(name, jobs.behind(name), jobs.ahead(name), jobs.straight(name)) for name in jobs.names()]
    return (jobs.names(), jobs.orders(), rows)


class Refused(unittest.TestCase):
    def assert_named(self, found, kind, thing):
        self.assertIs(type(found), kind)
        self.assertTrue(same(found.name, thing), (found.name, thing))

    def assert_ring(self, names, orders):
        found = refusal(Jobs, names, orders)
        self.assertIs(type(found), Ring, (names, orders))
        ring = found.ring
        self.assertIs(type(ring), list)
        self.assertGreater(len(ring), 0)
        self.assertEqual(len(set(ring)), len(ring), ring)
        for one, other in zip(ring, ring[1:] + ring[:1]):
            self.assertIn((one, other), orders)

    def test_no_names_and_twenty_are_taken(self):
        self.assertEqual(Jobs([], []).names(), [])
        self.assertEqual(Jobs([], []).orders(), [])
        self.assertEqual(Jobs(TWENTY, []).names(), TWENTY)

    def test_names_of_one_to_eight_letters_are_taken(self):
        names = ["a", "z", "abcdefgh", "zzzzzzzz", "if", "az"]
        self.assertEqual(Jobs(names, []).names(), names)

    def test_too_many(self):
        self.assertIs(type(refusal(Jobs, TWENTY + ["z"], [])), TooMany)
        for many in (21, 22, 60, 5000):
            for thing in ["a", "", None, 7, ["a"]]:
                self.assertIs(type(refusal(Jobs, [thing] * many, [])), TooMany)

    def test_no_name(self):
        for thing in NO_NAMES:
            self.assert_named(refusal(Jobs, [thing], []), NoName, thing)
            self.assert_named(refusal(Jobs, ["a", thing, "b"], []), NoName, thing)
            self.assert_named(refusal(Jobs, TWENTY[:19] + [thing], []), NoName, thing)

    def test_the_first_that_is_no_name(self):
        for one, other in itertools.permutations(["", "A", None, 3, True, ["a"], {"a": 1}], 2):
            self.assert_named(refusal(Jobs, ["a", one, "b", other], []), NoName, one)
            self.assert_named(refusal(Jobs, [one, one, other], []), NoName, one)

    def test_twice(self):
        self.assert_named(refusal(Jobs, ["a", "a"], []), Twice, "a")
        self.assert_named(refusal(Jobs, ["a", "b", "c", "a"], []), Twice, "a")
        self.assert_named(refusal(Jobs, TWENTY[:19] + [TWENTY[0]], []), Twice, TWENTY[0])

    def test_the_first_that_stood_there_already(self):
        self.assert_named(refusal(Jobs, ["a", "b", "b", "a"], []), Twice, "b")
        self.assert_named(refusal(Jobs, ["b", "a", "c", "a", "b"], []), Twice, "a")
        self.assert_named(refusal(Jobs, ["c", "b", "a", "c", "b", "a"], []), Twice, "c")

    def test_stranger_in_either_part_or_both(self):
        for thing in STRANGERS:
            self.assert_named(refusal(Jobs, ["a", "b"], [(thing, "a")]), Stranger, thing)
            self.assert_named(refusal(Jobs, ["a", "b"], [("a", thing)]), Stranger, thing)
            self.assert_named(refusal(Jobs, ["a", "b"], [(thing, thing)]), Stranger, thing)
            self.assert_named(refusal(Jobs, ["a", "b"], [("a", "b"), ("b", thing)]), Stranger, thing)
            self.assert_named(refusal(Jobs, [], [(thing, thing)]), Stranger, thing)

    def test_the_first_stranger(self):
        self.assert_named(refusal(Jobs, ["a"], [("z", "y")]), Stranger, "z")
        self.assert_named(refusal(Jobs, ["a"], [("y", "z")]), Stranger, "y")
        self.assert_named(refusal(Jobs, ["a"], [("a", "z"), ("y", "a")]), Stranger, "z")
        self.assert_named(refusal(Jobs, ["a"], [("a", ["z"]), (None, "a")]), Stranger, ["z"])
        self.assert_named(refusal(Jobs, ["a"], [(None, ["z"])]), Stranger, None)

    def test_ring_of_one(self):
        found = refusal(Jobs, ["a"], [("a", "a")])
        self.assertIs(type(found), Ring)
        self.assertEqual(found.ring, ["a"])
        found = refusal(Jobs, ["a", "b", "c"], [("a", "b"), ("b", "b"), ("b", "c")])
        self.assertEqual(found.ring, ["b"])

    def test_rings(self):
        self.assert_ring(["a", "b"], [("a", "b"), ("b", "a")])
        self.assert_ring(["a", "b", "c"], [("a", "b"), ("b", "c"), ("c", "a")])
        self.assert_ring(["a", "b", "c", "d", "e"], [("a", "b"), ("b", "c"), ("c", "d"), ("d", "b"), ("d", "e")])
        self.assert_ring(["x", "a", "b"], [("x", "a"), ("a", "b"), ("b", "a"), ("b", "x"), ("x", "b")])
        self.assert_ring(TWENTY, list(zip(TWENTY, TWENTY[1:] + TWENTY[:1])))

    def test_ring_wherever_orders_of_three_go_round(self):
        names = ["b", "c", "a"]
        for orders in subsets(list(itertools.product(names, repeat=2))):
            if goes_round(names, orders):
                self.assert_ring(names, orders)
            else:
                self.assertIsNone(refusal(Jobs, names, orders))

    def test_ring_wherever_orders_of_four_go_round(self):
        names = ["d", "a", "c", "b"]
        for orders in subsets(list(itertools.permutations(names, 2))):
            if goes_round(names, orders):
                self.assert_ring(names, orders)

    def test_which_refusal_comes_first(self):
        many = TWENTY + ["z"]
        round_about = [("aa", "aa")]
        unknown = [("aa", "zz")]
        cases = [
            (TWENTY + [""], [], TooMany),
            (TWENTY + ["aa"], [], TooMany),
            (many, unknown, TooMany),
            (many, round_about, TooMany),
            (TWENTY + [None, "aa"], unknown + round_about, TooMany),
            (["aa", "aa", ""], [], NoName),
            (["aa", ["aa"]], unknown, NoName),
            (["aa", 7], round_about, NoName),
            (["aa", "aa", True], round_about + unknown, NoName),
            (["aa", "aa"], unknown, Twice),
            (["aa", "aa"], [(None, None)], Twice),
            (["aa", "aa"], round_about, Twice),
            (["aa", "aa"], round_about + unknown, Twice),
            (["aa"], round_about + unknown, Stranger),
            (["aa"], unknown + round_about, Stranger),
        ]
        for names, orders, kind in cases:
            self.assertIs(type(refusal(Jobs, names, orders)), kind, (names, orders))

    def test_things_that_come_again_are_no_names_first(self):
        for thing in NO_NAMES:
            self.assert_named(refusal(Jobs, [thing, thing], [(thing, thing)]), NoName, thing)

    def test_an_order_told_twice_is_no_fault(self):
        jobs = Jobs(["a", "b"], [("a", "b"), ("a", "b"), ("a", "b")])
        self.assertEqual(jobs.orders(), [("a", "b")])


class Told(unittest.TestCase):
    def assert_stranger(self, thing, ask, *things):
        found = refusal(ask, *things)
        self.assertIs(type(found), Stranger, things)
        self.assertTrue(same(found.name, thing), (found.name, thing))

    def test_names_in_their_order(self):
        self.assertEqual(Jobs(["c", "a", "b"], [("a", "c")]).names(), ["c", "a", "b"])

    def test_orders_once_and_sorted(self):
        told = [("c", "b"), ("a", "c"), ("c", "b"), ("a", "b"), ("a", "c")]
        self.assertEqual(Jobs(["c", "b", "a"], told).orders(), [("a", "b"), ("a", "c"), ("c", "b")])

    def test_orders_that_only_follow_are_not_told(self):
        self.assertEqual(Jobs(["a", "b", "c"], [("b", "c"), ("a", "b")]).orders(), [("a", "b"), ("b", "c")])

    def test_is_ahead(self):
        jobs = Jobs(["d", "c", "b", "a"], [("b", "c"), ("a", "b")])
        for one, other in itertools.product("abcd", repeat=2):
            wanted = (one, other) in [("a", "b"), ("b", "c"), ("a", "c")]
            self.assertIs(jobs.is_ahead(one, other), wanted, (one, other))

    def test_rows_where_orders_follow_of_others(self):
        jobs = Jobs(["d", "b", "a", "c", "e"], [("a", "b"), ("b", "c"), ("c", "d")])
        self.assertEqual(jobs.behind("a"), ["d", "b", "c"])
        self.assertEqual(jobs.behind("c"), ["d"])
        self.assertEqual(jobs.behind("d"), [])
        self.assertEqual(jobs.ahead("d"), ["b", "a", "c"])
        self.assertEqual(jobs.ahead("a"), [])
        self.assertEqual(jobs.straight("a"), ["b"])
        self.assertEqual(jobs.straight("d"), [])
        for ask in (jobs.behind, jobs.ahead, jobs.straight):
            self.assertEqual(ask("e"), [])

    def test_straight_where_an_order_is_told_that_follows_as_well(self):
        jobs = Jobs(["c", "b", "a"], [("a", "b"), ("b", "c"), ("a", "c")])
        self.assertEqual(jobs.orders(), [("a", "b"), ("a", "c"), ("b", "c")])
        self.assertEqual(jobs.straight("a"), ["b"])
        self.assertEqual(jobs.behind("a"), ["c", "b"])
        jobs = Jobs(["e", "d", "c", "b", "a"], [("a", "e"), ("a", "b"), ("b", "c"), ("c", "e"), ("a", "d")])
        self.assertEqual(jobs.straight("a"), ["d", "b"])

    def test_straight_ones_in_the_order_of_the_jobs(self):
        jobs = Jobs(["c", "a", "d", "b"], [("a", "b"), ("a", "d"), ("a", "c")])
        self.assertEqual(jobs.straight("a"), ["c", "d", "b"])
        self.assertEqual(jobs.behind("a"), ["c", "d", "b"])

    def test_twenty_in_one_row_with_all_orders(self):
        orders = list(itertools.combinations(TWENTY, 2))
        for told in (orders, list(reversed(orders)), list(zip(TWENTY, TWENTY[1:]))):
            jobs = Jobs(TWENTY, told)
            self.assertEqual(jobs.orders(), sorted(told))
            for place, name in enumerate(TWENTY):
                self.assertEqual(jobs.ahead(name), TWENTY[:place])
                self.assertEqual(jobs.behind(name), TWENTY[place + 1:])
                self.assertEqual(jobs.straight(name), TWENTY[place + 1:place + 2])

    def test_all_orders_of_four(self):
        names = ["c", "a", "d", "b"]
        for orders in all_ringless(names):
            self.assert_as_reckoned(names, orders)

    def assert_as_reckoned(self, names, orders):
        jobs = Jobs(names, orders)
        far = far_orders(names, orders)
        for name in names:
            behind = [other for other in names if (name, other) in far]
            self.assertEqual(jobs.behind(name), behind)
            self.assertEqual(jobs.ahead(name), [other for other in names if (other, name) in far])
            between = [other for one, other in far if one in behind]
            self.assertEqual(jobs.straight(name), [other for other in behind if other not in between])
            for other in names:
                self.assertIs(jobs.is_ahead(name, other), (name, other) in far)

    def test_stranger_from_each_method(self):
        jobs = Jobs(["a", "b"], [("a", "b")])
        for thing in STRANGERS:
            for ask in (jobs.behind, jobs.ahead, jobs.straight):
                self.assert_stranger(thing, ask, thing)
            self.assert_stranger(thing, jobs.is_ahead, thing, "a")
            self.assert_stranger(thing, jobs.is_ahead, "a", thing)

    def test_stranger_without_jobs(self):
        jobs = Jobs([], [])
        for ask in (jobs.behind, jobs.ahead, jobs.straight):
            self.assert_stranger("a", ask, "a")
        self.assert_stranger("a", jobs.is_ahead, "a", "b")

    def test_the_first_of_two_strangers(self):
        jobs = Jobs(["a", "b"], [])
        for one, other in itertools.permutations(["z", None, ["a"], 1], 2):
            self.assert_stranger(one, jobs.is_ahead, one, other)

    def test_turned_about(self):
        jobs = Jobs(["d", "b", "a", "c"], [("b", "c"), ("a", "b"), ("a", "d")])
        turned = jobs.turned()
        self.assertIs(type(turned), Jobs)
        self.assertEqual(turned.names(), ["d", "b", "a", "c"])
        self.assertEqual(turned.orders(), [("b", "a"), ("c", "b"), ("d", "a")])
        self.assertEqual(turned.behind("c"), ["b", "a"])
        self.assertEqual(turned.ahead("a"), ["d", "b", "c"])
        self.assertEqual(turned.straight("c"), ["b"])
        self.assertIs(turned.is_ahead("c", "a"), True)
        self.assertIs(turned.is_ahead("a", "c"), False)

    def test_turned_about_leaves_the_jobs(self):
        jobs = Jobs(["b", "a"], [("a", "b")])
        before = told_of(jobs)
        jobs.turned()
        self.assertEqual(told_of(jobs), before)

    def test_turned_about_twice(self):
        for names, orders in [([], []), (["a"], []), (["c", "a", "b"], [("a", "b"), ("b", "c"), ("a", "c")])]:
            jobs = Jobs(names, orders)
            self.assertEqual(told_of(jobs.turned().turned()), told_of(jobs))


class Kept(unittest.TestCase):
    def make(self):
        return Jobs(["c", "b", "a"], [("b", "c"), ("a", "b")])

    def test_what_is_handed_in_stays(self):
        names = ["c", "b", "a"]
        orders = [("b", "c"), ("a", "b"), ("b", "c")]
        told_of(Jobs(names, orders).turned())
        self.assertEqual(names, ["c", "b", "a"])
        self.assertEqual(orders, [("b", "c"), ("a", "b"), ("b", "c")])

    def test_what_is_done_to_it_later(self):
        names = ["c", "b", "a"]
        orders = [("b", "c"), ("a", "b")]
        jobs = Jobs(names, orders)
        before = told_of(jobs)
        names.append("d")
        names[0] = "x"
        orders.append(("c", "a"))
        orders[0] = ("c", "b")
        self.assertEqual(told_of(jobs), before)
        self.assertEqual(told_of(jobs.turned()), told_of(self.make().turned()))
        names.clear()
        orders.clear()
        self.assertEqual(told_of(jobs), before)

    def test_what_is_told_and_then_changed(self):
        jobs = self.make()
        turned = jobs.turned()
        before = (told_of(jobs), told_of(turned))
        for each in (jobs, turned, jobs.turned(), turned.turned()):
            for told in (each.names(), each.orders(), each.behind("b"), each.ahead("b"), each.straight("b"),
                         each.behind("a"), each.ahead("c")):
                told.append("x")
                told[0] = "y"
                told.reverse()
            self.assertEqual((told_of(jobs), told_of(turned)), before)
            self.assertEqual(told_of(jobs.turned()), before[1])

    def test_the_field_of_a_refusal_is_the_asker_s_own(self):
        jobs = self.make()
        inner = ["x"]
        for thing in ([inner], {"k": inner}, [{"k": [inner]}], [("k", inner)]):
            asked = [(Jobs, ["a", thing], []), (Jobs, ["a"], [("a", thing)]), (jobs.behind, thing),
                     (jobs.ahead, thing), (jobs.straight, thing), (jobs.is_ahead, "a", thing)]
            for ask in asked:
                told = refusal(*ask).name
                inner.append("y")
                self.assertNotEqual(told, thing)
                inner.pop()
                self.assertEqual(told, thing)
                told.clear()
                self.assertEqual(refusal(*ask).name, thing)

    def test_a_list_that_holds_itself(self):
        thing = []
        thing.append(thing)
        for ask in ((Jobs, [thing], []), (Jobs, ["a"], [(thing, "a")])):
            self.assertIn(type(refusal(*ask)), (NoName, Stranger))

    def test_the_ring_is_the_asker_s_own(self):
        names = ["a", "b"]
        orders = [("a", "b"), ("b", "a")]
        refusal(Jobs, names, orders).ring.clear()
        self.assertEqual(sorted(refusal(Jobs, names, orders).ring), ["a", "b"])
        self.assertEqual(names, ["a", "b"])

    def test_the_same_is_answered_alike(self):
        jobs = self.make()
        self.assertEqual(told_of(jobs), told_of(jobs))
        self.assertEqual(told_of(jobs), told_of(self.make()))

    def test_odd_things_are_there(self):
        # Sees to it that the samples themselves stay as wide as the tests above want them.
        kinds = {type(thing) for thing in NO_TEXTS}
        self.assertTrue({type(None), int, bool, tuple, list, dict} <= kinds)


if __name__ == "__main__":
    unittest.main()
