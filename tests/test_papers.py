"""Points 2, 4 and 21: what papers show."""

import itertools
import random
import unittest

from levelbench.errors import NoBench, NoPaper
from levelbench.jobs import Jobs
from levelbench.papers import shown
from levelbench.twos import two_plan
from levelbench.woods import wood_plan
from samples import (CHAIN, DIAMOND, GATHERING, HUGE, LOOSE, MANY_BENCHES, NO_BENCHES, NO_NAMES, NO_NUMBERS, NO_TEXTS,
                     NONE, SPREADING, TWENTY, all_by_a_row, asked, drawn_case, far_orders, gathering_orders,
                     near_orders, reckoned_height, refusal, same, shortest_length, spreading_orders, with_more_told)

SOME = (NONE, LOOSE, CHAIN, GATHERING, SPREADING, DIAMOND)
NO_NUMBERS_OF_PAPERS = NO_NUMBERS + [-1, -2, -HUGE, ["a"], [["a"]], [[]]]
NO_BLOCKS = [thing for thing in NO_NAMES if not isinstance(thing, list)] + [HUGE, "ab", (["a"],), (("a",),), ([],)]
NO_ROWS = [None, 0, 1, True, False, 2.5, "", "a", "ab", (), ("a",), ("a", "b"), {}, {"a": 1}, []]


def rounded_up(many, benches):
    return sum(1 for first in range(0, many, benches)) if benches < 100 else min(many, 1)


def reckoned_number(names, orders, benches, word, k):
    pairs = near_orders(names, orders)
    if word == "ahead":
        pairs = [(other, one) for one, other in pairs]
    many = sum(1 for name in names if reckoned_height(pairs, name) > k)
    return rounded_up(many, benches) + k if many > 0 else 0


def are_blocks(far, blocks):
    return all(set(itertools.product(one, other)) <= far for one, other in zip(blocks, blocks[1:]))


def all_rows_of_blocks(names):
    """Each list of rows, none of them empty, in which no name stands twice."""
    yield []
    for many in range(1, len(names) + 1):
        for block in itertools.combinations(names, many):
            for blocks in all_rows_of_blocks([name for name in names if name not in block]):
                yield [list(block)] + blocks


def drawn_blocks(draw, names, far):
    """Blocks that are right ones, but need not fill any plan."""
    blocks, left = [], list(names)
    while left:
        block = draw.sample(left, min(len(left), draw.randint(1, 3)))
        blocks.append(block)
        left = [name for name in left if all((one, name) in far for one in block)]
    return blocks[draw.randint(0, 1):]


class Refused(unittest.TestCase):
    def assert_no_paper(self, paper, some=SOME):
        for jobs in some:
            for benches in (1, 2, 3, MANY_BENCHES):
                self.assertIs(type(refusal(shown, jobs, benches, paper)), NoPaper, (jobs.names(), paper))

    def test_what_is_no_tuple_of_two(self):
        for paper in NO_NAMES + ["blocks", "behind", "ahead", "be", 2, HUGE]:
            self.assert_no_paper(paper)
        for word, more in (("blocks", []), ("blocks", [["a"]]), ("behind", 0), ("behind", 1), ("ahead", 0)):
            for paper in ([word, more], {word: more}, (word,), (word, more, more), (word, more, None), (more, word),
                          ((word, more),), [(word, more)], (more,), word):
                self.assert_no_paper(paper)
        self.assert_no_paper(("behind", 0, "ahead", 0))

    def test_another_word(self):
        for word in NO_TEXTS + ["", "block", "Blocks", "BLOCKS", "blocks ", " blocks", "Behind", "behind ", "before",
                                "a head", "Ahead", "all", "long", "plan", "late", "crowd", ["blocks"], ("ahead",)]:
            for more in (0, 1, [], [["a"]]):
                self.assert_no_paper((word, more))

    def test_a_number_that_is_none(self):
        for word in ("behind", "ahead"):
            for thing in NO_NUMBERS_OF_PAPERS:
                self.assert_no_paper((word, thing))

    def test_blocks_that_are_no_list(self):
        for thing in NO_BLOCKS:
            self.assert_no_paper(("blocks", thing))

    def test_a_block_that_is_no_list_or_empty(self):
        for thing in NO_ROWS:
            self.assert_no_paper(("blocks", [thing]))
            for blocks in ([["a"], thing], [thing, ["a"]], [["a"], thing, ["b"]], [["a"], ["b"], thing]):
                self.assert_no_paper(("blocks", blocks))

    def test_something_in_a_block_that_is_no_job(self):
        for thing in NO_NAMES + ["x", "aa", "e", "abc"]:
            for blocks in ([[thing]], [["a", thing]], [[thing, "a"]], [["a"], [thing]], [[thing], ["b"]],
                           [["a"], ["b", thing]], [[thing], [thing]]):
                self.assert_no_paper(("blocks", blocks))

    def test_a_job_twice(self):
        for blocks in ([["a", "a"]], [["a", "b", "a"]], [["a"], ["a"]], [["a"], ["b"], ["a"]], [["a"], ["b"], ["b"]],
                       [["a"], ["b", "b"]], [["a"], ["b", "c"], ["b"]], [["a", "b"], ["b"]]):
            self.assert_no_paper(("blocks", blocks))

    def test_a_job_that_is_not_ahead_of_each_of_the_next_block(self):
        self.assert_no_paper(("blocks", [["c"], ["a"]]))
        self.assert_no_paper(("blocks", [["b"], ["a"]]))
        self.assert_no_paper(("blocks", [["a"], ["b"]]), [LOOSE, GATHERING])
        self.assert_no_paper(("blocks", [["a"], ["b"], ["c"]]), [LOOSE, GATHERING, SPREADING, DIAMOND])
        self.assert_no_paper(("blocks", [["b"], ["d", "c"]]), [DIAMOND])
        self.assert_no_paper(("blocks", [["a", "b"], ["c"], ["d"]]), [DIAMOND])
        self.assert_no_paper(("blocks", [["a"], ["d"], ["b"]]), [DIAMOND])
        self.assert_no_paper(("blocks", [["a"], ["b"], ["d", "c"]]), [DIAMOND])

    def test_benches_come_first(self):
        for benches in NO_BENCHES:
            for paper in (("blocks", []), ("blocks", [["a"]]), ("behind", 0), ("ahead", 1), None, "blocks", (),
                          ("blocks", None), ("behind", -1), ["behind", 0]):
                for jobs in (NONE, LOOSE, DIAMOND):
                    self.assertIs(type(refusal(shown, jobs, benches, paper)), NoBench, (benches, paper))


class Blocks(unittest.TestCase):
    def test_none_at_all(self):
        for jobs in SOME:
            for benches in (1, 2, 3, MANY_BENCHES):
                self.assertTrue(same(asked(shown, jobs, benches, ("blocks", [])), 0))

    def test_one_block(self):
        jobs = Jobs(TWENTY, [])
        for many, benches in itertools.product(range(1, 21), (1, 2, 3, 4, 7, 19, 20, 21, MANY_BENCHES)):
            wanted = rounded_up(many, benches)
            self.assertTrue(same(asked(shown, jobs, benches, ("blocks", [TWENTY[20 - many:]])), wanted))

    def test_each_block_is_rounded_up_by_itself(self):
        names = list("abcdefg")
        layers = [list("abc"), list("d"), list("efg")]
        jobs = Jobs(names, [pair for one, other in zip(layers, layers[1:]) for pair in itertools.product(one, other)])
        for benches, wanted in ((1, 7), (2, 5), (3, 3), (4, 3), (7, 3), (MANY_BENCHES, 3)):
            self.assertEqual(asked(shown, jobs, benches, ("blocks", layers)), wanted)
            self.assertEqual(shown(jobs, benches, ("blocks", [row[::-1] for row in layers])), wanted)
        self.assertEqual(shown(jobs, 2, ("blocks", [["b", "a"], ["f"]])), 2)
        self.assertEqual(shown(jobs, 1, ("blocks", [["b", "a"], ["f"]])), 3)
        self.assertEqual(shown(jobs, 2, ("blocks", [["e", "f", "g"]])), 2)

    def test_ahead_by_others_is_ahead(self):
        self.assertEqual(shown(CHAIN, 1, ("blocks", [["a"], ["c"]])), 2)
        self.assertEqual(shown(DIAMOND, 1, ("blocks", [["a"], ["d"]])), 2)
        self.assertEqual(shown(DIAMOND, 2, ("blocks", [["a"], ["c", "b"], ["d"]])), 3)
        self.assertEqual(shown(DIAMOND, 1, ("blocks", [["a"], ["c", "b"], ["d"]])), 4)

    def test_all_rows_of_blocks_of_four_against_all_plans(self):
        names = ["c", "a", "d", "b"]
        for orders in all_by_a_row(["a", "b", "c", "d"]):
            jobs, far = Jobs(names, orders), far_orders(names, orders)
            shortest = {benches: shortest_length(names, orders, benches) for benches in (1, 2, 3)}
            for blocks in all_rows_of_blocks(names):
                for benches in (1, 2, 3):
                    if not are_blocks(far, blocks):
                        self.assertIs(type(refusal(shown, jobs, benches, ("blocks", blocks))), NoPaper, blocks)
                        continue
                    told = shown(jobs, benches, ("blocks", blocks))
                    self.assertEqual(told, sum(rounded_up(len(block), benches) for block in blocks))
                    self.assertLessEqual(told, shortest[benches], (orders, blocks))

    def test_drawn_blocks_against_all_plans(self):
        draw = random.Random(21)
        for _ in range(150):
            names, orders = drawn_case(draw, 8)
            jobs, far, benches = Jobs(names, orders), far_orders(names, orders), draw.choice([1, 2, 3, 4])
            for _ in range(5):
                blocks = drawn_blocks(draw, names, far)
                told = asked(shown, jobs, benches, ("blocks", blocks))
                self.assertEqual(told, sum(rounded_up(len(block), benches) for block in blocks))
                self.assertLessEqual(told, shortest_length(names, orders, benches), (orders, blocks))

    def test_blocks_of_a_plan_on_two_benches_show_its_length(self):
        draw = random.Random(211)
        for _ in range(200):
            jobs = Jobs(*drawn_case(draw, 20))
            plan, blocks = two_plan(jobs)
            self.assertTrue(same(asked(shown, jobs, 2, ("blocks", blocks)), len(plan)))


class Numbers(unittest.TestCase):
    def test_without_jobs(self):
        for word, k in itertools.product(("behind", "ahead"), (0, 1, 2, HUGE)):
            for benches in (1, 2, 3, MANY_BENCHES):
                self.assertTrue(same(asked(shown, NONE, benches, (word, k)), 0))

    def test_nought_asks_for_all_jobs(self):
        for many, benches in itertools.product(range(21), (1, 2, 3, 7, 20, 21, MANY_BENCHES)):
            for word in ("behind", "ahead"):
                self.assertEqual(shown(Jobs(TWENTY[:many], []), benches, (word, 0)), rounded_up(many, benches))

    def test_heights_and_depths_differ(self):
        for benches, behind, ahead in ((1, [3, 3, 0, 0], [3, 2, 0, 0]), (2, [2, 2, 0, 0], [2, 2, 0, 0]),
                                       (3, [1, 2, 0, 0], [1, 2, 0, 0])):
            self.assertEqual([shown(GATHERING, benches, ("behind", k)) for k in range(4)], behind)
            self.assertEqual([shown(GATHERING, benches, ("ahead", k)) for k in range(4)], ahead)
            self.assertEqual([shown(SPREADING, benches, ("ahead", k)) for k in range(4)], behind)
            self.assertEqual([shown(SPREADING, benches, ("behind", k)) for k in range(4)], ahead)

    def test_at_the_greatest_height_and_above(self):
        jobs = Jobs(TWENTY, list(zip(TWENTY, TWENTY[1:])))
        for word in ("behind", "ahead"):
            for benches in (1, 2, 20, MANY_BENCHES):
                self.assertEqual(shown(jobs, benches, (word, 19)), 20)
                for k in (20, 21, 40, 10 ** 30, HUGE):
                    self.assertTrue(same(shown(jobs, benches, (word, k)), 0))

    def test_orders_of_four_against_all_plans(self):
        names = ["c", "a", "d", "b"]
        for orders in all_by_a_row(["a", "b", "c", "d"]):
            self.assert_reckoned(names, orders, (1, 2, 3))

    def test_drawn_jobs_against_all_plans(self):
        draw = random.Random(212)
        for _ in range(100):
            self.assert_reckoned(*drawn_case(draw, 8), (1, 2, 3, 9))

    def assert_reckoned(self, names, orders, some_benches):
        jobs = Jobs(names, orders)
        for benches in some_benches:
            shortest = shortest_length(names, orders, benches)
            for word, k in itertools.product(("behind", "ahead"), range(len(names) + 2)):
                told = asked(shown, jobs, benches, (word, k))
                self.assertEqual(told, reckoned_number(names, orders, benches, word, k), (orders, benches, word, k))
                self.assertLessEqual(told, shortest, (orders, benches, word, k))

    def test_drawn_jobs_up_to_twenty(self):
        draw = random.Random(213)
        for _ in range(60):
            names, orders = drawn_case(draw, 20, [gathering_orders, spreading_orders])
            benches = draw.choice([1, 2, 3, 5, MANY_BENCHES])
            for word, k in itertools.product(("behind", "ahead"), (0, 1, 2, 5, 19, 20, HUGE)):
                wanted = reckoned_number(names, orders, benches, word, k)
                self.assertEqual(shown(Jobs(names, orders), benches, (word, k)), wanted)

    def test_a_wood_s_paper_shows_its_plan_s_length(self):
        draw = random.Random(214)
        for _ in range(200):
            jobs = Jobs(*drawn_case(draw, 20, [gathering_orders, spreading_orders]))
            benches = draw.choice([1, 2, 3, 4, 5, 20, MANY_BENCHES])
            plan, paper = wood_plan(jobs, benches)
            self.assertTrue(same(asked(shown, jobs, benches, paper), len(plan)))


class Alike(unittest.TestCase):
    def test_however_the_orders_are_told(self):
        draw = random.Random(4)
        for _ in range(80):
            names, orders = drawn_case(draw, 12)
            benches = draw.randint(1, 4)
            papers = [(word, k) for word in ("behind", "ahead") for k in (0, 1, 2, 3)]
            papers.append(("blocks", drawn_blocks(draw, names, far_orders(names, orders))))
            wanted = [shown(Jobs(names, orders), benches, paper) for paper in papers]
            other = Jobs(draw.sample(names, len(names)), with_more_told(draw, names, orders))
            self.assertEqual([shown(other, benches, paper) for paper in papers], wanted)
            self.assertEqual([shown(Jobs(names, orders), benches, paper) for paper in papers], wanted)

    def test_changing_a_paper_later_changes_no_answer(self):
        blocks = [["a"], ["b", "c"], ["d"]]
        paper = ("blocks", blocks)
        self.assertEqual(shown(DIAMOND, 1, paper), 4)
        blocks[1].remove("b")
        self.assertEqual(shown(DIAMOND, 1, paper), 3)
        blocks.append(["d"])
        self.assertIs(type(refusal(shown, DIAMOND, 1, paper)), NoPaper)
        blocks.clear()
        self.assertEqual(shown(DIAMOND, 1, paper), 0)


if __name__ == "__main__":
    unittest.main()
