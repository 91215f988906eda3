"""Points 2 and 4, over the whole program: what its parts promise of one another."""

import copy
import os
import pathlib
import random
import subprocess
import sys
import unittest

from levelbench.broken import broken
from levelbench.desk import Desk
from levelbench.ends import mended, met
from levelbench.errors import NoBench
from levelbench.few import counted, fewest
from levelbench.heights import depths, heights, longest
from levelbench.jobs import Jobs
from levelbench.jobtexts import jobs_text, read_jobs
from levelbench.lateness import lateness, least_late
from levelbench.papers import shown
from levelbench.plans import fault, listed, turn_of
from levelbench.plantexts import plan_text, read_plan
from levelbench.ranks import ranks
from levelbench.twos import two_plan
from levelbench.windows import windowed
from levelbench.woods import is_gathering, is_spreading, wood_plan
from samples import (DIAMOND, LOOSE, MANY_BENCHES, NO_BENCHES, NONE, TWENTY, asked, drawn_case, drawn_ends,
                     drawn_jobs_and_ends, drawn_names, far_orders, gathering_orders, goes_round, refusal, scramble,
                     spreading_orders, with_more_told, written)

WOODS = [gathering_orders, spreading_orders]
ROOT = pathlib.Path(__file__).resolve().parent.parent


def all_asked(names, orders, benches, ends):
    """All there is to ask of jobs and their ends: a list of what is asked and of the things that are handed in."""
    jobs = Jobs(names, orders)
    row = list(reversed(names))
    plan = listed(jobs, benches, row)
    windows = {name: (end - 3, end) for name, end in ends.items()}
    lengths = {name: abs(end) for name, end in ends.items()}
    questions = [(ask, [jobs]) for ask in (jobs_text, heights, depths, longest, ranks, two_plan, is_gathering,
                                           is_spreading, Jobs.names, Jobs.orders)]
    questions += [(ask, [jobs, name]) for ask in (Jobs.behind, Jobs.ahead, Jobs.straight) for name in names]
    questions += [(listed, [jobs, benches, row]), (fault, [jobs, benches, plan]), (plan_text, [plan]),
                  (fault, [jobs, benches, [[["x"], {"y": ["z"]}]]]), (read_plan, [plan_text(plan)]),
                  (turn_of, [plan, names[0]]), (wood_plan, [jobs, benches]), (mended, [jobs, benches, ends]),
                  (met, [jobs, benches, ends]), (least_late, [jobs, benches, ends]), (lateness, [plan, ends]),
                  (windowed, [benches, windows]), (broken, [benches, lengths]),
                  (shown, [jobs, 2, ("blocks", two_plan(jobs)[1])]), (shown, [jobs, benches, ("behind", 1)]),
                  (shown, [jobs, benches, ("ahead", 1)]), (shown, [jobs, benches, ["no paper"]]),
                  (fewest, [jobs, benches]), (counted, [jobs, benches, 9]),
                  (Jobs, [names, [("a", "a")]]), (Jobs, [names, [(["x"], {"y": ["z"]})]]), (Jobs, [[["x", ["y"]]], []])]
    return questions


def answer(ask, things):
    """What is told, or what is refused with its fields."""
    refused = refusal(ask, *things)
    if refused is not None:
        return [type(refused).__name__, getattr(refused, "name", None), getattr(refused, "ring", None)]
    told = asked(ask, *things)
    return [written([told])] if isinstance(told, Jobs) else told


def answers(questions):
    return [repr(answer(ask, things)) for ask, things in questions]


class Benches(unittest.TestCase):
    def test_no_bench_comes_first_from_each(self):
        twenty = Jobs(TWENTY, [])
        many = {number: None for number in range(30)}
        cases = [
            lambda benches: fault(LOOSE, benches, [["a"]]),
            lambda benches: fault(LOOSE, benches, [[None]]),
            lambda benches: listed(LOOSE, benches, ["a", "b", "c"]),
            lambda benches: listed(LOOSE, benches, [None]),
            lambda benches: wood_plan(LOOSE, benches),
            lambda benches: wood_plan(DIAMOND, benches),
            lambda benches: mended(LOOSE, benches, {}),
            lambda benches: met(DIAMOND, benches, {}),
            lambda benches: met(LOOSE, benches, {"a": 1, "b": 1, "c": 1}),
            lambda benches: least_late(NONE, benches, {}),
            lambda benches: least_late(DIAMOND, benches, {"a": None}),
            lambda benches: windowed(benches, {}),
            lambda benches: windowed(benches, many),
            lambda benches: broken(benches, {}),
            lambda benches: broken(benches, many),
            lambda benches: shown(LOOSE, benches, ("behind", 0)),
            lambda benches: shown(LOOSE, benches, None),
            lambda benches: fewest(LOOSE, benches),
            lambda benches: fewest(twenty, benches),
            lambda benches: counted(LOOSE, benches, 3),
            lambda benches: counted(twenty, benches, 41),
        ]
        for benches in NO_BENCHES:
            for number, case in enumerate(cases):
                self.assertIs(type(refusal(case, benches)), NoBench, (number, benches))


class Own(unittest.TestCase):
    def drawn_questions(self, draw, least=1):
        benches = draw.randint(1, 4)
        names, orders, ends = drawn_jobs_and_ends(draw, draw.choice([7, 10]), benches, least)
        return (names, orders, benches, ends)

    def test_changing_what_is_told_changes_no_other_answer(self):
        draw = random.Random(2)
        for _ in range(25):
            told = self.drawn_questions(draw)
            questions = all_asked(*told)
            before = answers(questions)
            for ask, things in questions:
                scramble(answer(ask, things))
            answers(all_asked(*self.drawn_questions(draw)))
            self.assertEqual(answers(questions), before)
            self.assertEqual(answers(all_asked(*copy.deepcopy(told))), before)

    def test_changing_what_was_handed_in_changes_no_answer_that_was_told(self):
        draw = random.Random(22)
        for _ in range(25):
            questions = all_asked(*self.drawn_questions(draw))
            told = [answer(ask, things) for ask, things in questions]
            before = repr(told)
            for ask, things in questions:
                scramble([thing for thing in things if not isinstance(thing, Jobs)])
            self.assertEqual(repr(told), before)

    def test_jobs_keep_nothing_of_what_they_were_made_of(self):
        draw = random.Random(222)
        for _ in range(25):
            names, orders, benches, ends = self.drawn_questions(draw)
            handed_names, handed_orders = list(names), list(orders)
            jobs = Jobs(handed_names, handed_orders)
            turned = jobs.turned()
            before = written([jobs, turned])
            scramble(handed_names)
            scramble(handed_orders)
            self.assertEqual(written([jobs, turned]), before)
            self.assertEqual(repr(two_plan(jobs)), repr(two_plan(Jobs(names, orders))))

    def test_no_two_parts_of_an_answer_are_one_list(self):
        draw = random.Random(2222)
        for _ in range(25):
            for ask, things in all_asked(*self.drawn_questions(draw)):
                told = answer(ask, things)
                found = [id(part) for part in lists_within(told)]
                self.assertEqual(len(found), len(set(found)), (ask, told))

    def test_the_same_whatever_python_hashes_names_to(self):
        script = ("import random, test_whole as t; draw = random.Random(3); own = t.Own();\n"
                  "for _ in range(6): print(t.answers(t.all_asked(*own.drawn_questions(draw))))\n")
        told = []
        for seed in ("0", "1", "2"):
            paths = os.pathsep.join([str(ROOT), str(ROOT / "tests")])
            space = {**os.environ, "PYTHONHASHSEED": seed, "PYTHONPATH": paths, "PYTHONDONTWRITEBYTECODE": "1"}
            told.append(subprocess.run([sys.executable, "-c", script], env=space, check=True,
                                       capture_output=True, text=True).stdout)
        self.assertGreater(len(told[0]), 1000)
        self.assertEqual(told, [told[0]] * 3)


def lists_within(told):
    if isinstance(told, (list, dict)):
        yield told
    if isinstance(told, (list, tuple)):
        for part in told:
            yield from lists_within(part)
    if isinstance(told, dict):
        for part in told.values():
            yield from lists_within(part)


class Agreeing(unittest.TestCase):
    def test_two_benches_woods_and_few_jobs(self):
        draw = random.Random(4)
        for _ in range(120):
            jobs = Jobs(*drawn_case(draw, 7))
            lengths = {len(two_plan(jobs)[0]), len(fewest(jobs, 2))}
            if is_gathering(jobs) or is_spreading(jobs):
                lengths.add(len(wood_plan(jobs, 2)[0]))
            self.assertEqual(len(lengths), 1)

    def test_woods_and_few_jobs_on_any_benches(self):
        draw = random.Random(41)
        for _ in range(120):
            jobs = Jobs(*drawn_case(draw, 7, WOODS))
            for benches in (1, 2, 3, 4, 7, MANY_BENCHES):
                self.assertEqual(len(wood_plan(jobs, benches)[0]), len(fewest(jobs, benches)))

    def test_two_benches_and_woods_of_up_to_twenty(self):
        draw = random.Random(42)
        for _ in range(100):
            jobs = Jobs(*drawn_case(draw, 20, WOODS))
            self.assertEqual(len(wood_plan(jobs, 2)[0]), len(two_plan(jobs)[0]))

    def test_plans_that_are_told_are_right(self):
        draw = random.Random(43)
        for _ in range(60):
            benches = draw.randint(1, 4)
            names, orders, ends = drawn_jobs_and_ends(draw, 7, benches, 1)
            jobs = Jobs(names, orders)
            self.assertIsNone(fault(jobs, 2, two_plan(jobs)[0]))
            self.assertIsNone(fault(jobs, benches, fewest(jobs, benches)))
            self.assertIsNone(fault(jobs, benches, least_late(jobs, benches, ends)[1]))
            self.assertIsNone(fault(jobs, benches, listed(jobs, benches, names)))
            told = met(jobs, benches, ends)
            self.assertTrue(told[0] == "late" or fault(jobs, benches, told[1]) is None)

    def test_a_paper_that_comes_with_a_plan_shows_just_its_length(self):
        draw = random.Random(44)
        for _ in range(100):
            jobs = Jobs(*drawn_case(draw, 20))
            plan, blocks = two_plan(jobs)
            self.assertEqual(shown(jobs, 2, ("blocks", blocks)), len(plan))
            benches = draw.choice([1, 2, 3, 4, 5, MANY_BENCHES])
            if is_gathering(jobs) or is_spreading(jobs):
                plan, paper = wood_plan(jobs, benches)
                self.assertEqual(shown(jobs, benches, paper), len(plan))

    def test_with_one_end_for_all_lateness_tells_the_shortest_length(self):
        draw = random.Random(45)
        for _ in range(100):
            benches = draw.choice([1, 2, 2, 3, 4])
            names, orders, _ = drawn_jobs_and_ends(draw, 7, benches, 1)
            jobs = Jobs(names, orders)
            length = len(fewest(jobs, benches))
            self.assertEqual(least_late(jobs, benches, {name: 0 for name in names})[0], length)
            self.assertEqual(met(jobs, benches, {name: length for name in names})[0], "plan")
            self.assertEqual(met(jobs, benches, {name: length - 1 for name in names})[0], "late")

    def test_ends_are_met_where_the_least_lateness_is_nought_or_less(self):
        draw = random.Random(46)
        for _ in range(150):
            benches = draw.choice([1, 2, 3])
            names, orders, ends = drawn_jobs_and_ends(draw, 14, benches, 1)
            jobs = Jobs(names, orders)
            late = least_late(jobs, benches, ends)
            self.assertEqual(met(jobs, benches, ends)[0] == "plan", late[0] <= 0)
            self.assertEqual(lateness(late[1], ends), late[0])

    def test_without_orders_ends_are_windows_that_begin_at_one(self):
        draw = random.Random(47)
        for _ in range(100):
            names, benches = drawn_names(draw, draw.randint(0, 12)), draw.randint(1, 3)
            ends = drawn_ends(draw, names, listed(Jobs(names, []), benches, names))
            told = windowed(benches, {name: (1, end) for name, end in ends.items()})
            self.assertEqual(told[0] == "plan", met(Jobs(names, []), benches, ends)[0] == "plan")

    def test_without_orders_lengths_of_one_fill_a_wood_s_plan(self):
        for many in range(21):
            for benches in (1, 2, 3, 7, 20, MANY_BENCHES):
                length = len(wood_plan(Jobs(TWENTY[:many], []), benches)[0])
                self.assertEqual(broken(benches, {name: 1 for name in TWENTY[:many]})[0], length)

    def test_a_desk_tells_the_same(self):
        draw = random.Random(48)
        for _ in range(40):
            jobs = Jobs(*drawn_case(draw, 7))
            desk = Desk()
            desk.say("jobs " + jobs_text(jobs))
            self.assertEqual(desk.say("plan"), plan_text(two_plan(read_jobs(jobs_text(jobs)))[0]))
            self.assertEqual(len(read_plan(desk.say("fewest"))), len(two_plan(jobs)[0]))


class Lengths(unittest.TestCase):
    def lengths(self, names, orders, benches):
        jobs = Jobs(names, orders)
        told = [len(two_plan(jobs)[0]), len(longest(jobs)), len(fewest(jobs, benches))]
        if is_gathering(jobs) or is_spreading(jobs):
            told.append(len(wood_plan(jobs, benches)[0]))
        if benches <= 2 or is_gathering(jobs):
            told.append(least_late(jobs, benches, {name: 0 for name in names})[0])
        return told

    def test_other_names_orders_told_twice_or_in_another_sequence(self):
        draw = random.Random(5)
        for _ in range(80):
            names, orders = drawn_case(draw, 7, least=1)
            benches = draw.randint(1, 4)
            wanted = self.lengths(names, orders, benches)
            self.assertEqual(self.lengths(draw.sample(names, len(names)), orders, benches), wanted)
            self.assertEqual(self.lengths(names, draw.sample(orders, len(orders)) + orders, benches), wanted)
            self.assertEqual(self.lengths(names, with_more_told(draw, names, orders), benches), wanted)
            other = dict(zip(names, drawn_names(draw, len(names))))
            renamed = [(other[x], other[y]) for x, y in orders]
            self.assertEqual(self.lengths(list(other.values()), renamed, benches), wanted)

    def test_an_order_more_never_makes_a_shortest_plan_shorter(self):
        draw = random.Random(51)
        tried = 0
        for _ in range(150):
            names, orders = drawn_case(draw, 7, least=2)
            more = orders + [tuple(draw.sample(names, 2))]
            if goes_round(names, more):
                continue
            tried += more[-1] not in far_orders(names, orders)
            for benches in (1, 2, 3, 4):
                shortest = len(fewest(Jobs(names, orders), benches))
                self.assertGreaterEqual(len(fewest(Jobs(names, more), benches)), shortest)
            self.assertGreaterEqual(len(two_plan(Jobs(names, more))[0]), len(two_plan(Jobs(names, orders))[0]))
        self.assertGreater(tried, 40)

    def test_a_bench_more_never_makes_a_shortest_plan_longer(self):
        draw = random.Random(52)
        for _ in range(60):
            names, orders = drawn_case(draw, 7)
            jobs = Jobs(names, orders)
            told = [len(fewest(jobs, benches)) for benches in (1, 2, 3, 4, 5, 6, 7, 8, MANY_BENCHES)]
            self.assertEqual(told, sorted(told, reverse=True))
            self.assertEqual((told[0], told[1], told[-1]), (len(names), len(two_plan(jobs)[0]), len(longest(jobs))))


if __name__ == "__main__":
    unittest.main()
