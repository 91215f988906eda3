"""Points 2 and 23: the desk, its rows and its answers."""

import itertools
import random
import unittest

from levelbench.desk import Desk
from levelbench.ends import met
from levelbench.errors import (BenchError, NoBench, NoEnd, NoJob, NoLine, NoText, NoTurns, NoWood, Ring, Stranger,
                               TooMany, Twice)
from levelbench.few import counted, fewest
from levelbench.jobs import Jobs
from levelbench.jobtexts import jobs_text
from levelbench.lateness import least_late
from levelbench.papers import shown
from levelbench.plans import fault
from levelbench.plantexts import plan_text, read_plan
from levelbench.twos import two_plan
from levelbench.woods import wood_plan
from samples import (CHAIN, DIAMOND, GATHERING, HUGE, LOOSE, MANY_BENCHES, NO_NAME_TEXTS, NO_TEXTS, NONE, SPREADING,
                     TWENTY, drawn_case, drawn_jobs_and_ends, gathering_orders, spreading_orders)

WORDS = ["plan", "paper", "met", "late", "fewest"]
ALL_WORDS = WORDS + ["jobs", "benches", "end", "count", "look"]
NO_WRITTEN_NUMBERS = [
    "", "-", "--1", "+1", "+0", "-0", "-00", "00", "01", "007", "-01", "-007", "1.0", "1.", ".1", "1e3", "1_0", "0x1",
    "1,0", "a", "one", "1a", "a1", "-a", "1-", "1-1", "1+1", "(1)", "1;", "'1'", "None", "True", "1" * 61, "9" * 61,
    "-" + "1" * 61, "1" + "0" * 60, "0" * 60, "0" * 61, "1" * 200, "1" * 5000, "\u0662", "\u00b2", "1\n", "\n1", "1\t",
    " 1", "1 ", " ", "1 1", "- 1",
]
SIXTY = "9" * 60


def said(desk, *rows):
    """The answer to the last row."""
    for row in rows:
        answer = desk.say(row)
    return answer


def told_jobs(names, orders):
    return "jobs " + jobs_text(Jobs(names, orders))


def desk_with(jobs, benches=2, ends=None):
    desk = Desk()
    said(desk, "jobs " + jobs_text(jobs), f"benches {benches}")
    for name, end in (ends or {}).items():
        desk.say(f"end {name} {end}")
    return desk


def refusal_of(desk, row):
    try:
        desk.say(row)
    except BenchError as refused:
        return refused
    return None


def state(desk):
    """All that a desk can be seen to hold: its jobs, benches and ends, by answers alone."""
    answers = []
    for row in WORDS + ["count 0", "count 3", "count 40", "look ", "look a", "look a b c d e f g h", "look - / b"]:
        try:
            answers.append(desk.say(row))
        except BenchError as refused:
            answers.append(type(refused))
    return answers


class AtFirst(unittest.TestCase):
    def test_no_jobs_and_two_benches(self):
        desk = Desk()
        for row, answer in (("plan", ""), ("paper", "blocks"), ("met", "plan"), ("fewest", ""), ("count 0", "1"),
                            ("count 40", "1"), ("look ", "right"), ("look - / -", "right"), ("look a", "stranger 1 a")):
            self.assertEqual(desk.say(row), answer, row)
        self.assertIs(type(refusal_of(desk, "late")), NoJob)
        self.assertIs(type(refusal_of(desk, "end a 1")), Stranger)

    def test_benches_are_two_at_first(self):
        self.assertEqual(said(Desk(), "jobs a b c", "look a b c"), "wide 1 3")
        self.assertEqual(said(Desk(), "jobs a b c", "look a b / c"), "right")
        self.assertEqual(said(Desk(), "jobs a b c", "paper")[:7], "blocks ")


class Told(unittest.TestCase):
    def test_ok(self):
        desk = Desk()
        for row in ("jobs a b c; a < b", "jobs ", "jobs a", "benches 1", "benches 2", "benches " + SIXTY, "end a 1",
                    "end a -1", "end a 0", "end a " + SIXTY, "end a -" + SIXTY, "jobs " + " ".join(TWENTY)):
            self.assertEqual(desk.say(row), "ok", row)

    def test_jobs_with_nothing_behind_the_blank(self):
        desk = Desk()
        said(desk, "jobs a b; a < b", "end a 3", "end b 3", "benches 3", "jobs ")
        for row, answer in (("plan", ""), ("met", "plan"), ("fewest", ""), ("count 7", "1"), ("look ", "right"),
                            ("look a", "stranger 1 a")):
            self.assertEqual(desk.say(row), answer, row)
        self.assertIn(desk.say("paper"), ("behind 0", "ahead 0"))

    def test_orders_in_any_sequence_and_more_than_once(self):
        desk = Desk()
        for text in ("c b a; b < c; a < b", "c b a; a < b; b < c; a < b", "a b c; a < c; b < c; a < b"):
            self.assertEqual(said(desk, "jobs " + text, "plan"), "a / b / c")

    def test_new_jobs_take_the_ends_away(self):
        desk = desk_with(LOOSE, 2, {"a": 5, "b": 5, "c": 5})
        self.assertEqual(desk.say("met").split(" ")[0], "plan")
        desk.say("jobs c b a")
        for row in ("met", "late"):
            self.assertIs(type(refusal_of(desk, row)), NoEnd)
        said(desk, "end a 1", "end b 1")
        self.assertIs(type(refusal_of(desk, "met")), NoEnd)
        self.assertEqual(said(desk, "end c 2", "met").split(" ")[0], "plan")

    def test_benches_stay_when_jobs_are_told(self):
        desk = Desk()
        self.assertEqual(said(desk, "benches 3", "jobs a b c d", "look a b c d"), "wide 1 4")
        self.assertEqual(said(desk, "jobs a b c", "look a b c"), "right")
        self.assertEqual(said(desk, "benches 1", "jobs a b", "look a b"), "wide 1 2")

    def test_ends_stay_when_benches_are_told(self):
        desk = desk_with(Jobs(["a", "b"], []), 1, {"a": 1, "b": 1})
        self.assertEqual(desk.say("met"), "late 1 a b")
        self.assertEqual(sorted(said(desk, "benches 2", "met")), sorted("plan a b"))

    def test_an_end_told_anew(self):
        desk = desk_with(Jobs(["a"], []), 1, {"a": 0})
        self.assertEqual(desk.say("met"), "late 0 a")
        self.assertEqual(said(desk, "end a 1", "met"), "plan a")
        self.assertEqual(said(desk, "end a -" + SIXTY, "met"), f"late -{SIXTY} a")


class Answers(unittest.TestCase):
    def test_plan_and_paper_on_two_benches(self):
        desk = desk_with(DIAMOND)
        self.assertIn(desk.say("plan"), ("a / b c / d", "a / c b / d"))
        self.assertEqual(desk.say("paper")[:7], "blocks ")
        self.assertEqual(shown(DIAMOND, 2, ("blocks", read_plan(desk.say("paper")[7:]))), 3)
        desk = desk_with(CHAIN)
        self.assertEqual((desk.say("plan"), desk.say("paper")), ("a / b / c", "blocks a / b / c"))

    def test_plan_and_paper_on_other_benches(self):
        for benches in (1, 3, 4, MANY_BENCHES):
            desk = desk_with(CHAIN, benches)
            self.assertEqual(desk.say("plan"), "a / b / c")
            self.assertIn(desk.say("paper"), [f"{word} {k}" for word in ("behind", "ahead") for k in range(3)])
        self.assertEqual(desk_with(GATHERING, 3).say("paper"), "behind 1")
        self.assertEqual(desk_with(SPREADING, 3).say("paper"), "ahead 1")

    def test_met(self):
        self.assertEqual(desk_with(CHAIN, 2, {"a": 1, "b": 2, "c": 3}).say("met"), "plan a / b / c")
        self.assertEqual(desk_with(CHAIN, 2, {"a": 1, "b": 1, "c": 1}).say("met"), "late -1 a")
        self.assertEqual(desk_with(Jobs(["b", "a"], []), 1, {"a": 1, "b": 1}).say("met"), "late 1 b a")
        self.assertEqual(desk_with(NONE, 5).say("met"), "plan")

    def test_late(self):
        self.assertEqual(desk_with(CHAIN, 2, {"a": 1, "b": 2, "c": 3}).say("late")[:17], "0; a / b / c; 1; ")
        self.assertEqual(desk_with(Jobs(["a"], []), 1, {"a": 5}).say("late"), "-4; a; 5; a")
        self.assertEqual(desk_with(Jobs(["a"], []), 2, {"a": -5}).say("late"), "6; a; -5; a")
        told = desk_with(Jobs(["a"], []), 2, {"a": -HUGE}).say("late")
        self.assertEqual(told, f"1{'0' * 60}; a; -{HUGE}; a")

    def test_fewest_and_count(self):
        desk = desk_with(DIAMOND, 3)
        self.assertIn(desk.say("fewest"), ("a / b c / d", "a / c b / d"))
        self.assertEqual([desk.say(f"count {turns}") for turns in range(6)], ["0", "0", "0", "1", "6", "20"])
        desk = desk_with(Jobs(list("abcdefg"), []), MANY_BENCHES)
        self.assertEqual(desk.say("count 40"), str(40 ** 7))
        self.assertEqual(sorted(desk.say("fewest")), sorted("a b c d e f g"))

    def test_look_at_each_fault(self):
        desk = desk_with(DIAMOND)
        for text, answer in (
            ("a / b c / d", "right"), ("a / - / c b / - / d / -", "right"), ("", "missing a"), ("-", "missing a"),
            ("a", "missing b"), ("a / c / d", "early 3 d"), ("a / c / b", "missing d"), ("a / x", "stranger 2 x"),
            ("a b c d x", "stranger 1 x"), ("a a", "again 1 a"), ("a / b / c a", "again 3 a"), ("b", "early 1 b"),
            ("a / b d", "early 2 d"), ("a / b c / d / a", "again 4 a"),
        ):
            self.assertEqual(desk.say("look " + text), answer, text)
        self.assertEqual(said(desk, "benches 1", "look a / b c"), "wide 2 2")
        self.assertEqual(said(Desk(), "jobs a b c d", "look a b c"), "wide 1 3")
        self.assertEqual(said(Desk(), "jobs a b c d", "look - / - / a b c d"), "wide 3 4")

    def test_drawn_jobs_by_the_other_files(self):
        draw = random.Random(23)
        desk = Desk()
        for _ in range(150):
            benches = draw.choice([1, 2, 2, 3, 4, MANY_BENCHES])
            names, orders, ends = drawn_jobs_and_ends(draw, 12, benches)
            jobs = Jobs(names, orders)
            self.assertEqual(said(desk, f"benches {benches}", told_jobs(names, orders)), "ok")
            for name in draw.sample(names, len(names)):
                self.assertEqual(desk.say(f"end {name} {ends[name]}"), "ok")
            self.assert_plan_and_paper(desk, jobs, benches)
            self.assert_by_ends(desk, jobs, benches, ends)
            self.assert_few(desk, jobs, benches, draw.randint(0, 40))
            self.assert_looked(desk, jobs, benches, [draw.sample(names, min(len(names), 2)), [], names[:3]])

    def assert_plan_and_paper(self, desk, jobs, benches):
        if benches == 2:
            plan, blocks = two_plan(jobs)
            wanted = (plan_text(plan), "blocks" + " " * bool(blocks) + plan_text(blocks))
        else:
            try:
                plan, paper = wood_plan(jobs, benches)
            except NoWood:
                for row in ("plan", "paper"):
                    self.assertIs(type(refusal_of(desk, row)), NoWood)
                return
            wanted = (plan_text(plan), f"{paper[0]} {paper[1]}")
        self.assertEqual((desk.say("plan"), desk.say("paper")), wanted)

    def assert_by_ends(self, desk, jobs, benches, ends):
        told = met(jobs, benches, ends)
        if told[0] == "plan":
            self.assertEqual(desk.say("met"), f"plan {plan_text(told[1])}" if told[1] else "plan")
        else:
            self.assertEqual(desk.say("met"), f"late {told[1]} {' '.join(told[2])}")
        if not ends:
            self.assertIs(type(refusal_of(desk, "late")), NoJob)
            return
        late, plan, turn, row = least_late(jobs, benches, ends)
        self.assertEqual(desk.say("late"), f"{late}; {plan_text(plan)}; {turn}; {' '.join(row)}")

    def assert_few(self, desk, jobs, benches, turns):
        if len(jobs.names()) > 7:
            for row in ("fewest", f"count {turns}"):
                self.assertIs(type(refusal_of(desk, row)), TooMany)
            return
        self.assertEqual(desk.say("fewest"), plan_text(fewest(jobs, benches)))
        self.assertEqual(desk.say(f"count {turns}"), str(counted(jobs, benches, turns)))

    def assert_looked(self, desk, jobs, benches, plan):
        found = fault(jobs, benches, plan)
        wanted = "right" if found is None else " ".join(str(part) for part in found)
        self.assertEqual(desk.say("look " + plan_text(plan)), wanted)

    def test_every_answer_is_a_text(self):
        desk = desk_with(CHAIN, 2, {"a": 1, "b": 2, "c": 3})
        for row in WORDS + ["count 3", "look ", "jobs a", "benches 3", "end a 3"]:
            self.assertIs(type(desk.say(row)), str, row)

    def test_plans_that_are_told_are_looked_at_as_right(self):
        draw = random.Random(231)
        for _ in range(100):
            names, orders = drawn_case(draw, 7, [gathering_orders, spreading_orders])
            desk = desk_with(Jobs(names, orders), draw.randint(1, 4))
            for row in ("plan", "fewest"):
                self.assertEqual(said(desk, "look " + desk.say(row)), "right")
            self.assertEqual(len(read_plan(desk.say("plan"))), len(read_plan(desk.say("fewest"))))

    def test_the_same_said_again_is_answered_alike(self):
        draw = random.Random(232)
        for _ in range(40):
            names, orders, ends = drawn_jobs_and_ends(draw, 7, 2, 1)
            desk = desk_with(Jobs(names, orders), 2, ends)
            before = [desk.say(row) for row in WORDS]
            other = drawn_jobs_and_ends(draw, 7, 3, 1)
            desk_with(Jobs(other[0], other[1]), 3, other[2]).say("late")
            self.assertEqual([desk.say(row) for row in WORDS], before)
            self.assertEqual([desk_with(Jobs(names, orders), 2, ends).say(row) for row in WORDS], before)


class NoLines(unittest.TestCase):
    def assert_no_line(self, row):
        for desk in (Desk(), desk_with(CHAIN, 2, {"a": 1, "b": 2, "c": 3}), desk_with(Jobs(TWENTY, []), 3)):
            self.assertIs(type(refusal_of(desk, row)), NoLine, row)

    def test_no_text(self):
        for thing in NO_TEXTS + [["plan"], ("plan",), {"plan": "plan"}, b"plan", ["jobs", "a"]]:
            self.assert_no_line(thing)

    def test_no_such_word(self):
        for row in ["", " ", "  ", "a", "plans", "pla", "job", "bench", "ends", "counts", "looks", "papers", "blocks",
                    "behind", "right", "ok", "quit", "help", "plan;", "-", "1", "look/", "plan\n", "\nplan", "late\t",
                    "mets", "few", "fewests", "plan,paper"]:
            self.assert_no_line(row)
            self.assert_no_line(row + " a")
            self.assert_no_line(row + " 1")

    def test_a_word_too_many(self):
        for word in WORDS:
            for more in (" a", " 1", " plan", " -", " a b"):
                self.assert_no_line(word + more)
        for row in ("benches 2 2", "benches 2 a", "count 3 3", "count 3 a", "end a 1 1", "end a b 1", "end a 1 b",
                    "benches a 2", "benches benches 2"):
            self.assert_no_line(row)

    def test_a_word_lacking(self):
        for row in ("jobs", "benches", "end", "count", "look", "benches ", "count ", "end ", "end a", "end a ",
                    "end 1", "end  1", "end  "):
            self.assert_no_line(row)

    def test_a_blank_too_many_or_lacking(self):
        for word in WORDS:
            for row in (word + " ", " " + word, word + "  ", word[:2] + " " + word[2:], word + "\t"):
                self.assert_no_line(row)
        for row in ("benches 2", "count 3", "end a 1", "jobs a", "look a", "jobs ", "look "):
            self.assert_no_line(" " + row)
            self.assert_no_line(row.replace(" ", ""))
            self.assert_no_line(row.replace(" ", "\t"))
        for row in ("benches 2", "count 3", "end a 1"):
            self.assert_no_line(row + " ")
            self.assert_no_line(row.replace(" ", "  "))
        for row in ("end  a 1", "end a  1", "enda 1", "end a1", "jobsa b", "looka / b", "benches2", "count40"):
            self.assert_no_line(row)

    def test_another_case(self):
        for word in ALL_WORDS:
            for other in (word.upper(), word.capitalize(), word[:-1] + word[-1].upper()):
                for row in (other, other + " ", other + " 1", other + " a", other + " a 1"):
                    self.assert_no_line(row)

    def test_a_name_that_is_none(self):
        for name in NO_NAME_TEXTS + ["\u00e4", "a\n", "abcdefghi"]:
            for number in ("1", "0", "-1", SIXTY, "01", ""):
                self.assert_no_line(f"end {name} {number}")

    def test_a_number_that_is_not_written_so(self):
        for number in NO_WRITTEN_NUMBERS:
            for row in (f"benches {number}", f"count {number}", f"end a {number}", f"end x {number}"):
                self.assert_no_line(row)

    def test_numbers_that_are_written_so(self):
        for number in (0, 1, -1, 9, 10, -10, 100, 10 ** 59, -10 ** 59, HUGE, -HUGE):
            desk = desk_with(Jobs(["a"], []))
            self.assertEqual(desk.say(f"end a {number}"), "ok")
            self.assertEqual(desk.say("late"), f"{1 - number}; a; {number}; a")
            if number > 0:
                self.assertEqual(desk.say(f"benches {number}"), "ok")
            else:
                self.assertIs(type(refusal_of(desk, f"benches {number}")), NoBench)
            if 0 <= number <= 40:
                self.assertEqual(desk.say(f"count {number}"), str(number))
            else:
                self.assertIs(type(refusal_of(desk, f"count {number}")), NoTurns)


class RefusedAsTheStages(unittest.TestCase):
    def test_jobs(self):
        desk = desk_with(CHAIN)
        for text, kind in (
            (" a", NoText), ("a ", NoText), ("a  b", NoText), ("a; ", NoText), ("a;a < a", NoText), (" ", NoText),
            ("; a < b", NoText), ("a < b", NoText), ("A", NoText), ("abcdefghi", NoText), ("a, b", NoText),
            ("a b; a > b", NoText), ("a b; a < b;", NoText), ("a b; a<b", NoText), ("a b; a < b < c", NoText),
            ("1", NoText), ("-", NoText), ("a / b", NoText), ("a\n", NoText),
            (" ".join(TWENTY + ["z"]), TooMany), (" ".join(["a"] * 21), TooMany), ("a b a", Twice), ("a a", Twice),
            ("a b; a < c", Stranger), ("a; b < a", Stranger), ("a; a < a", Ring), ("a b; a < b; b < a", Ring),
        ):
            self.assertIs(type(refusal_of(desk, "jobs " + text)), kind, text)
        self.assertEqual(refusal_of(desk, "jobs a b c b c").name, "b")
        self.assertEqual(refusal_of(desk, "jobs a b; a < x; y < b").name, "x")
        self.assertEqual(refusal_of(desk, "jobs a b; b < b").ring, ["b"])

    def test_benches(self):
        for number in ("0", "-1", "-7", "-" + SIXTY):
            self.assertIs(type(refusal_of(Desk(), "benches " + number)), NoBench)

    def test_end(self):
        for desk in (Desk(), desk_with(CHAIN)):
            for name in ("x", "aa", "abcdefgh", "plan", "end"):
                self.assertIs(type(refusal_of(desk, f"end {name} 1")), Stranger)
                self.assertEqual(refusal_of(desk, f"end {name} 1").name, name)

    def test_plan_and_paper(self):
        for benches in (1, 3, 4, MANY_BENCHES):
            for row in ("plan", "paper"):
                self.assertIs(type(refusal_of(desk_with(DIAMOND, benches), row)), NoWood)

    def test_met_and_late(self):
        ends = {"a": 1, "b": 2, "c": 3, "d": 4}
        for row in ("met", "late"):
            for benches in (1, 2, 3, 4):
                for lacking in ends:
                    told = {name: end for name, end in ends.items() if name != lacking}
                    self.assertIs(type(refusal_of(desk_with(DIAMOND, benches, told), row)), NoEnd)
                self.assertIs(type(refusal_of(desk_with(DIAMOND, benches), row)), NoEnd)
            for benches in (3, MANY_BENCHES):
                self.assertIs(type(refusal_of(desk_with(DIAMOND, benches, ends), row)), NoWood)
                self.assertIs(type(refusal_of(desk_with(SPREADING, benches, {"a": 1, "b": 2, "c": 3}), row)), NoWood)
        for benches in (1, 2, 3, MANY_BENCHES):
            self.assertIs(type(refusal_of(desk_with(NONE, benches), "late")), NoJob)

    def test_fewest_and_count(self):
        for many in (8, 9, 20):
            desk = desk_with(Jobs(TWENTY[:many], []))
            for row in ("fewest", "count 0", "count 8", "count 40"):
                self.assertIs(type(refusal_of(desk, row)), TooMany)
            for row in ("count 41", "count -1", "count " + SIXTY):
                self.assertIs(type(refusal_of(desk, row)), NoTurns)
        for row in ("count 41", "count -1", "count 100", "count " + SIXTY, "count -" + SIXTY):
            self.assertIs(type(refusal_of(Desk(), row)), NoTurns)

    def test_look(self):
        for text in (" ", " a", "a ", "a  b", "a/b", "a / ", " / a", "/", "--", "- -", "a -", "A", "a; b", "abcdefghi",
                     "a /b", "a/ b", "1", "a\n", "a // b", "a /  / b"):
            for desk in (Desk(), desk_with(CHAIN)):
                self.assertIs(type(refusal_of(desk, "look " + text)), NoText, text)


class NothingChanges(unittest.TestCase):
    REFUSED = [None, 7, "", "plans", "plan ", "jobs", "jobs A", "jobs a a", "jobs x; x < x", "jobs x y; x < z",
               "jobs " + " ".join(TWENTY + ["z"]), "jobs b a; a < b; b < a", "benches", "benches 0", "benches -3",
               "benches 03", "benches " + "9" * 61, "end a 01", "end a", "end A 1", "end a 1 ", "end a " + "1" * 61,
               "end b -0", "end xxx 1", "count 41", "count -1", "count x", "look A", "look"]

    def test_what_is_refused_changes_nothing(self):
        ends = {"a": 2, "b": 3, "c": 4}
        for jobs, benches in itertools.product((LOOSE, CHAIN, GATHERING, NONE), (1, 2, 3)):
            desk = desk_with(jobs, benches, {name: ends[name] for name in jobs.names()})
            before = state(desk)
            for row in self.REFUSED:
                self.assertIsNotNone(refusal_of(desk, row), row)
                self.assertEqual(state(desk), before, row)
            self.assertEqual(state(desk_with(jobs, benches, {name: ends[name] for name in jobs.names()})), before)

    def test_asking_changes_nothing(self):
        desk = desk_with(CHAIN, 2, {"a": 1, "b": 2, "c": 3})
        before = state(desk)
        for row in WORDS + ["count 9", "look c b a", "look "]:
            desk.say(row)
            self.assertEqual(state(desk), before, row)

    def test_refused_rows_that_others_refuse_too(self):
        desk = desk_with(DIAMOND, 3)
        before = state(desk)
        for row in ("plan", "paper", "met", "late"):
            self.assertIsNotNone(refusal_of(desk, row))
            self.assertEqual(state(desk), before)

    def test_two_desks_have_nothing_in_common(self):
        one, other = Desk(), Desk()
        before = state(other)
        said(one, "jobs a b c; a < b", "benches 3", "end a 1", "end b 2", "end c 3")
        self.assertEqual(state(other), before)
        self.assertEqual(state(Desk()), before)
        held = state(one)
        said(other, "jobs a b c; b < a", "benches 1", "end a -1")
        self.assertEqual(state(one), held)
        self.assertIs(type(refusal_of(other, "met")), NoEnd)
        self.assertEqual(state(Desk()), before)

    def test_many_rows_in_any_sequence(self):
        """A desk is held against one that is told its last jobs, benches and ends alone."""
        draw = random.Random(233)
        for _ in range(30):
            desk, jobs, benches, ends = Desk(), NONE, 2, {}
            for _ in range(40):
                sort = draw.randint(0, 3)
                if sort == 0:
                    names, orders = drawn_case(draw, 6)
                    jobs, ends = Jobs(names, orders), {}
                    desk.say("jobs " + jobs_text(jobs))
                elif sort == 1:
                    benches = draw.randint(1, 4)
                    desk.say(f"benches {benches}")
                elif sort == 2 and jobs.names():
                    name = draw.choice(jobs.names())
                    ends[name] = draw.randint(-2, 7)
                    desk.say(f"end {name} {ends[name]}")
                else:
                    refusal_of(desk, draw.choice(self.REFUSED + WORDS))
            self.assertEqual(state(desk), state(desk_with(jobs, benches, ends)))


if __name__ == "__main__":
    unittest.main()
