"""Points 2 and 9: plans as a text, there and back."""

import copy
import itertools
import random
import unittest

from levelbench.errors import NoText
from levelbench.plantexts import plan_text, read_plan
from samples import NO_NAME_TEXTS, NO_TEXTS, TWENTY, drawn_names, refusal, same, scramble

WRITTEN = [
    ([], ""),
    ([[]], "-"),
    ([["a"]], "a"),
    ([["b", "a"]], "b a"),
    ([["a"], ["b"]], "a / b"),
    ([["c", "a"], ["b"], ["abcdefgh", "z"]], "c a / b / abcdefgh z"),
    ([[], ["a"]], "- / a"),
    ([["a"], []], "a / -"),
    ([["a"], [], ["b"]], "a / - / b"),
    ([[], []], "- / -"),
    ([[], [], ["b", "a"], [], [], ["c"], []], "- / - / b a / - / - / c / -"),
    ([["a", "a"], ["a"]], "a a / a"),
    ([TWENTY], " ".join(TWENTY)),
]
UNWRITTEN = [
    # Blanks at the ends.
    " ", "  ", " a", "a ", " -", "- ", " a / b", "a / b ", " - / a", "a / - ",
    # Blanks too many or lacking within.
    "a  b", "a  / b", "a /  b", "a  /  b", "a/ b", "a /b", "a/b", "a/-", "-/a", "-/-", "- /-", "-/ -", "-  / a",
    "a /  -", "a b/c", "a b /c", "a   b", "a b  c",
    # Signs / too many or lacking, also at the ends.
    "/", " /", "/ ", " / ", "a /", "a / ", "/ a", " / a", "a / / b", "a /  / b", "a // b", "a / b /", "a / b / ",
    "/ a / b", " / a / b", "a / / / b", "- / / -", "- /", "- / ", "/ -", " / -", "a \\ b", "a | b", "//", " / / ",
    # Signs - beside a name, or twice.
    "a -", "- a", "a - b", "-a", "a-", "--", "- -", "- - / a", "a / - -", "a / -- / b", "a / - b", "a / b -",
    "a - / b", "-- / a", "_", "a / _", "- - -",
    # Other written forms.
    "a;", "a; b", "a < b", "a, b", "[]", "[['a']]", "a.", "0", "None", "a / 1",
]


class Written(unittest.TestCase):
    def test_the_text(self):
        for plan, text in WRITTEN:
            kept = copy.deepcopy(plan)
            self.assertEqual(plan_text(plan), text)
            self.assertIs(type(plan_text(plan)), str)
            self.assertEqual(plan, kept)


class Read(unittest.TestCase):
    def test_the_plan(self):
        for plan, text in WRITTEN:
            self.assertTrue(same(read_plan(text), plan), text)

    def test_there_and_back(self):
        turns = [[], ["a"], ["b", "a"], ["abcdefgh"]]
        for many in range(5):
            for chosen in itertools.product(turns, repeat=many):
                plan = [list(row) for row in chosen]
                self.assertTrue(same(read_plan(plan_text(plan)), plan), plan)

    def test_drawn_plans_there_and_back(self):
        draw = random.Random(9)
        for _ in range(200):
            plan = [drawn_names(draw, draw.randint(0, 4)) for _ in range(draw.randint(0, 12))]
            self.assertTrue(same(read_plan(plan_text(plan)), plan), plan)

    def test_sixty_names_in_a_turn_and_two_hundred_turns(self):
        for plan in ([["abcdefgh"] * 60], [["abcdefgh"]] * 200, [[]] * 200):
            self.assertEqual(read_plan(plan_text(plan)), plan)

    def test_what_is_not_written_so(self):
        for text in UNWRITTEN:
            self.assertIs(type(refusal(read_plan, text)), NoText, text)

    def test_each_text_of_a_few_signs(self):
        wanted = {plan_text(plan) for many in range(4)
                  for plan in itertools.product([[], ["a"], ["aa"], ["a", "a"], ["aaa"]], repeat=many)}
        for many in range(6):
            for signs in itertools.product("a -/", repeat=many):
                text = "".join(signs)
                if text in wanted:
                    self.assertEqual(plan_text(read_plan(text)), text)
                elif refusal(read_plan, text) is None:
                    # Longer names and turns than the wanted ones have: still nothing but names.
                    self.assertRegex(text, "^a+( a+)*$")
                else:
                    self.assertIs(type(refusal(read_plan, text)), NoText, text)

    def test_words_that_are_no_names(self):
        for word in NO_NAME_TEXTS:
            if word in ("", "a b", "/"):
                continue
            for text in (word, f"a {word}", f"{word} a", f"a {word} b", f"a / {word}", f"{word} / a",
                         f"a / b {word}", f"- / {word}", f"a / {word} / -"):
                self.assertIs(type(refusal(read_plan, text)), NoText, text)

    def test_things_that_are_no_text(self):
        for thing in NO_TEXTS + [[["a"]], [[]], ("a / b",)]:
            self.assertIs(type(refusal(read_plan, thing)), NoText, thing)

    def test_what_is_read_is_the_asker_s_own(self):
        for plan, text in WRITTEN:
            scramble(read_plan(text))
            self.assertEqual(read_plan(text), plan)
        told = read_plan("- / - / a / a")
        told[0].append("x")
        told[2].append("y")
        self.assertEqual(told, [["x"], [], ["a", "y"], ["a"]])
        self.assertEqual(read_plan("-"), [[]])


if __name__ == "__main__":
    unittest.main()
