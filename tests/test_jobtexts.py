"""Point 7: jobs as a text, there and back."""

import itertools
import unittest

from levelbench.errors import NoText, Ring, Stranger, TooMany, Twice
from levelbench.jobs import Jobs
from levelbench.jobtexts import jobs_text, read_jobs
from samples import NO_NAME_TEXTS, NO_TEXTS, TWENTY, all_ringless, refusal

UNWRITTEN = [
    # Blanks at the ends.
    " ", "  ", " a", "a ", " a b", "a b ", " a b; a < b", "a b; a < b ",
    # Blanks too many or lacking within.
    "a  b", "a b;  a < b", "a b ; a < b", "a b;a < b", "a b; a  < b", "a b; a <  b", "a b; a< b", "a b; a <b",
    "a b; a<b", "a b c; a < b;b < c", "a b c; a < b;  b < c", "a b c; a < b ; b < c", "a b; ab", "a b; a b <",
    # Semicolons too many or lacking, also at the ends.
    ";", "; ", "a;", "a; ", "a b;", "a b; ", "; a", ";a", "a b; a < b;", "a b; a < b; ", "a b;; a < b",
    "a b; ; a < b", "a b c; a < b;; b < c", "a b c; a < b; ; b < c", "a b a < b", "a b c; a < b b < c", "a; b",
    "a b; a b", "a b; a", "a b; b; a < b", "a, b", "a b, a < b",
    # Signs < too many or lacking.
    "<", "a <", "< a", "a < b", "a b <", "a b; <", "a b; a <", "a b; < b", "a b; a < ", "a b; a < < b",
    "a b; a << b", "a b c; a < b < c", "a b; a < b <", "a b; < a < b", "a b; a > b", "a b; a = b", "a b; a - b",
    # Orders without names.
    "; a < b", ";a < b", " ; a < b", "; a < a", "a < b; a < b",
    # Turned brackets and other written forms.
    "[]", "['a']", "a/b", "a / b", "-", "\"a\"",
]


def same_jobs(one, other):
    return one.names() == other.names() and one.orders() == other.orders()


class Written(unittest.TestCase):
    def test_the_text(self):
        cases = [
            ([], [], ""),
            (["a"], [], "a"),
            (["b", "a"], [], "b a"),
            (["a", "b", "c"], [("b", "c"), ("a", "b")], "a b c; a < b; b < c"),
            (["c", "b", "a"], [("a", "c"), ("a", "b"), ("a", "c")], "c b a; a < b; a < c"),
            (["abcdefgh", "z"], [("z", "abcdefgh")], "abcdefgh z; z < abcdefgh"),
        ]
        for names, orders, text in cases:
            self.assertEqual(jobs_text(Jobs(names, orders)), text)

    def test_all_orders_of_three_there_and_back(self):
        names = ["c", "aa", "b"]
        for orders in all_ringless(names):
            jobs = Jobs(names, orders)
            self.assertTrue(same_jobs(read_jobs(jobs_text(jobs)), jobs))

    def test_twenty_there_and_back(self):
        jobs = Jobs(TWENTY, list(itertools.combinations(TWENTY, 2)))
        self.assertTrue(same_jobs(read_jobs(jobs_text(jobs)), jobs))


class Read(unittest.TestCase):
    def test_no_signs_are_no_jobs(self):
        jobs = read_jobs("")
        self.assertIs(type(jobs), Jobs)
        self.assertEqual((jobs.names(), jobs.orders()), ([], []))

    def test_names_alone(self):
        self.assertTrue(same_jobs(read_jobs("c a b"), Jobs(["c", "a", "b"], [])))
        self.assertTrue(same_jobs(read_jobs("abcdefgh"), Jobs(["abcdefgh"], [])))

    def test_orders_in_any_sequence(self):
        for chosen in itertools.permutations(["a < b", "b < c", "a < c", "a < d"]):
            jobs = read_jobs("; ".join(("d c b a",) + chosen))
            self.assertEqual(jobs.names(), ["d", "c", "b", "a"])
            self.assertEqual(jobs.orders(), [("a", "b"), ("a", "c"), ("a", "d"), ("b", "c")])

    def test_orders_more_than_once(self):
        jobs = read_jobs("a b c; b < c; a < b; b < c; b < c; a < b")
        self.assertEqual(jobs_text(jobs), "a b c; a < b; b < c")

    def test_what_is_not_written_so(self):
        for text in UNWRITTEN:
            self.assertIs(type(refusal(read_jobs, text)), NoText, text)

    def test_words_that_are_no_names(self):
        for word in NO_NAME_TEXTS:
            if word == "a b" or word == "":
                continue
            for text in (word, f"a {word}", f"{word} a", f"a {word} b", f"a; a < {word}", f"a; {word} < a",
                         f"a b; a < b; {word} < a", f"{word}; a < a"):
                self.assertIs(type(refusal(read_jobs, text)), NoText, text)

    def test_things_that_are_no_text(self):
        for thing in NO_TEXTS + [Jobs(["a"], []), ["a b"], ("a", "b")]:
            self.assertIs(type(refusal(read_jobs, thing)), NoText, thing)

    def test_then_the_refusals_of_jobs(self):
        found = refusal(read_jobs, "a b c b a; a < b")
        self.assertIs(type(found), Twice)
        self.assertEqual(found.name, "b")
        found = refusal(read_jobs, "a b; a < b; b < z; y < a")
        self.assertIs(type(found), Stranger)
        self.assertEqual(found.name, "z")
        found = refusal(read_jobs, "a b; b < b; a < b")
        self.assertIs(type(found), Ring)
        self.assertEqual(found.ring, ["b"])
        self.assertEqual(sorted(refusal(read_jobs, "a b; b < a; a < b").ring), ["a", "b"])
        self.assertEqual(read_jobs(" ".join(TWENTY)).names(), TWENTY)
        self.assertIs(type(refusal(read_jobs, " ".join(TWENTY + ["z"]))), TooMany)

    def test_their_order(self):
        cases = [
            (" ".join(TWENTY + ["aa"]) + "; aa < zz", TooMany),
            ("a a; a < a; a < z", Twice),
            ("a; a < a; a < z", Stranger),
        ]
        for text, kind in cases:
            self.assertIs(type(refusal(read_jobs, text)), kind, text)

    def test_no_text_comes_ahead_of_them(self):
        for text in [" ".join(TWENTY + ["z", "Z"]), " ".join(TWENTY + ["z"]) + " ", " ".join(TWENTY + ["z"]) + "; a",
                     "a a; ", "a a B", "a a; a<a", "a; a < z; a", "a; z < a; a < B", "a; a < a;", "a; a < a; a < 1"]:
            self.assertIs(type(refusal(read_jobs, text)), NoText, text)


class Kept(unittest.TestCase):
    def test_writing_leaves_the_jobs(self):
        jobs = Jobs(["b", "a"], [("a", "b")])
        jobs_text(jobs)
        self.assertEqual((jobs.names(), jobs.orders()), (["b", "a"], [("a", "b")]))
        self.assertEqual(jobs_text(jobs), jobs_text(jobs))

    def test_each_reading_is_the_asker_s_own(self):
        jobs = read_jobs("b a; a < b")
        jobs.names().clear()
        jobs.orders().clear()
        self.assertEqual(jobs_text(jobs), "b a; a < b")
        self.assertEqual(jobs_text(read_jobs("b a; a < b")), "b a; a < b")


if __name__ == "__main__":
    unittest.main()
