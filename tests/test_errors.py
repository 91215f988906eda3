"""The interface, levelbench/errors.py."""

import unittest

from levelbench import errors

WITH_NAME = ["NoName", "Twice", "Stranger"]
OF_A_TEXT = ["TooMany", "NoBench", "NoText", "NoRow", "NoWood", "NoEnd", "NoJob", "NoWindow", "NoLength",
             "NoPaper", "NoTurns", "NoLine"]
ALL = WITH_NAME + ["Ring"] + OF_A_TEXT


class Errors(unittest.TestCase):
    def test_there_are_sixteen(self):
        self.assertEqual(len(set(ALL)), 16)
        for word in ALL:
            self.assertTrue(hasattr(errors, word), word)

    def test_bench_error_is_a_value_error(self):
        self.assertEqual(errors.BenchError.__bases__, (ValueError,))

    def test_each_is_straight_under_bench_error(self):
        for word in ALL:
            self.assertEqual(getattr(errors, word).__bases__, (errors.BenchError,), word)

    def test_none_is_under_another(self):
        for one in ALL:
            for other in ALL:
                under = issubclass(getattr(errors, one), getattr(errors, other))
                self.assertEqual(under, one == other, (one, other))

    def test_name_is_a_field(self):
        for word in WITH_NAME:
            for thing in ["a", "", "A b", None, 7, True, (), ("a", 1), [], ["a"], {"a": [1]}]:
                self.assertEqual(getattr(errors, word)(thing).name, thing)

    def test_ring_is_a_field(self):
        self.assertEqual(errors.Ring(["a", "b"]).ring, ["a", "b"])
        self.assertEqual(errors.Ring(["a"]).ring, ["a"])

    def test_the_others_are_made_of_a_text(self):
        for word in OF_A_TEXT:
            made = getattr(errors, word)("some words")
            self.assertEqual(str(made), "some words")

    def test_each_can_be_raised_and_taken_as_bench_error(self):
        for word in ALL:
            with self.assertRaises(errors.BenchError):
                raise getattr(errors, word)(["a"] if word == "Ring" else "a")


if __name__ == "__main__":
    unittest.main()
