"""Points 2, 4 and 19: jobs with windows."""

import copy
import itertools
import random
import unittest

from levelbench.errors import NoBench, NoWindow, TooMany
from levelbench.windows import windowed
from samples import HUGE, MANY_BENCHES, NO_BENCHES, NO_KEYS, TWENTY, asked, drawn_names, refusal, same, scramble

NO_WINDOWS = [None, 0, 7, True, 2.5, "", "a", "12", [], [1, 2], [1], {}, {1: 2}, {1: 1, 2: 2}, (), (1,), (1, 2, 3),
              (True, 2), (1, True), (False, 2), (0, False), (None, 2), (1, None), (None, None), ("1", 2), (1, "2"),
              ("a", "b"), ([1], 2), (1, [2]), (1.0, 2), (1, 2.0), ((1, 2), 3), ((1, 2),), ([1, 2],)]


def can_be_done(benches, windows):
    """All ways to put the jobs into turns are gone through."""
    spans = [range(start, end + 1) for start, end in windows.values()]
    return any(max(map(chosen.count, chosen), default=0) <= benches for chosen in itertools.product(*spans))


def drawn_windows(draw, most, least=0):
    names = drawn_names(draw, draw.randint(least, most))
    wide, long = draw.choice([(3, 1), (6, 2), (6, 6), (12, 3), (25, 4), (2, 0)])
    windows = {}
    for name in names:
        start = draw.randint(-wide // 2, wide - wide // 2)
        windows[name] = (start, start + draw.randint(0, long))
    if names and draw.random() < 0.05:
        windows[names[0]] = (3, 3 - draw.randint(1, 4))
    return windows


class Refused(unittest.TestCase):
    def test_no_window_for_a_key(self):
        for key in NO_KEYS:
            for windows in ({key: (1, 2)}, {"a": (1, 1), key: (1, 2)}, {key: (1, 2), "a": (1, 1)}, {key: None}):
                for benches in (1, 2, MANY_BENCHES):
                    self.assertIs(type(refusal(windowed, benches, windows)), NoWindow, windows)

    def test_no_window_for_a_value(self):
        for thing in NO_WINDOWS:
            for windows in ({"a": thing}, {"b": (1, 1), "a": thing}, {"a": thing, "b": (1, 1)}, {"A": thing}):
                for benches in (1, 2, MANY_BENCHES):
                    self.assertIs(type(refusal(windowed, benches, windows)), NoWindow, windows)

    def test_no_window_where_there_would_be_a_crowd_as_well(self):
        self.assertIs(type(refusal(windowed, 1, {"a": (1, 1), "b": (1, 1), "c": None})), NoWindow)
        self.assertIs(type(refusal(windowed, 1, {"a": (2, 1), "b": (1, True)})), NoWindow)

    def test_too_many(self):
        twenty = {name: (1, 20) for name in TWENTY}
        self.assertIsNone(refusal(windowed, 1, twenty))
        self.assertIs(type(refusal(windowed, 1, {**twenty, "z": (1, 30)})), TooMany)
        self.assertIs(type(refusal(windowed, MANY_BENCHES, {**twenty, "z": (1, 30)})), TooMany)

    def test_too_many_comes_ahead_of_no_window(self):
        twenty = {name: (1, 20) for name in TWENTY}
        for key, thing in [("", (1, 2)), (7, (1, 2)), ("z", None), ("z", [1, 2]), (None, None), ("z", (2, 1))]:
            self.assertIs(type(refusal(windowed, 2, {key: thing, **twenty})), TooMany, (key, thing))
        self.assertIs(type(refusal(windowed, 2, {number: None for number in range(21)})), TooMany)
        self.assertIs(type(refusal(windowed, 2, {number: None for number in range(20)})), NoWindow)

    def test_benches_come_first(self):
        many = {number: None for number in range(30)}
        for benches in NO_BENCHES:
            for windows in ({}, {"a": (1, 2)}, {"a": (2, 1)}, {"a": None}, {"": (1, 2)}, many):
                self.assertIs(type(refusal(windowed, benches, windows)), NoBench, benches)


class Windowed(unittest.TestCase):
    def assert_told(self, benches, windows):
        """Whether a plan is told: it, or the crowd in its place, must be as the words say."""
        told = asked(windowed, benches, windows)
        self.assertIs(type(told), tuple)
        if told[0] == "plan":
            self.assert_plan(benches, windows, told)
            return True
        self.assertEqual((told[0], len(told)), ("crowd", 4))
        word, start, end, row = told
        self.assertEqual((type(start), type(end), type(row)), (int, int, list))
        self.assertEqual(len(set(row)), len(row))
        self.assertLessEqual(set(row), set(windows))
        for name in row:
            self.assertTrue(start <= windows[name][0] and windows[name][1] <= end, (windows, told))
        self.assertGreater(len(row), benches * max(end - start + 1, 0), (windows, told))
        return False

    def assert_plan(self, benches, windows, told):
        self.assertEqual((len(told), type(told[1])), (2, list))
        numbers = [number for number, row in told[1]]
        self.assertEqual(numbers, sorted(set(numbers)))
        for entry in told[1]:
            self.assertEqual([type(entry)] + [type(part) for part in entry], [tuple, int, list])
            number, row = entry
            self.assertTrue(1 <= len(row) <= benches, told)
            self.assertTrue(all(windows[name][0] <= number <= windows[name][1] for name in row), (windows, told))
        self.assertEqual(sorted(name for number, row in told[1] for name in row), sorted(windows))

    def test_no_windows(self):
        for benches in (1, 2, MANY_BENCHES):
            self.assertTrue(same(windowed(benches, {}), ("plan", [])))

    def test_one_window(self):
        for turn in (-HUGE, -1, 0, 1, 2, HUGE):
            self.assertEqual(windowed(1, {"a": (turn, turn)}), ("plan", [(turn, ["a"])]))
        self.assertTrue(self.assert_told(1, {"a": (-HUGE, HUGE)}))
        self.assertTrue(self.assert_told(MANY_BENCHES, {"a": (-HUGE, HUGE)}))

    def test_an_end_below_its_start(self):
        for window in ((2, 1), (0, -1), (9, 1), (HUGE, -HUGE), (-HUGE + 1, -HUGE)):
            for benches in (1, 3, MANY_BENCHES):
                self.assertFalse(self.assert_told(benches, {"a": window}))
                self.assertFalse(self.assert_told(benches, {"b": (1, 5), "a": window, "c": (-HUGE, HUGE)}))

    def test_gaps_are_leapt_over(self):
        windows = {"a": (-HUGE, -HUGE), "b": (0, 0), "c": (HUGE, HUGE)}
        for benches in (1, 2, MANY_BENCHES):
            self.assertEqual(windowed(benches, windows), ("plan", [(-HUGE, ["a"]), (0, ["b"]), (HUGE, ["c"])]))

    def test_the_soonest_end_goes_first(self):
        self.assertEqual(windowed(1, {"a": (1, 2), "b": (1, 1)}), ("plan", [(1, ["b"]), (2, ["a"])]))
        self.assertEqual(windowed(1, {"a": (1, 3), "b": (2, 2), "c": (1, 1)}),
                         ("plan", [(1, ["c"]), (2, ["b"]), (3, ["a"])]))

    def test_as_many_as_there_is_room_for_and_one_more(self):
        for benches, turns in itertools.product((1, 2, 3, 4, 6), (1, 2, 3)):
            for start in (-7, -1, 0, 5, 10 ** 59):
                window = (start, start + turns - 1)
                names = TWENTY[:benches * turns]
                self.assertTrue(self.assert_told(benches, {name: window for name in names}))
                self.assertFalse(self.assert_told(benches, {name: window for name in names + ["z"]}))

    def test_a_crowd_within_wider_windows(self):
        windows = {"a": (1, 9), "b": (3, 4), "c": (3, 4), "d": (4, 4), "e": (-5, 30)}
        self.assertFalse(self.assert_told(1, windows))
        self.assertTrue(self.assert_told(2, windows))

    def test_a_crowd_of_unlike_windows(self):
        windows = {"a": (1, 2), "b": (1, 3), "c": (2, 3), "d": (2, 2)}
        self.assertFalse(self.assert_told(1, windows))
        self.assertTrue(self.assert_told(2, windows))
        self.assertTrue(self.assert_told(1, {name: windows[name] for name in "abc"}))

    def test_all_windows_of_three_jobs_against_all_ways(self):
        spans = [(start, end) for start in (0, 1, 2) for end in (0, 1, 2)]
        for chosen in itertools.product(spans, repeat=3):
            windows = dict(zip("bca", chosen))
            for benches in (1, 2, 3):
                self.assertIs(self.assert_told(benches, windows), can_be_done(benches, windows), (benches, windows))

    def test_drawn_windows_against_all_ways(self):
        draw = random.Random(19)
        told = []
        for _ in range(400):
            windows, benches = drawn_windows(draw, 6, 2), draw.choice([1, 1, 2, 2, 3])
            told.append(can_be_done(benches, windows))
            self.assertIs(self.assert_told(benches, windows), told[-1], (benches, windows))
        self.assertGreater(min(told.count(True), told.count(False)), 60)

    def test_drawn_windows_up_to_twenty(self):
        draw = random.Random(191)
        told = []
        for _ in range(500):
            windows, benches = drawn_windows(draw, 20, 5), draw.choice([1, 1, 2, 2, 3, 4, 20, MANY_BENCHES])
            told.append(self.assert_told(benches, windows))
        self.assertGreater(min(told.count(True), told.count(False)), 100)

    def test_windows_round_a_plan_leave_room_for_it(self):
        draw = random.Random(1919)
        for _ in range(200):
            names, benches = drawn_names(draw, 20), draw.randint(1, 4)
            windows = {}
            for place, name in enumerate(names):
                turn = place // benches
                windows[name] = (turn - draw.randint(0, 3), turn + draw.randint(0, 3))
            self.assertTrue(self.assert_told(benches, windows))

    def test_all_windows_moved_by_one_number(self):
        draw = random.Random(1)
        for _ in range(100):
            windows, benches = drawn_windows(draw, 12), draw.randint(1, 3)
            wanted = self.assert_told(benches, windows)
            for moved in (1, -1, 50, -10 ** 59, 10 ** 59):
                other = {name: (start + moved, end + moved) for name, (start, end) in windows.items()}
                self.assertIs(self.assert_told(benches, other), wanted)

    def test_other_names_and_another_sequence(self):
        draw = random.Random(4)
        for _ in range(100):
            windows, benches = drawn_windows(draw, 12), draw.randint(1, 3)
            wanted = self.assert_told(benches, windows)
            spans = draw.sample(list(windows.values()), len(windows))
            self.assertIs(self.assert_told(benches, dict(zip(drawn_names(draw, len(spans)), spans))), wanted)

    def test_a_bench_more_takes_no_plan_away(self):
        draw = random.Random(44)
        for _ in range(100):
            windows = drawn_windows(draw, 12)
            told = [self.assert_told(benches, windows) for benches in (1, 2, 3, 4, 12, MANY_BENCHES)]
            self.assertEqual(told, sorted(told))

    def test_what_is_told_is_the_asker_s_own(self):
        draw = random.Random(2)
        for _ in range(60):
            windows, benches = drawn_windows(draw, 12), draw.randint(1, 3)
            told = windowed(benches, windows)
            before = repr(told)
            scramble(windowed(benches, windows))
            windowed(benches, drawn_windows(draw, 12))
            self.assertEqual(repr(windowed(benches, windows)), before)
            self.assertEqual(repr(windowed(benches, copy.deepcopy(windows))), before)
            windows.clear()
            self.assertEqual(repr(told), before)


if __name__ == "__main__":
    unittest.main()
