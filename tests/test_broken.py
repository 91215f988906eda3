"""Points 2, 4 and 20: jobs of any lengths that may be broken off."""

import copy
import itertools
import random
import unittest

from levelbench.broken import broken
from levelbench.errors import NoBench, NoLength, TooMany
from samples import (HUGE, MANY_BENCHES, NO_BENCHES, NO_KEYS, NO_NUMBERS, TWENTY, asked, drawn_names, refusal, same,
                     scramble)

NO_LENGTHS = NO_NUMBERS + [-1, -2, -HUGE, "0", (0,), [0], {0: 0}]


def turns_gone_through(benches, lengths):
    """The fewest turns of all: what may be left behind each turn is gone through."""
    left, turns = {tuple(lengths.values())}, 0
    while not any(max(lasting, default=0) == 0 for lasting in left):
        left = {later for lasting in left for later in one_turn_on(benches, lasting)}
        turns += 1
    return turns


def one_turn_on(benches, lasting):
    open_ones = [place for place, length in enumerate(lasting) if length > 0]
    for many in range(min(benches, len(open_ones)) + 1):
        for chosen in itertools.combinations(open_ones, many):
            yield tuple(length - (place in chosen) for place, length in enumerate(lasting))


def drawn_lengths(draw, most, least=0):
    names = drawn_names(draw, draw.randint(least, most))
    longest = draw.choice([0, 1, 2, 5, 9, 100, 10 ** 9, HUGE])
    lengths = {name: draw.randint(0, longest) for name in names}
    if names and draw.random() < 0.3:
        lengths[draw.choice(names)] = longest * draw.choice([1, 3]) if longest < HUGE else longest
    return lengths


class Refused(unittest.TestCase):
    def test_no_length_for_a_key(self):
        for key in NO_KEYS:
            for lengths in ({key: 1}, {key: 0}, {"a": 1, key: 2}, {key: 2, "a": 1}, {key: None}):
                for benches in (1, 2, MANY_BENCHES):
                    self.assertIs(type(refusal(broken, benches, lengths)), NoLength, lengths)

    def test_no_length_for_a_value(self):
        for thing in NO_LENGTHS:
            for lengths in ({"a": thing}, {"b": 1, "a": thing}, {"a": thing, "b": 0}, {"A": thing}):
                for benches in (1, 2, MANY_BENCHES):
                    self.assertIs(type(refusal(broken, benches, lengths)), NoLength, lengths)

    def test_too_many(self):
        for length in (0, 1, 7, HUGE):
            twenty = {name: length for name in TWENTY}
            self.assertIsNone(refusal(broken, 1, twenty))
            for benches in (1, 2, 21, MANY_BENCHES):
                self.assertIs(type(refusal(broken, benches, {**twenty, "z": length})), TooMany)

    def test_too_many_comes_ahead_of_no_length(self):
        twenty = {name: 1 for name in TWENTY}
        for key, thing in [("", 1), (7, 1), ("z", None), ("z", -1), (None, None), ("z", True)]:
            self.assertIs(type(refusal(broken, 2, {key: thing, **twenty})), TooMany, (key, thing))
        self.assertIs(type(refusal(broken, 2, {number: None for number in range(21)})), TooMany)
        self.assertIs(type(refusal(broken, 2, {number: None for number in range(20)})), NoLength)

    def test_benches_come_first(self):
        many = {number: None for number in range(30)}
        for benches in NO_BENCHES:
            for lengths in ({}, {"a": 1}, {"a": 0}, {"a": -1}, {"a": None}, {"": 1}, many):
                self.assertIs(type(refusal(broken, benches, lengths)), NoBench, benches)


class Broken(unittest.TestCase):
    def assert_told(self, benches, lengths):
        """How many turns: the pieces and the paper must be as the words say."""
        told = asked(broken, benches, lengths)
        self.assertEqual([type(told)] + [type(part) for part in told], [tuple, int, list, tuple])
        turns, pieces, paper = told
        self.assert_pieces(benches, lengths, turns, pieces)
        if sum(lengths.values()) == 0:
            self.assertTrue(same(told, (0, [], ("all",))), told)
        elif paper == ("all",):
            self.assertGreater(sum(lengths.values()), benches * (turns - 1), (lengths, told))
        else:
            self.assertEqual((paper[0], len(paper)), ("long", 2))
            self.assertEqual(lengths[paper[1]], turns, (lengths, told))
        self.assertEqual(turns, max([-(-sum(lengths.values()) // benches)] + list(lengths.values())))
        return turns

    def assert_pieces(self, benches, lengths, turns, pieces):
        for piece in pieces:
            self.assertEqual([type(piece)] + [type(part) for part in piece], [tuple, int, str, int, int])
            bench, name, first, last = piece
            self.assertTrue(0 <= bench < benches and 1 <= first <= last <= turns, (benches, turns, piece))
            self.assertIn(name, lengths)
        for bench in {piece[0] for piece in pieces}:
            self.assert_apart([piece for piece in pieces if piece[0] == bench])
        for name, length in lengths.items():
            own = [piece for piece in pieces if piece[1] == name]
            self.assertLessEqual(len(own), 2, pieces)
            self.assertEqual(sum(last - first + 1 for bench, name, first, last in own), length, (name, pieces))
            self.assert_apart(own)

    def assert_apart(self, pieces):
        for one, other in itertools.combinations(pieces, 2):
            self.assertTrue(one[3] < other[2] or other[3] < one[2], (one, other))

    def test_no_lengths_and_lengths_of_nought(self):
        for benches in (1, 2, 20, MANY_BENCHES):
            for names in ([], ["a"], ["b", "a"], TWENTY):
                self.assertTrue(same(broken(benches, {name: 0 for name in names}), (0, [], ("all",))))

    def test_one_job(self):
        for length in (1, 2, 7, 10 ** 30, HUGE):
            for benches in (1, 2, 5, MANY_BENCHES):
                self.assertEqual(self.assert_told(benches, {"a": length}), length)
        self.assertEqual(broken(2, {"a": 2})[2], ("long", "a"))

    def test_nought_beside_others(self):
        lengths = {"a": 0, "b": 3, "c": 0, "d": 4, "e": 0}
        for benches, turns in ((1, 7), (2, 4), (3, 4), (MANY_BENCHES, 4)):
            self.assertEqual(self.assert_told(benches, lengths), turns)
            self.assertEqual({piece[1] for piece in broken(benches, lengths)[1]}, {"b", "d"})

    def test_three_on_two_benches_must_be_broken_off(self):
        self.assertEqual(self.assert_told(2, {"a": 2, "b": 2, "c": 2}), 3)
        self.assertEqual(broken(2, {"a": 2, "b": 2, "c": 2})[2], ("all",))

    def test_one_long_job(self):
        lengths = {"a": 1, "b": 9, "c": 2, "d": 3}
        for benches, turns in ((1, 15), (2, 9), (3, 9), (4, 9), (5, 9)):
            self.assertEqual(self.assert_told(benches, lengths), turns)
        self.assertEqual(broken(2, lengths)[2], ("long", "b"))
        self.assertEqual(broken(1, lengths)[2], ("all",))

    def test_just_full_and_one_over(self):
        for benches, turns in itertools.product((1, 2, 3, 5), (1, 2, 7, 10 ** 40)):
            full = {name: turns for name in TWENTY[:benches]}
            self.assertEqual(self.assert_told(benches, full), turns)
            self.assertEqual(self.assert_told(benches, {**full, "z": 1}), turns + 1)
            self.assertEqual(self.assert_told(benches, {"z": benches if turns >= benches else 1, **full}), turns + 1)

    def test_as_many_benches_as_jobs_and_more(self):
        draw = random.Random(5)
        for many in range(1, 21):
            lengths = {name: draw.randint(0, 50) for name in TWENTY[:many]}
            for benches in (many, many + 1, 21, MANY_BENCHES):
                self.assertEqual(self.assert_told(benches, lengths), max(lengths.values()))

    def test_one_bench(self):
        draw = random.Random(6)
        for _ in range(50):
            lengths = drawn_lengths(draw, 20)
            self.assertEqual(self.assert_told(1, lengths), sum(lengths.values()))

    def test_lengths_of_sixty_figures(self):
        for benches in (1, 2, 3, 7, 19, 20, 21, 10 ** 30, MANY_BENCHES):
            for many in (1, 2, 3, 19, 20):
                lengths = {name: HUGE - place for place, name in enumerate(TWENTY[:many])}
                self.assert_told(benches, lengths)
                self.assertLessEqual(len(broken(benches, lengths)[1]), 2 * many)
                self.assert_told(benches, {**lengths, TWENTY[0]: 1})
                self.assert_told(benches, {name: 1 for name in TWENTY[1:many]} | {"z": HUGE})

    def test_few_lengths_against_all_ways(self):
        for many in range(5):
            for chosen in itertools.product(range(4), repeat=many):
                lengths = dict(zip("cabd", chosen))
                for benches in (1, 2, 3):
                    wanted = turns_gone_through(benches, lengths)
                    self.assertEqual(self.assert_told(benches, lengths), wanted, (benches, lengths))

    def test_drawn_lengths_up_to_twenty(self):
        draw = random.Random(20)
        words = []
        for _ in range(600):
            lengths, benches = drawn_lengths(draw, 20), draw.choice([1, 2, 2, 3, 3, 4, 5, 9, 20, MANY_BENCHES])
            self.assert_told(benches, lengths)
            words.append(broken(benches, lengths)[2][0])
        self.assertGreater(min(words.count("all"), words.count("long")), 100)

    def test_other_names_and_another_sequence(self):
        draw = random.Random(4)
        for _ in range(100):
            lengths, benches = drawn_lengths(draw, 12), draw.randint(1, 4)
            wanted = self.assert_told(benches, lengths)
            chosen = draw.sample(list(lengths.values()), len(lengths))
            self.assertEqual(self.assert_told(benches, dict(zip(drawn_names(draw, len(chosen)), chosen))), wanted)

    def test_a_bench_more_never_takes_more_turns(self):
        draw = random.Random(44)
        for _ in range(100):
            lengths = drawn_lengths(draw, 12)
            told = [self.assert_told(benches, lengths) for benches in (1, 2, 3, 4, 12, MANY_BENCHES)]
            self.assertEqual(told, sorted(told, reverse=True))

    def test_what_is_told_is_the_asker_s_own(self):
        draw = random.Random(2)
        for _ in range(60):
            lengths, benches = drawn_lengths(draw, 12), draw.randint(1, 3)
            told = broken(benches, lengths)
            before = repr(told)
            scramble(broken(benches, lengths))
            broken(benches, drawn_lengths(draw, 12))
            self.assertEqual(repr(broken(benches, lengths)), before)
            self.assertEqual(repr(broken(benches, copy.deepcopy(lengths))), before)
            lengths.clear()
            self.assertEqual(repr(told), before)

    def test_nothing_told_is_kept_for_the_next_asker(self):
        scramble(broken(1, {}))
        scramble(broken(3, {"a": 0}))
        self.assertTrue(same(broken(2, {}), (0, [], ("all",))))


if __name__ == "__main__":
    unittest.main()
