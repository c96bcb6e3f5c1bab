"""The interface: how calls and answers stand in their lists, and what answers leaves alone."""

import contextlib
import io
import random
import unittest

from marblegates.board import answers
from tests.helper import (
    MOST_COUNT, STAYS, TILTS, SlowBoard, build, drop, exits, listed, many, run, some_board, split)


class FrozenList(list):
    """A list that tells of any change, however short."""

    def refuse(self, *_):
        raise AssertionError("what is handed in is changed")

    __setitem__ = __delitem__ = __iadd__ = __imul__ = refuse
    append = clear = extend = insert = pop = remove = reverse = sort = refuse


def mixed_calls(source, length):
    """A build, then calls of all sorts, refused ones among them."""
    kinds = source.choice([[0, 1], [0, 1, 2, 9]])
    calls = [build(*some_board(source, kinds, source.randrange(65)))]
    while len(calls) < length:
        entry = source.choice([0, 1, 2, 3, 3, 4, 4294967295])
        calls.append(source.choice([
            drop(entry), many(entry, source.randrange(MOST_COUNT + 1)),
            run(entry, source.choice([0, 1, 20, 10001]))]))
    return calls


class AnswersTest(unittest.TestCase):
    def test_build_alone(self):
        self.assertEqual(answers(build([])), [1, 0])
        self.assertEqual(answers([0, 0, 4, 64, 64, 64, 64, 16] + [4] * 16), [1, 0])
        self.assertEqual(answers([0, 4, 0, 0, 64, 65, 4, 0, 0, 0, 0, 16] + [5] * 16), [1, -22])

    def test_how_the_answers_stand(self):
        calls = [build([[TILTS, 0, 64, 79]], None, [1] * 15 + [4]), drop(0), drop(4), many(0, 3), many(4, 3),
                 run(0, 9), run(0, 0), build([[10, 0, 64, 64]]), drop(3)]
        self.assertEqual(
            answers(listed(calls)),
            [1, 0, 1, 0, 1, -22, 17, 0] + exits({0: 1, 15: 2}) + [1, -22]
            + [18, 2] + exits({0: 1, 15: 1}) + [4] + [1, -22, 1, -22, 1, 0])

    def test_geared_refusal_stands_alone(self):
        self.assertEqual(
            answers(listed([build([[2, 0, 64, 65]]), many(0, 3), drop(0)])), [1, 0, 1, -33, 1, 0])

    def test_a_refused_build_is_gone_through_whole(self):
        # The numbers of its rows would be calls if they were not passed over.
        refused = build([[1, 0, 1, 0]] * 128, [1, 0, 1, 0], [4, 0] * 8)
        self.assertEqual(answers(listed([refused, build([]), drop(0)])), [1, -22, 1, 0, 1, 0])

    def test_answers_are_whole_numbers(self):
        source = random.Random(8)
        for _ in range(20):
            answered = answers(listed(mixed_calls(source, 60)))
            self.assertIs(type(answered), list)
            self.assertEqual({type(number) for number in answered}, {int})

    def test_what_is_handed_in_is_not_changed(self):
        source = random.Random(9)
        for _ in range(30):
            calls = listed(mixed_calls(source, 60))
            before = list(calls)
            answered = answers(calls)
            self.assertEqual(calls, before)
            self.assertEqual(answers(FrozenList(calls)), answered)

    def test_nothing_is_kept(self):
        source = random.Random(10)
        rows = [listed(mixed_calls(source, 40)) for _ in range(10)]
        first = [answers(calls) for calls in rows]
        self.assertEqual([answers(calls) for calls in rows], first)
        self.assertEqual([answers(calls) for calls in reversed(rows)], first[::-1])

    def test_what_is_given_back_is_a_list_of_its_own(self):
        calls = build([]) + many(0, 2)
        first = answers(calls)
        again = list(first)
        first.clear()
        self.assertEqual(answers(calls), again)

    def test_prints_nothing(self):
        printed = io.StringIO()
        with contextlib.redirect_stdout(printed), contextlib.redirect_stderr(printed):
            answers(listed(mixed_calls(random.Random(11), 50)))
        self.assertEqual(printed.getvalue(), "")

    def test_a_mix_against_the_slow_board(self):
        source = random.Random(12)
        for _ in range(30):
            calls = []
            expected = []
            for _ in range(4):
                told = some_board(source, [0, 1], source.randrange(65))
                slow = SlowBoard(*told)
                calls.append(build(*told))
                expected.append([0])
                for _ in range(10):
                    entry = source.randrange(4)
                    how_many = source.randrange(1, 40)
                    calls += [drop(entry), many(entry, how_many), run(entry, how_many)]
                    expected += [slow.drop(entry), slow.many(entry, how_many), slow.run(entry, how_many)]
            self.assertEqual(split(answers(listed(calls))), expected)


class LongListsTest(unittest.TestCase):
    def test_4000_drops(self):
        calls = [build([[TILTS, 0, 64, 65]])] + [drop(0)] * 3999
        self.assertEqual(answers(listed(calls)), [1, 0] + ([1, 0, 1, 1] * 2000)[:7998])

    def test_4000_calls_of_many_over_64_gates(self):
        gates = [[TILTS, 0, 64 + number % 16, number + 1] for number in range(63)] + [[TILTS, 0, 64, 79]]
        parts = split(answers(listed([build(gates)] + [many(0, MOST_COUNT)] * 3999)))
        self.assertEqual(len(parts), 4000)
        self.assertEqual({sum(part) for part in parts[1:]}, {MOST_COUNT})

    def test_4000_runs(self):
        calls = [build([[TILTS, 0, 64, 65]], None, [0] * 16)] + [run(0, 2)] * 3999
        self.assertEqual(
            split(answers(listed(calls))), [[0]] + [[2] + exits({0: 1, 1: 1}) + [0]] * 3999)

    def test_long_runs_over_64_gates(self):
        gates = [[TILTS, 0, number + 1, number + 1] for number in range(63)] + [[TILTS, 0, 64, 65]]
        calls = [build(gates, None, [0] * 16)] + [run(0, 10000)] * 20
        self.assertEqual(
            split(answers(listed(calls))), [[0]] + [[10000] + exits({0: 5000, 1: 5000}) + [0]] * 20)

    def test_16000_numbers(self):
        gates = [[TILTS, 0, number + 1, number + 1] for number in range(63)] + [[TILTS, 1, 64, 65]]
        calls = listed([build(gates)] * 57 + [drop(0)] * 20)
        self.assertEqual(len(calls), 16000)
        self.assertEqual(answers(calls), [1, 0] * 57 + [1, 1, 1, 0] * 10)

    def test_16000_numbers_of_builds_that_are_too_large(self):
        large = build([[STAYS, 0, 64, 64]] * 128)
        calls = listed([large] * 29 + [build([])] + [drop(3)] * 216)
        self.assertEqual(len(calls), 16000)
        self.assertEqual(answers(calls), [1, -22] * 29 + [1, 0] * 217)


if __name__ == "__main__":
    unittest.main()
