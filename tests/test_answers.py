"""The interface: how calls and answers stand in their lists, and what answers leaves alone."""

import contextlib
import io
import random
import unittest

from marblegates.board import answers
from tests.helper import (
    MOST_COUNT, STAYS, TILTS, SlowBoard, back, build, chain, counter, drop, exits, listed, many, run,
    some_board, split, state, tilt)


class FrozenList(list):
    """A list that tells of any change, however short."""

    def refuse(self, *_):
        raise AssertionError("what is handed in is changed")

    __setitem__ = __delitem__ = __iadd__ = __imul__ = refuse
    append = clear = extend = insert = pop = remove = reverse = sort = refuse


def mixed_calls(source, length):
    """A build, then calls of all seven sorts, each at least once, refused ones among them."""
    kinds = source.choice([[0, 1], [0, 1, 2, 9]])

    def one(sort):
        entry = source.choice([0, 1, 2, 3, 3, 4, 4294967295])
        return [
            build(*some_board(source, source.choice([kinds, [10]]), source.randrange(66))),
            drop(entry), many(entry, source.randrange(MOST_COUNT + 1)),
            run(entry, source.choice([0, 1, 20, 10001])), back(entry),
            tilt(source.choice([0, 1, 2, 30, 63, 64, 4294967295]), source.choice([0, 1, 1, 2, 4294967295])),
            state()][sort]

    first = build(*some_board(source, kinds, source.randrange(65)))
    sorts = list(range(7)) + source.choices(range(7), [1, 4, 4, 4, 4, 4, 4], k=length - 8)
    source.shuffle(sorts)
    return [first] + [one(sort) for sort in sorts]


class LongTest(unittest.TestCase):
    def setUp(self):
        # What unittest itself says of two long lists that differ takes it many minutes to find.
        self.addTypeEqualityFunc(list, self.assert_same_list)

    def assert_same_list(self, first, second, msg=None):
        self.assertEqual(len(first), len(second), msg)
        for at, (one, other) in enumerate(zip(first, second)):
            if one != other:
                self.fail(f"at {at}: {one} != {other}")


class AnswersTest(LongTest):
    def test_build_alone(self):
        self.assertEqual(answers(build([])), [1, 0])
        self.assertEqual(answers([0, 0, 4, 64, 64, 64, 64, 16] + [4] * 16), [1, 0])
        self.assertEqual(answers([0, 4, 0, 0, 64, 65, 4, 0, 0, 0, 0, 16] + [5] * 16), [1, -22])

    def test_how_the_answers_stand(self):
        calls = [build([[TILTS, 0, 64, 79]], None, [1] * 15 + [4]), drop(0), drop(4), many(0, 3), many(4, 3),
                 run(0, 9), run(0, 0), build([[10, 0, 64, 64]]), drop(3),
                 state(), back(0), back(4), tilt(0, 0), tilt(0, 1), tilt(1, 0), state(), drop(2)]
        self.assertEqual(
            answers(listed(calls)),
            [1, 0, 1, 0, 1, -22, 17, 0] + exits({0: 1, 15: 2}) + [1, -22]
            + [18, 2] + exits({0: 1, 15: 1}) + [4] + [1, -22, 1, -22, 1, 0]
            + [2, 1, 1, 1, 1, 1, -22, 1, 1, 1, 0, 1, -22, 2, 1, 1, 1, 15])

    def test_geared_refusal_stands_alone(self):
        self.assertEqual(
            answers(listed([build([[2, 0, 64, 65]]), many(0, 3), back(0), drop(0)])),
            [1, 0, 1, -33, 1, -33, 1, 0])

    def test_a_refused_build_is_gone_through_whole(self):
        # The numbers of its rows would be calls if they were not passed over.
        refused = build([[1, 0, 1, 0]] * 128, [1, 0, 1, 0], [4, 0] * 8)
        self.assertEqual(answers(listed([refused, build([]), drop(0)])), [1, -22, 1, 0, 1, 0])

    def test_answers_are_whole_numbers(self):
        source = random.Random(8)
        for _ in range(20):
            answered = answers(listed(mixed_calls(source, 60)))
            self.assertIs(type(answered), list)
            self.assertEqual({type(number) for number in answered}, {int})

    def test_what_is_handed_in_is_not_changed(self):
        source = random.Random(9)
        for _ in range(30):
            calls = listed(mixed_calls(source, 60))
            before = list(calls)
            answered = answers(calls)
            self.assertEqual(calls, before)
            self.assertEqual(answers(FrozenList(calls)), answered)

    def test_nothing_is_kept(self):
        source = random.Random(10)
        rows = [listed(mixed_calls(source, 40)) for _ in range(10)]
        first = [answers(calls) for calls in rows]
        self.assertEqual([answers(calls) for calls in rows], first)
        self.assertEqual([answers(calls) for calls in reversed(rows)], first[::-1])

    def test_what_is_given_back_is_a_list_of_its_own(self):
        calls = build([]) + many(0, 2)
        first = answers(calls)
        again = list(first)
        first.clear()
        self.assertEqual(answers(calls), again)

    def test_prints_nothing(self):
        printed = io.StringIO()
        with contextlib.redirect_stdout(printed), contextlib.redirect_stderr(printed):
            answers(listed(mixed_calls(random.Random(11), 50)))
        self.assertEqual(printed.getvalue(), "")

    def test_a_mix_against_the_slow_board(self):
        source = random.Random(12)
        for _ in range(30):
            calls = []
            expected = []
            for _ in range(4):
                told = some_board(source, source.choice([[0, 1], [0, 1, 2, 3]]), source.randrange(1, 8))
                slow = SlowBoard(*told)
                calls.append(build(*told))
                expected.append([0])
                for _ in range(10):
                    entry = source.randrange(4)
                    how_many = source.randrange(1, 40)
                    gate = source.randrange(len(told[0]))
                    side = source.randrange(2)
                    calls += [drop(entry), many(entry, how_many), run(entry, how_many),
                              back(entry), tilt(gate, side), state()]
                    expected += [slow.drop(entry), slow.many(entry, how_many), slow.run(entry, how_many),
                                 slow.back(entry), slow.tilt(gate, side), slow.state()]
            self.assertEqual(split(answers(listed(calls))), expected)


class LongListsTest(LongTest):
    def test_4000_drops(self):
        calls = [build([[TILTS, 0, 64, 65]])] + [drop(0)] * 3999
        self.assertEqual(answers(listed(calls)), [1, 0] + ([1, 0, 1, 1] * 2000)[:7998])

    def test_4000_calls_of_many_over_64_gates(self):
        gates = [[TILTS, 0, 64 + number % 16, number + 1] for number in range(63)] + [[TILTS, 0, 64, 79]]
        parts = split(answers(listed([build(gates)] + [many(0, MOST_COUNT)] * 3999)))
        self.assertEqual(len(parts), 4000)
        self.assertEqual({sum(part) for part in parts[1:]}, {MOST_COUNT})

    def test_4000_runs(self):
        calls = [build([[TILTS, 0, 64, 65]], None, [0] * 16)] + [run(0, 2)] * 3999
        self.assertEqual(
            split(answers(listed(calls))), [[0]] + [[2] + exits({0: 1, 1: 1}) + [0]] * 3999)

    def test_long_runs_over_64_gates(self):
        gates = [[TILTS, 0, number + 1, number + 1] for number in range(63)] + [[TILTS, 0, 64, 65]]
        calls = [build(gates, None, [0] * 16)] + [run(0, 10000)] * 20
        self.assertEqual(
            split(answers(listed(calls))), [[0]] + [[10000] + exits({0: 5000, 1: 5000}) + [0]] * 20)

    def test_4000_calls_of_back_over_64_gates(self):
        self.assertEqual(answers(listed([build(counter(64))] + [back(0)] * 3999)), [1, 0] + [1, 64] * 3999)

    def test_4000_calls_of_tilt(self):
        order = [tilt(number, 1) for number in range(64)] + [tilt(number, 0) for number in range(64)]
        calls = [build(chain(64))] + (order * 32)[:3998] + [state()]
        self.assertEqual(
            answers(listed(calls)),
            [1, 0] + (([1, 0] * 64 + [1, 1] * 64) * 32)[:7996] + [2, 64, 2 ** 30 - 1])

    def test_4000_calls_of_state(self):
        calls = [build(chain(64)), drop(0)] + [state()] * 3998
        self.assertEqual(answers(listed(calls)), [1, 0, 1, 0] + [2, 64, 2 ** 64 - 1] * 3998)

    def test_4000_calls_in_16000_numbers_with_all_seven(self):
        gates = counter(3)
        calls = []
        expected = []
        for _ in range(200):
            slow = SlowBoard(gates, [0] * 4, [4] * 16)
            calls += [build(gates), drop(0), many(0, 5), run(0, 9), back(0), tilt(1, 0), state()]
            expected += [[0], slow.drop(0), slow.many(0, 5), slow.run(0, 9), slow.back(0), slow.tilt(1, 0),
                         slow.state()]
        for _ in range(100):
            for number in range(9):
                calls += [drop(0), tilt(number % 3, number % 2)]
                expected += [slow.drop(0), slow.tilt(number % 3, number % 2)]
            calls += [state()] + [drop(1)] * 7
            expected += [slow.state()] + [slow.drop(1) for _ in range(7)]
        self.assertEqual((len(calls), len(listed(calls))), (4000, 16000))
        self.assertEqual(split(answers(listed(calls))), expected)

    def test_long_mixes_are_the_same_again(self):
        source = random.Random(13)
        for _ in range(4):
            calls = mixed_calls(source, 500)
            while len(listed(calls)) > 16000:
                calls.pop()
            calls = listed(calls)
            before = list(calls)
            self.assertEqual(answers(calls), answers(FrozenList(calls)))
            self.assertEqual(calls, before)

    def test_16000_numbers(self):
        gates = [[TILTS, 0, number + 1, number + 1] for number in range(63)] + [[TILTS, 1, 64, 65]]
        calls = listed([build(gates)] * 57 + [drop(0)] * 20)
        self.assertEqual(len(calls), 16000)
        self.assertEqual(answers(calls), [1, 0] * 57 + [1, 1, 1, 0] * 10)

    def test_16000_numbers_of_builds_that_are_too_large(self):
        large = build([[STAYS, 0, 64, 64]] * 128)
        calls = listed([large] * 29 + [build([])] + [drop(3)] * 216)
        self.assertEqual(len(calls), 16000)
        self.assertEqual(answers(calls), [1, -22] * 29 + [1, 0] * 217)


if __name__ == "__main__":
    unittest.main()
