"""Point 8: what holds of all calls together."""

import random
import unittest

from tests.helper import (
    MOST_COUNT, ask, back, build, chain, counted, counter, drop, exits, many, run, some_board, state)


def boards(seed, kinds, how_many, sizes):
    """Some builds, with a random source that goes on behind each."""
    source = random.Random(seed)
    for _ in range(how_many):
        yield source, build(*some_board(source, kinds, source.choice(sizes)))


def so_many(entry, count):
    """The calls of many that let so many go, also where they are more than one call allows."""
    calls = []
    while count > MOST_COUNT:
        calls.append(many(entry, MOST_COUNT))
        count -= MOST_COUNT
    return calls + [many(entry, count)]


class ManyAtOnceTest(unittest.TestCase):
    def assert_same_as_drops(self, start, entry, count):
        one_by_one = ask(start, *[drop(entry)] * count, state())
        at_once = ask(start, many(entry, count), state())
        self.assertEqual(at_once[1], [0] + counted(one_by_one[1:1 + count]))
        self.assertEqual(at_once[2], one_by_one[1 + count])

    def test_the_same_as_one_after_another(self):
        for source, start in boards(50, [0, 0, 0, 1], 150, range(65)):
            self.assert_same_as_drops(start, source.randrange(4), source.randrange(80))

    def test_the_same_where_gates_are_one_behind_another(self):
        for count in (0, 1, 2, 3, 64, 129):
            self.assert_same_as_drops(build(chain(64)), 0, count)
            self.assert_same_as_drops(build(counter(64)), 0, count)

    def test_the_same_in_two_parts(self):
        for source, start in boards(51, [0, 0, 0, 1], 60, range(65)):
            entry = source.randrange(4)
            first = source.randrange(2 ** 63)
            second = source.randrange(2 ** 63)
            parts = ask(start, many(entry, first), many(entry, second), state())
            whole = ask(start, many(entry, first + second), state())
            self.assertEqual([a + b for a, b in zip(parts[1], parts[2])], whole[1])
            self.assertEqual(parts[3], whole[2])


class WhichFallsFirstTest(unittest.TestCase):
    def test_two_marbles_in_either_order(self):
        for source, start in boards(52, [0, 0, 0, 1], 100, range(65)):
            before = [drop(source.randrange(4)) for _ in range(source.randrange(20))]
            for one in range(4):
                for other in range(4):
                    first = ask(start, *before, drop(one), drop(other), state())[1 + len(before):]
                    second = ask(start, *before, drop(other), drop(one), state())[1 + len(before):]
                    self.assertEqual(sorted(first[:2]), sorted(second[:2]))
                    self.assertEqual(first[2], second[2])

    def test_two_heaps_of_marbles_in_either_order(self):
        for source, start in boards(53, [0, 0, 0, 1], 60, range(65)):
            one = many(0, source.randrange(MOST_COUNT + 1))
            other = many(source.randrange(4), source.randrange(MOST_COUNT + 1))
            first = ask(start, one, other, state())
            second = ask(start, other, one, state())
            self.assertEqual([a + b for a, b in zip(first[1], first[2])],
                             [a + b for a, b in zip(second[1], second[2])])
            self.assertEqual(first[3], second[3])

    def test_where_a_gate_is_geared_it_matters(self):
        start = build([[2, 0, 1, 1], [2, 0, 64, 65], [2, 0, 66, 67]], [0, 2, 0, 0])
        self.assertEqual(ask(start, drop(0), drop(1)), [[0], [1], [2]])
        self.assertEqual(ask(start, drop(1), drop(0)), [[0], [2], [0]])


class NoMarbleIsLostTest(unittest.TestCase):
    def test_many(self):
        for source, start in boards(54, [0, 0, 1], 100, range(65)):
            for count in (0, 1, 2, source.randrange(1000), source.randrange(MOST_COUNT), MOST_COUNT):
                part = ask(start, many(source.randrange(4), count))[1]
                self.assertEqual((part[0], len(part), sum(part[1:])), (0, 17, count))

    def test_run(self):
        for source, start in boards(55, list(range(10)), 100, range(65)):
            for most in (1, 2, source.randrange(1, 300)):
                part = ask(start, run(source.randrange(4), most))[1]
                self.assertEqual(len(part), 18)
                self.assertEqual(sum(part[1:17]), part[0])
                self.assertTrue(part[0] == most or part[17] == 4)
                self.assertTrue(1 <= part[0] <= most)

    def test_drop(self):
        for source, start in boards(56, list(range(10)), 60, range(65)):
            for part in ask(start, *[drop(source.randrange(4)) for _ in range(20)])[1:]:
                self.assertEqual(len(part), 1)
                self.assertIn(part[0], range(16))


class BackAgainTest(unittest.TestCase):
    def test_as_it_was_and_behind_no_fewer(self):
        for _, start in boards(57, [0, 0, 0, 1], 80, range(8)):
            for entry in range(4):
                doublings, before = ask(start, back(entry), state())[1:]
                whole = 2 ** doublings[0]
                states = ask(start, *[call for _ in range(whole) for call in (drop(entry), state())])[2::2]
                self.assertEqual(states.index(before), whole - 1)

    def test_as_it_was_over_many_gates(self):
        some = list(boards(58, [0, 0, 0, 0, 0, 1], 80, [20, 40, 63, 64]))
        for source, start in some + [(random.Random(59), build(counter(64)))]:
            for entry in range(4):
                doublings, before = ask(start, back(entry), state())[1:]
                whole = 2 ** doublings[0]
                self.assertEqual(ask(start, *so_many(entry, whole), state())[-1], before)
                self.assertEqual(ask(start, *so_many(entry, whole), *so_many(entry, whole), state())[-1], before)
                fewer = [2 ** less for less in range(doublings[0])]
                if whole > 1:
                    fewer += [whole - 1] + [source.randrange(1, whole) for _ in range(6)]
                for count in fewer:
                    self.assertNotEqual(ask(start, *so_many(entry, count), state())[-1], before)

    def test_the_same_exits_each_time_round(self):
        for _, start in boards(60, [0, 0, 0, 1], 40, range(65)):
            whole = 2 ** ask(start, back(0))[1][0]
            if whole <= MOST_COUNT:
                parts = ask(start, many(0, whole), many(0, whole))
                self.assertEqual(parts[1], parts[2])

    def test_as_great_as_it_can_be(self):
        start = build(counter(64))
        half = 2 ** 63
        self.assertEqual(
            ask(start, back(0), many(0, half), state(), many(0, half), state()),
            [[0], [64], [0] + exits({0: half}), [64, half], [0] + exits({0: half - 1, 1: 1}), [64, 0]])


if __name__ == "__main__":
    unittest.main()
