"""Point 3: many."""

import random
import unittest

from tests.helper import (
    MOST_COUNT, STAYS, TILTS, SlowBoard, ask, build, counted, drop, exits, many, some_board)

PROBES = [drop(entry) for entry in (0, 1, 2, 3)] * 8


class ManyTest(unittest.TestCase):
    def test_one_gate(self):
        start = build([[TILTS, 0, 66, 79]])
        self.assertEqual(
            ask(start, many(0, 5), many(0, 5), many(3, 2)),
            [[0], [0] + exits({2: 3, 15: 2}), [0] + exits({2: 2, 15: 3}), [0] + exits({2: 1, 15: 1})])

    def test_none(self):
        start = build([[TILTS, 0, 64, 65]])
        self.assertEqual(
            ask(start, many(0, 0), drop(0), many(0, 0), drop(0)),
            [[0], [0] + [0] * 16, [0], [0] + [0] * 16, [1]])

    def test_one(self):
        start = build([[TILTS, 0, 1, 65], [TILTS, 1, 66, 67]], [0, 1, 79, 64])
        self.assertEqual(
            ask(start, many(0, 1), drop(0), many(1, 1), many(2, 1), many(3, 1), drop(1)),
            [[0], [0] + exits({3: 1}), [1], [0] + exits({2: 1}),
             [0] + exits({15: 1}), [0] + exits({0: 1}), [3]])

    def test_a_gate_that_stays(self):
        for tilt in (0, 1):
            start = build([[STAYS, tilt, 64, 65]])
            self.assertEqual(
                ask(start, many(0, 7), drop(0), many(0, MOST_COUNT)),
                [[0], [0] + exits({tilt: 7}), [tilt], [0] + exits({tilt: MOST_COUNT})])

    def test_no_gate_at_all(self):
        start = build([], [64, 65, 66, 79])
        self.assertEqual(
            ask(start, many(0, 1), many(3, MOST_COUNT), many(1, 0)),
            [[0], [0] + exits({0: 1}), [0] + exits({15: MOST_COUNT}), [0] + [0] * 16])

    def test_most_marbles_over_one_gate(self):
        half = 9223372036854775808
        for tilt in (0, 1):
            self.assertEqual(
                ask(build([[TILTS, tilt, 64, 65]]), many(0, MOST_COUNT), drop(0), many(0, MOST_COUNT - 1)),
                [[0], [0] + exits({tilt: half, 1 - tilt: half - 1}), [1 - tilt],
                 [0] + exits({0: half - 1, 1: half - 1})])

    def test_most_marbles_again_and_again(self):
        parts = ask(build([[TILTS, 0, 64, 65]]), *[many(0, MOST_COUNT)] * 5)
        self.assertEqual([sum(part) for part in parts[1:]], [MOST_COUNT] * 5)
        self.assertEqual([part[1] - part[2] for part in parts[1:]], [1, -1, 1, -1, 1])

    def test_most_marbles_over_64_gates_that_count(self):
        # Gate k hands every other marble on to gate k + 1, so the last one hands none on.
        gates = [[TILTS, 0, 64 + number % 15, number + 1] for number in range(63)] + [[TILTS, 0, 67, 79]]
        expected = [0] * 16
        for number in range(64):
            expected[number % 15] += 2 ** (63 - number)
        self.assertEqual(expected[15], 0)
        self.assertEqual(
            ask(build(gates), many(0, MOST_COUNT), drop(0), drop(0)), [[0], [0] + expected, [15], [0]])

    def test_most_marbles_over_64_gates_one_behind_another(self):
        gates = [[TILTS, 0, number + 1, number + 1] for number in range(63)] + [[TILTS, 1, 64, 65]]
        half = 9223372036854775808
        self.assertEqual(
            ask(build(gates, [0, 63, 0, 0]), many(0, MOST_COUNT), drop(1), drop(0)),
            [[0], [0] + exits({1: half, 0: half - 1}), [0], [1]])

    def test_most_marbles_are_whole_rounds_and_the_rest(self):
        source = random.Random(3)
        for _ in range(20):
            gates, entries, levers = some_board(source, [0, 0, 1], 7)
            slow = SlowBoard(gates, entries, levers)
            whole = slow.many(0, 128)
            rest = slow.many(0, MOST_COUNT % 128)
            expected = [MOST_COUNT // 128 * a + b for a, b in zip(whole, rest)]
            after = [slow.drop(call[1]) for call in PROBES]
            self.assertEqual(
                ask(build(gates, entries, levers), many(0, MOST_COUNT), *PROBES), [[0], expected] + after)

    def test_both_sides_the_same_place(self):
        gates = [[TILTS, 0, 1, 1], [TILTS, 0, 70, 70]]
        self.assertEqual(ask(build(gates), many(0, 9)), [[0], [0] + exits({6: 9})])

    def test_a_gate_that_none_comes_by(self):
        gates = [[TILTS, 0, 2, 2], [TILTS, 0, 64, 65], [TILTS, 0, 66, 67]]
        self.assertEqual(
            ask(build(gates, [0, 1, 2, 2]), many(0, 3), drop(1), drop(2)),
            [[0], [0] + exits({2: 2, 3: 1}), [0], [3]])

    def test_the_same_as_so_many_drops(self):
        source = random.Random(4)
        for _ in range(120):
            gates, entries, levers = some_board(source, [0, 0, 0, 1], source.randrange(65))
            start = build(gates, entries, levers)
            entry = source.randrange(4)
            count = source.randrange(70)
            one_by_one = ask(start, *[drop(entry)] * count, *PROBES)
            at_once = ask(start, many(entry, count), *PROBES)
            self.assertEqual(at_once[1], [0] + counted(one_by_one[1:1 + count]))
            self.assertEqual(at_once[2:], one_by_one[1 + count:])

    def test_against_the_slow_board(self):
        source = random.Random(5)
        for _ in range(60):
            gates, entries, levers = some_board(source, [0, 0, 1], source.randrange(65))
            orders = [(source.randrange(4), source.randrange(200)) for _ in range(6)]
            slow = SlowBoard(gates, entries, levers)
            self.assertEqual(
                ask(build(gates, entries, levers), *[many(*order) for order in orders]),
                [[0]] + [slow.many(*order) for order in orders])

    def test_no_marble_is_lost(self):
        source = random.Random(6)
        for _ in range(60):
            gates, entries, levers = some_board(source, [0, 1], 64)
            count = source.randrange(MOST_COUNT + 1)
            part = ask(build(gates, entries, levers), many(source.randrange(4), count))[1]
            self.assertEqual((len(part), part[0], sum(part)), (17, 0, count))

    def test_no_such_entry(self):
        for entry in (4, 5, 64, 4294967295):
            for count in (0, 1, MOST_COUNT):
                self.assertEqual(
                    ask(build([[TILTS, 0, 64, 65]]), many(entry, count), drop(0)), [[0], [-22], [0]])

    def test_geared(self):
        for kind in range(2, 10):
            for count in (0, 1, 2, MOST_COUNT):
                self.assertEqual(
                    ask(build([[kind, 0, 64, 65]]), many(0, count), drop(0)), [[0], [-33], [0]])

    def test_a_geared_gate_that_none_comes_by(self):
        for number in range(4):
            gates = [[TILTS, 0, 64, 65] for _ in range(4)]
            gates[number][0] = 2 + number
            self.assertEqual(ask(build(gates, [79] * 4), many(0, 3)), [[0], [-33]])

    def test_no_such_entry_where_a_gate_is_geared(self):
        for entry in (4, 4294967295):
            self.assertEqual(ask(build([[2, 0, 64, 65]]), many(entry, 1), drop(0)), [[0], [-22], [0]])


if __name__ == "__main__":
    unittest.main()
