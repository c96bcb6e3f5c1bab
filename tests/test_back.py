"""Point 5: back."""

import random
import unittest

from tests.helper import (
    MOST_COUNT, OUT, STAYS, TILTS, SlowBoard, ask, back, build, chain, counter, drop, many, some_board,
    state, tilt)

ALL_BACKS = [back(entry) for entry in range(4)]
PROBES = [drop(entry) for entry in range(4)] * 8


class BackTest(unittest.TestCase):
    def assert_back(self, gates, entries, expected):
        """The answers at the four entries."""
        self.assertEqual(ask(build(gates, entries), *ALL_BACKS), [[0]] + [[number] for number in expected])

    def test_no_gate_at_all(self):
        self.assert_back([], [64, 65, 70, 79], [0, 0, 0, 0])

    def test_an_entry_that_is_an_exit(self):
        self.assert_back([[TILTS, 0, 64, 65]], [64, 0, 79, 0], [0, 1, 0, 1])

    def test_gates_that_stay(self):
        for side in (0, 1):
            self.assert_back([[STAYS, side, 64, 65]], [0] * 4, [0] * 4)
            gates = [[STAYS, side, number + 1, number + 1] for number in range(63)] + [[STAYS, side, 64, 65]]
            self.assert_back(gates, [0, 1, 62, 63], [0] * 4)

    def test_one_gate_that_tilts(self):
        for side in (0, 1):
            self.assert_back([[TILTS, side, 64, 65]], [0] * 4, [1] * 4)
            self.assert_back([[TILTS, side, 70, 70]], [0] * 4, [1] * 4)

    def test_both_sides_the_same_place(self):
        for size in (2, 3, 63, 64):
            self.assert_back(chain(size), [0, 1, size - 2, size - 1], [1] * 4)

    def test_64_gates_that_halve_the_marbles(self):
        for side in (0, 1):
            gates = [[TILTS, side] + gate[2:] for gate in counter(64)]
            self.assert_back(gates, [0, 1, 62, 63], [64, 63, 2, 1])
            gates = [[TILTS, side, gate[3], gate[2]] for gate in counter(64)]
            self.assert_back(gates, [0, 30, 63, 64], [64, 34, 1, 0])

    def test_each_number_from_1_to_64(self):
        for size in range(1, 65):
            self.assert_back(counter(size), [0] * 4, [size] * 4)

    def test_a_gate_that_stays_hands_all_on_or_none(self):
        # The second gate sends all of its marbles out, or all of them on to the third.
        gates = [[TILTS, 0, 64, 1], [STAYS, 0, 64, 2], [TILTS, 0, 64, 3], [TILTS, 0, 64, 65]]
        self.assert_back(gates, [0, 1, 2, 3], [1, 0, 2, 1])
        gates[1][1] = 1
        self.assert_back(gates, [0, 1, 2, 3], [3, 2, 2, 1])

    def test_halves_that_come_together_again(self):
        # The second gate has one half, the third that half's half and the other half: three quarters.
        gates = [[TILTS, 0, 1, 2], [TILTS, 0, 2, 64], [TILTS, 0, 65, 66]]
        self.assert_back(gates, [0, 1, 2, 64], [3, 2, 1, 0])
        # Both halves come together whole at the last gate.
        gates = [[TILTS, 0, 1, 2], [TILTS, 0, 3, 3], [TILTS, 0, 3, 3], [TILTS, 0, 65, 66]]
        self.assert_back(gates, [0, 1, 2, 3], [2, 1, 1, 1])

    def test_64_gates_to_the_next_and_the_one_behind_it(self):
        gates = [[TILTS, number % 2, number + 1, number + 2] for number in range(62)]
        gates += [[TILTS, 0, 63, 64], [TILTS, 1, 64, 65]]
        self.assert_back(gates, [0, 1, 62, 63], [64, 63, 2, 1])

    def test_a_gate_that_none_comes_by(self):
        gates = [[TILTS, 0, 2, 2], [TILTS, 0, 2, 64], [TILTS, 0, 64, 65]]
        self.assert_back(gates, [0, 1, 2, 79], [1, 2, 1, 0])
        # The first gate leads past all the others.
        self.assert_back([[TILTS, 0, 64, 65]] + counter(64)[1:], [0, 1, 0, 1], [1, 63, 1, 63])

    def test_tilts_that_are_told_later(self):
        gates = [[STAYS, 0, 64, 1], [TILTS, 0, 64, 2], [TILTS, 0, 64, 65]]
        self.assertEqual(
            ask(build(gates), back(0), tilt(0, 1), back(0), tilt(1, 1), back(0), drop(0), back(0)),
            [[0], [0], [0], [2], [0], [2], [0], [2]])

    def test_behind_a_later_build(self):
        self.assertEqual(
            ask(build(counter(64)), back(0), build([]), back(0), build(chain(5)), back(0)),
            [[0], [64], [0], [0], [0], [1]])

    def test_nothing_is_let_go(self):
        source = random.Random(20)
        for _ in range(60):
            start = build(*some_board(source, [0, 0, 1], source.randrange(65)))
            plain = ask(start, state(), *PROBES)
            parts = ask(start, *ALL_BACKS, state(), *PROBES)
            self.assertEqual(parts[5:], plain[1:])
            parts = ask(start, *[call for probe in PROBES for call in (back(0), probe, back(3))])
            self.assertEqual(parts[2::3], plain[2:])

    def test_the_same_again(self):
        source = random.Random(21)
        for _ in range(30):
            start = build(*some_board(source, [0, 0, 1], source.randrange(65)))
            parts = ask(start, *ALL_BACKS, many(0, source.randrange(MOST_COUNT)), *ALL_BACKS)
            self.assertEqual(parts[1:5], parts[6:])

    def test_against_the_slow_board(self):
        source = random.Random(22)
        for _ in range(200):
            told = some_board(source, [0, 0, 0, 1], source.randrange(9))
            slow = SlowBoard(*told)
            self.assertEqual(
                ask(build(*told), *ALL_BACKS), [[0]] + [slow.back(entry) for entry in range(4)])

    def test_no_such_entry(self):
        for entry in (4, 5, 64, 4294967295):
            self.assertEqual(
                ask(build([[TILTS, 0, 64, 65]]), back(entry), state(), drop(0)), [[0], [-22], [1, 0], [0]])
            self.assertEqual(ask(build([]), back(entry)), [[0], [-22]])

    def test_geared(self):
        for kind in range(2, 10):
            for entry in range(4):
                self.assertEqual(
                    ask(build([[kind, 1, 64, 65]]), back(entry), state(), drop(0)),
                    [[0], [-33], [1, 1], [1]])

    def test_a_geared_gate_that_none_comes_by(self):
        for number in range(4):
            gates = [[TILTS, 0, 64, 65] for _ in range(4)]
            gates[number][0] = 2 + number
            self.assertEqual(ask(build(gates, OUT), back(0)), [[0], [-33]])
        gates = chain(64)
        gates[63][0] = 9
        self.assertEqual(ask(build(gates, OUT), back(0)), [[0], [-33]])

    def test_both_refusals_are_due(self):
        for entry in (4, 4294967295):
            self.assertEqual(
                ask(build([[2, 1, 64, 65]]), back(entry), state(), back(3)), [[0], [-22], [1, 1], [-33]])


if __name__ == "__main__":
    unittest.main()
