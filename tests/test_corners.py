"""The corners that the document lists, each with all calls."""

import unittest

from tests.helper import (
    MOST_COUNT, STAYS, TILTS, ask, back, build, chain, counter, drop, exits, many, run, state, tilt)


class CornersTest(unittest.TestCase):
    def test_no_gate_at_all(self):
        self.assertEqual(
            ask(build([], [64, 65, 78, 79], [1] + [4] * 15), drop(0), drop(3), many(2, MOST_COUNT), run(0, 9),
                back(0), tilt(0, 0), state()),
            [[0], [0], [15], [0] + exits({14: MOST_COUNT}), [2] + exits({0: 1, 1: 1}) + [4],
             [0], [-22], [0, 0]])

    def test_an_entry_that_is_an_exit(self):
        self.assertEqual(
            ask(build(chain(2), [70, 0, 1, 79]), drop(0), many(3, 6), run(0, 6), back(0), back(3), state(),
                drop(1), state()),
            [[0], [6], [0] + exits({15: 6}), [1] + exits({6: 1}) + [4], [0], [0], [2, 0], [0], [2, 3]])

    def test_both_sides_of_a_gate_the_same_place(self):
        gates = [[TILTS, 0, 1, 1], [TILTS, 1, 71, 71]]
        self.assertEqual(
            ask(build(gates), drop(0), state(), many(0, 4), state(), run(0, 3), state(), back(0), tilt(0, 0),
                drop(0), state()),
            [[0], [7], [2, 1], [0] + exits({7: 4}), [2, 1], [1] + exits({7: 1}) + [4], [2, 2], [1], [0],
             [7], [2, 1]])

    def test_a_marble_over_two_gates_of_one_set(self):
        gates = [[4, 0, 1, 66], [4, 0, 64, 65]]
        self.assertEqual(
            ask(build(gates), drop(0), state(), run(0, 4), many(0, 1), back(0), tilt(0, 1), state(), drop(0),
                state()),
            [[0], [1], [2, 0], [1] + exits({1: 1}) + [4], [-33], [-33], [0], [2, 1], [2], [2, 2]])

    def test_most_marbles(self):
        self.assertEqual(
            ask(build(counter(64)), many(0, MOST_COUNT), state(), drop(0), state(), back(0)),
            [[0], [0] + exits({0: MOST_COUNT}), [64, MOST_COUNT], [1], [64, 0], [64]])

    def test_a_gate_that_none_comes_by(self):
        gates = [[TILTS, 0, 2, 2], [TILTS, 1, 2, 64], [STAYS, 0, 65, 66]]
        self.assertEqual(
            ask(build(gates), drop(0), many(0, 3), run(0, 2), back(0), state(), tilt(1, 0), state(), back(0)),
            [[0], [1], [0] + exits({1: 3}), [1] + exits({1: 1}) + [4], [1], [3, 3], [1], [3, 1], [1]])

    def test_64_gates_one_behind_another(self):
        self.assertEqual(
            ask(build(chain(64), None, [0] * 16), drop(0), state(), many(0, 3), state(), run(0, 10000), state(),
                back(0), tilt(63, 1), state(), drop(0), state()),
            [[0], [0], [64, MOST_COUNT], [0] + exits({0: 1, 1: 2}), [64, 0],
             [10000] + exits({0: 5000, 1: 5000}) + [0], [64, 0], [1], [0], [64, 2 ** 63], [1],
             [64, 2 ** 63 - 1]])

    def test_most_1(self):
        for lever in range(5):
            self.assertEqual(
                ask(build([[TILTS, 0, 64, 65]], None, [lever] * 16), run(0, 1), state(), run(1, 1), state()),
                [[0], [1] + exits({0: 1}) + [lever], [1, 1], [1] + exits({1: 1}) + [lever], [1, 0]])

    def test_a_run_that_is_never_done(self):
        self.assertEqual(
            ask(build(counter(2), None, [0] * 16), run(0, 10000), state(), run(0, 9999), state(), back(0)),
            [[0], [10000] + exits({0: 7500, 1: 2500}) + [0], [2, 0],
             [9999] + exits({0: 7500, 1: 2499}) + [0], [2, 3], [2]])


if __name__ == "__main__":
    unittest.main()
