"""Point 6: tilt."""

import random
import unittest

from tests.helper import (
    STAYS, TILTS, SlowBoard, ask, build, chain, drop, exits, many, run, some_board, state, tilt)


class TiltTest(unittest.TestCase):
    def test_each_side(self):
        for side in (0, 1):
            self.assertEqual(
                ask(build([[TILTS, side, 66, 67]]), tilt(0, 1), drop(0), tilt(0, 0), drop(0)),
                [[0], [side], [3], [0], [2]])

    def test_what_it_was_before_is_answered(self):
        for side in (0, 1):
            self.assertEqual(
                ask(build([[TILTS, side, 66, 67]]), tilt(0, 0), tilt(0, 1), tilt(0, 0), tilt(0, 1)),
                [[0], [side], [0], [1], [0]])

    def test_told_again_as_it_stands(self):
        for side in (0, 1):
            self.assertEqual(
                ask(build([[TILTS, side, 66, 67]]), tilt(0, side), state(), tilt(0, side), state(), drop(0)),
                [[0], [side], [1, side], [side], [1, side], [2 + side]])

    def test_what_marbles_have_tilted(self):
        self.assertEqual(
            ask(build([[TILTS, 0, 66, 67]]), drop(0), tilt(0, 0), drop(0), tilt(0, 1), many(0, 3), tilt(0, 0)),
            [[0], [2], [1], [2], [1], [0] + exits({2: 1, 3: 2}), [0]])

    def test_that_gate_alone(self):
        for kind in range(10):
            for number in range(5):
                gates = [[kind, 0, 64, 65] for _ in range(5)]
                self.assertEqual(
                    ask(build(gates), tilt(number, 1), state(), tilt(number, 1), state(), tilt(number, 0), state()),
                    [[0], [0], [5, 2 ** number], [1], [5, 2 ** number], [1], [5, 0]])
                gates = [[kind, 1, 64, 65] for _ in range(5)]
                self.assertEqual(
                    ask(build(gates), tilt(number, 0), state(), tilt(number, 0), state(), tilt(number, 1), state()),
                    [[0], [1], [5, 31 - 2 ** number], [0], [5, 31 - 2 ** number], [0], [5, 31]])

    def test_a_geared_gate_goes_on_in_its_set(self):
        gates = [[2, 0, 64, 65], [2, 0, 66, 67], [3, 0, 68, 69]]
        self.assertEqual(
            ask(build(gates, [0, 1, 2, 2]), tilt(1, 1), state(), drop(0), state(), drop(1), state()),
            [[0], [0], [3, 2], [0], [3, 1], [2], [3, 2]])

    def test_a_gate_that_stays_so(self):
        self.assertEqual(
            ask(build([[STAYS, 0, 64, 65]]), tilt(0, 1), drop(0), drop(0), many(0, 3), tilt(0, 0), drop(0)),
            [[0], [0], [1], [1], [0] + exits({1: 3}), [1], [0]])

    def test_a_gate_that_none_comes_by(self):
        gates = [[TILTS, 0, 2, 2], [TILTS, 0, 64, 65], [TILTS, 0, 66, 67]]
        self.assertEqual(
            ask(build(gates), tilt(1, 1), drop(0), many(0, 4), state()),
            [[0], [0], [2], [0] + exits({2: 2, 3: 2}), [3, 7]])

    def test_each_of_64_gates(self):
        for number in range(64):
            self.assertEqual(
                ask(build(chain(64)), tilt(number, 1), state(), tilt(number, 0), state()),
                [[0], [0], [64, 2 ** number], [1], [64, 0]])

    def test_a_run_goes_by_it(self):
        start = build([[TILTS, 0, 64, 65]], None, [0] + [4] * 15)
        self.assertEqual(
            ask(start, tilt(0, 1), run(0, 9), run(0, 9)),
            [[0], [0], [1] + exits({1: 1}) + [4], [2] + exits({0: 1, 1: 1}) + [4]])

    def test_no_such_gate(self):
        for size in (1, 2, 63, 64):
            start = build([[TILTS, number % 2, 64, 65] for number in range(size)])
            before = ask(start, state())[1]
            for number in (size, size + 1, 64, 79, 255, 4294967295):
                for side in (0, 1):
                    self.assertEqual(ask(start, tilt(number, side), state()), [[0], [-22], before])
            self.assertEqual(ask(start, tilt(size - 1, 0))[1], [(size - 1) % 2])

    def test_no_gate_at_all(self):
        for number in (0, 1, 63, 64, 4294967295):
            for side in (0, 1, 2):
                self.assertEqual(ask(build([]), tilt(number, side), state()), [[0], [-22], [0, 0]])

    def test_no_such_tilt(self):
        gates = [[TILTS, 0, 64, 65], [STAYS, 1, 64, 65], [2, 1, 64, 65]]
        for number in range(3):
            for side in (2, 3, 4, 255, 4294967295):
                self.assertEqual(
                    ask(build(gates), tilt(number, side), state(), drop(0)), [[0], [-22], [3, 6], [0]])

    def test_no_such_gate_and_no_such_tilt(self):
        self.assertEqual(ask(build([[TILTS, 1, 64, 65]]), tilt(1, 2), state()), [[0], [-22], [1, 1]])

    def test_a_gate_of_an_earlier_build(self):
        self.assertEqual(
            ask(build(chain(5)), tilt(4, 1), build(chain(2)), tilt(4, 1), tilt(1, 1), state()),
            [[0], [0], [0], [-22], [0], [2, 2]])

    def test_against_the_slow_board(self):
        source = random.Random(30)
        for _ in range(80):
            kinds = source.choice([[0], [0, 1], [0, 1, 2], [2, 3], list(range(10))])
            told = some_board(source, kinds, source.randrange(1, 65))
            slow = SlowBoard(*told)
            calls = []
            expected = []
            for _ in range(40):
                number = source.randrange(len(told[0]))
                side = source.randrange(2)
                entry = source.randrange(4)
                calls += [tilt(number, side), drop(entry), state()]
                expected += [slow.tilt(number, side), slow.drop(entry), slow.state()]
            self.assertEqual(ask(build(*told), *calls), [[0]] + expected)


if __name__ == "__main__":
    unittest.main()
