"""Point 7: state."""

import random
import unittest

from tests.helper import (
    MOST_COUNT, STAYS, TILTS, SlowBoard, ask, build, chain, counter, drop, exits, many, run, some_board,
    state, tilt)


class StateTest(unittest.TestCase):
    def test_no_gate(self):
        self.assertEqual(ask(build([]), state(), drop(0), many(0, 5), state()),
                         [[0], [0, 0], [0], [0] + exits({0: 5}), [0, 0]])

    def test_one_gate(self):
        for kind in range(10):
            for side in (0, 1):
                self.assertEqual(ask(build([[kind, side, 64, 65]]), state()), [[0], [1, side]])

    def test_bits_from_gate_0_on(self):
        for size in (1, 2, 3, 8, 32, 33, 63, 64):
            for number in range(size):
                gates = [[kind % 10, 0, 64, 65] for kind in range(size)]
                gates[number][1] = 1
                self.assertEqual(ask(build(gates), state()), [[0], [size, 2 ** number]])

    def test_64_gates_all_tilted_right(self):
        self.assertEqual(ask(build([[TILTS, 1, 64, 65]] * 64), state()), [[0], [64, MOST_COUNT]])
        self.assertEqual(ask(build([[TILTS, 0, 64, 65]] * 64), state()), [[0], [64, 0]])
        self.assertEqual(ask(build([[TILTS, 1, 64, 65]] * 63), state()), [[0], [63, 2 ** 63 - 1]])

    def test_the_same_again(self):
        self.assertEqual(ask(build([[TILTS, 1, 64, 65]]), state(), state(), drop(0), state(), state()),
                         [[0], [1, 1], [1, 1], [1], [1, 0], [1, 0]])

    def test_behind_drop(self):
        self.assertEqual(
            ask(build(counter(3)), drop(0), state(), drop(0), state(), drop(0), state(), drop(0), state()),
            [[0], [0], [3, 1], [0], [3, 2], [0], [3, 3], [0], [3, 4]])
        self.assertEqual(
            ask(build(chain(64), [0, 63, 0, 0]), drop(0), state(), drop(1), state()),
            [[0], [0], [64, MOST_COUNT], [1], [64, 2 ** 63 - 1]])

    def test_behind_drop_over_gates_that_stay_or_are_geared(self):
        gates = [[STAYS, 1, 64, 1], [2, 0, 64, 65], [3, 1, 64, 65], [2, 1, 64, 65]]
        self.assertEqual(
            ask(build(gates, [0, 2, 3, 3]), state(), drop(0), state(), drop(1), state(), drop(2), state()),
            [[0], [4, 13], [0], [4, 7], [1], [4, 3], [0], [4, 9]])

    def test_behind_a_marble_over_two_gates_of_one_set(self):
        self.assertEqual(
            ask(build([[2, 0, 1, 1], [2, 1, 64, 65]], [0, 1, 0, 0]), drop(0), state(), drop(1), state()),
            [[0], [0], [2, 2], [1], [2, 1]])

    def test_behind_many(self):
        # 64 gates of which each hands every other marble on are a number that is counted up.
        for count in (0, 1, 2, 5, 1000000007, MOST_COUNT - 1, MOST_COUNT):
            self.assertEqual(ask(build(counter(64)), many(0, count), state())[2], [64, count])
        self.assertEqual(
            ask(build(counter(64)), many(0, MOST_COUNT), many(0, MOST_COUNT), state())[3], [64, MOST_COUNT - 1])
        self.assertEqual(ask(build(chain(64)), many(0, MOST_COUNT), state())[2], [64, MOST_COUNT])

    def test_behind_run(self):
        start = build(counter(64), None, [0] * 16)
        self.assertEqual(
            ask(start, run(0, 10000), state(), run(0, 1), state()),
            [[0], [10000] + exits({0: 10000}) + [0], [64, 10000], [1] + exits({0: 1}) + [0], [64, 10001]])

    def test_behind_tilt(self):
        gates = [[TILTS, 0, 64, 65], [STAYS, 0, 64, 65], [2, 1, 64, 65]]
        self.assertEqual(
            ask(build(gates), tilt(1, 1), state(), tilt(2, 0), state(), tilt(2, 0), state(), tilt(0, 1), state()),
            [[0], [0], [3, 6], [1], [3, 2], [0], [3, 2], [0], [3, 3]])

    def test_behind_a_later_build(self):
        self.assertEqual(
            ask(build(chain(64)), drop(0), build(chain(2)), state(), drop(0), state(),
                build([[TILTS, 1, 64, 65]]), state(), build([]), state(), build(chain(3)), state()),
            [[0], [0], [0], [2, 0], [0], [2, 3], [0], [1, 1], [0], [0, 0], [0], [3, 0]])

    def test_behind_refusals(self):
        refused = [build(chain(65)), build([[10, 0, 64, 65]]), drop(4), many(4, 3), run(0, 0), run(4, 1),
                   tilt(3, 1), tilt(0, 2)]
        for call in refused:
            self.assertEqual(
                ask(build(counter(3)), many(0, 5), call, state())[2:], [[-22], [3, 5]])
        self.assertEqual(ask(build([[2, 1, 64, 65]]), many(0, 1), state()), [[0], [-33], [1, 1]])

    def test_against_the_slow_board(self):
        source = random.Random(40)
        for _ in range(80):
            kinds = source.choice([[0], [0, 1], [0, 1, 2], [2, 3], list(range(10))])
            told = some_board(source, kinds, source.randrange(65))
            slow = SlowBoard(*told)
            calls = [state()]
            expected = [slow.state()]
            for _ in range(10):
                entry = source.randrange(4)
                count = source.randrange(1, 30)
                calls += [drop(entry), state(), many(entry, count), state(), run(entry, count), state()]
                expected += [slow.drop(entry), slow.state(), slow.many(entry, count), slow.state(),
                             slow.run(entry, count), slow.state()]
            self.assertEqual(ask(build(*told), *calls), [[0]] + expected)


if __name__ == "__main__":
    unittest.main()
