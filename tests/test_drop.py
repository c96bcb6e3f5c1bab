"""Point 2: drop."""

import random
import unittest

from tests.helper import STAYS, TILTS, SlowBoard, ask, build, drop, some_board


class DropTest(unittest.TestCase):
    def dropped(self, gates, entries, order):
        parts = ask(build(gates, entries), *[drop(entry) for entry in order])
        self.assertEqual(parts[0], [0])
        return [part[0] for part in parts[1:]]

    def test_entries_that_are_exits(self):
        self.assertEqual(self.dropped([], [64, 79, 70, 65], [0, 1, 2, 3, 0]), [0, 15, 6, 1, 0])

    def test_each_exit_has_its_number(self):
        for number in range(16):
            self.assertEqual(self.dropped([[STAYS, 0, 64 + number, 64]], [0] * 4, [3]), [number])

    def test_a_gate_that_tilts(self):
        self.assertEqual(self.dropped([[TILTS, 0, 66, 67]], [0] * 4, [0] * 5), [2, 3, 2, 3, 2])
        self.assertEqual(self.dropped([[TILTS, 1, 66, 67]], [0] * 4, [0] * 5), [3, 2, 3, 2, 3])

    def test_a_gate_that_stays(self):
        self.assertEqual(self.dropped([[STAYS, 0, 66, 67]], [0] * 4, [0] * 4), [2] * 4)
        self.assertEqual(self.dropped([[STAYS, 1, 66, 67]], [0] * 4, [0] * 4), [3] * 4)

    def test_a_lone_gate_of_each_set(self):
        for kind in range(2, 10):
            self.assertEqual(self.dropped([[kind, 0, 66, 67]], [0] * 4, [0] * 4), [2, 3, 2, 3])
            self.assertEqual(self.dropped([[kind, 1, 66, 67]], [0] * 4, [0] * 4), [3, 2, 3, 2])

    def test_a_set_tilts_as_one(self):
        for kind in range(2, 10):
            gates = [[kind, 0, 64, 65], [kind, 0, 66, 67], [kind, 1, 68, 69]]
            self.assertEqual(
                self.dropped(gates, [0, 1, 2, 79], [0, 1, 2, 0, 0, 1, 3, 1]),
                [0, 3, 5, 1, 0, 3, 15, 2])

    def test_other_sets_and_kinds_are_left_alone(self):
        for kind in range(2, 10):
            for other in range(10):
                if other != kind:
                    gates = [[kind, 0, 64, 65], [other, 0, 66, 67]]
                    self.assertEqual(self.dropped(gates, [0, 1, 0, 1], [0, 1, 0, 0]), [0, 2, 1, 0])

    def test_tilting_gates_do_not_tilt_one_another(self):
        gates = [[TILTS, 0, 64, 65], [TILTS, 0, 66, 67]]
        self.assertEqual(self.dropped(gates, [0, 1, 0, 1], [0, 0, 0, 1, 0, 1]), [0, 1, 0, 2, 1, 3])

    def test_a_marble_over_two_gates_of_one_set(self):
        # The first gate tilts the second one before the marble is there.
        gates = [[2, 0, 1, 1], [2, 0, 64, 65]]
        self.assertEqual(self.dropped(gates, [0] * 4, [0, 0, 0]), [1, 1, 1])
        self.assertEqual(self.dropped(gates, [0, 1, 0, 0], [0, 1, 0, 1, 1]), [1, 0, 0, 1, 0])

    def test_a_marble_over_three_gates_of_one_set(self):
        gates = [[9, 0, 1, 1], [9, 0, 66, 2], [9, 0, 64, 65]]
        self.assertEqual(self.dropped(gates, [0] * 4, [0, 0, 0, 0]), [0, 2, 2, 2])

    def test_both_sides_the_same_place(self):
        gates = [[TILTS, 0, 1, 1], [TILTS, 0, 64, 65]]
        self.assertEqual(self.dropped(gates, [0, 1, 0, 0], [0, 0, 1, 0]), [0, 1, 0, 1])

    def test_both_sides_the_same_exit(self):
        self.assertEqual(self.dropped([[TILTS, 0, 79, 79]], [0] * 4, [0, 1, 2]), [15, 15, 15])

    def test_a_gate_that_none_comes_by(self):
        gates = [[TILTS, 0, 2, 2], [TILTS, 0, 64, 64], [TILTS, 0, 65, 66]]
        self.assertEqual(self.dropped(gates, [0] * 4, [0, 1, 2, 3]), [1, 2, 1, 2])

    def test_a_gate_that_none_comes_by_is_tilted_by_its_set(self):
        gates = [[3, 0, 64, 65], [3, 0, 66, 67], [TILTS, 0, 68, 69]]
        self.assertEqual(self.dropped(gates, [0, 1, 2, 2], [0, 2, 1]), [0, 4, 3])

    def test_64_gates_one_behind_another(self):
        gates = [[TILTS, 0, number + 1, number + 1] for number in range(63)] + [[TILTS, 0, 64, 65]]
        self.assertEqual(self.dropped(gates, [0, 63, 1, 62], [0, 0, 1, 2, 3, 0]), [0, 1, 0, 1, 0, 1])

    def test_64_gates_that_count(self):
        # Tilted right a gate hands the marble on, so exit 0 is only missed every 16 marbles.
        gates = [[TILTS, 1, number + 1, 64] for number in range(63)] + [[TILTS, 1, 65, 64]]
        gates[4] = [STAYS, 0, 79, 79]
        self.assertEqual(self.dropped(gates, [0] * 4, [0] * 32), ([0] * 15 + [15]) * 2)

    def test_64_geared_gates_one_behind_another(self):
        gates = [[5, 0, number + 1, number + 1] for number in range(63)] + [[5, 0, 64, 65]]
        self.assertEqual(self.dropped(gates, [0, 63, 0, 0], [0, 0, 1, 0, 1]), [1, 1, 0, 0, 1])

    def test_four_entries(self):
        gates = [[TILTS, 0, 64, 65], [TILTS, 0, 66, 67], [TILTS, 0, 68, 69], [TILTS, 0, 70, 71]]
        self.assertEqual(
            self.dropped(gates, [3, 2, 1, 0], [0, 1, 2, 3, 3, 2, 1, 0]), [6, 4, 2, 0, 1, 3, 5, 7])

    def test_no_such_entry(self):
        for entry in (4, 5, 63, 64, 255, 4294967295):
            self.assertEqual(
                ask(build([[TILTS, 0, 64, 65]]), drop(entry), drop(0), drop(entry), drop(0)),
                [[0], [-22], [0], [-22], [1]])

    def test_against_the_slow_board(self):
        source = random.Random(2)
        for _ in range(150):
            kinds = source.choice([[0], [0, 1], [0, 1, 2], [2, 3], list(range(10))])
            gates, entries, levers = some_board(source, kinds, source.randrange(65))
            order = [source.randrange(4) for _ in range(60)]
            slow = SlowBoard(gates, entries, levers)
            self.assertEqual(
                ask(build(gates, entries, levers), *[drop(entry) for entry in order]),
                [[0]] + [slow.drop(entry) for entry in order])


if __name__ == "__main__":
    unittest.main()
