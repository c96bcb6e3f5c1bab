"""Point 1: build."""

import unittest

from tests.helper import NONE, OUT, STAYS, TILTS, ask, build, chain, drop, exits, many, run


def with_gate(size, number, gate):
    gates = [[TILTS, 0, 64, 65] for _ in range(size)]
    gates[number] = gate
    return build(gates)


class BuildTest(unittest.TestCase):
    def assert_built(self, call):
        self.assertEqual(ask(call), [[0]])

    def assert_refused(self, call):
        self.assertEqual(ask(call), [[-22]])

    def test_no_gate_at_all(self):
        self.assert_built(build([]))

    def test_one_gate(self):
        self.assert_built(build([[TILTS, 0, 64, 79]]))

    def test_64_gates_and_65(self):
        flat = [[TILTS, 0, 64, 65]] * 128
        self.assert_built(build(flat[:63]))
        self.assert_built(build(flat[:64]))
        for size in (65, 66, 80, 81, 127, 128):
            self.assert_refused(build(flat[:size]))
            self.assert_refused(build(flat[:size], OUT))

    def test_65_gates_that_lead_to_one_another(self):
        self.assert_built(build(chain(64)))
        self.assert_refused(build(chain(65)))

    def test_kinds(self):
        for kind in range(10):
            self.assert_built(build([[kind, 0, 64, 65]]))
        for kind in (10, 11, 64, 255):
            self.assert_refused(build([[kind, 0, 64, 65]]))

    def test_tilts(self):
        self.assert_built(build([[TILTS, 1, 64, 65]]))
        for tilt in (2, 3, 255):
            self.assert_refused(build([[TILTS, tilt, 64, 65]]))

    def test_each_gate_is_looked_at(self):
        for number in range(64):
            for gate in ([10, 0, 64, 65], [0, 2, 64, 65], [0, 0, 80, 65], [0, 0, 64, 80]):
                self.assert_refused(with_gate(64, number, gate))

    def test_sides_that_are_exits(self):
        for place in range(64, 80):
            self.assert_built(build([[TILTS, 0, place, 64]]))
            self.assert_built(build([[TILTS, 0, 64, place]]))
        for place in (80, 81, 128, 255):
            self.assert_refused(build([[TILTS, 0, place, 64]]))
            self.assert_refused(build([[TILTS, 0, 64, place]]))

    def test_sides_against_the_gates_own_number(self):
        for number in range(64):
            for place in range(64):
                check = self.assert_built if place > number else self.assert_refused
                check(with_gate(64, number, [TILTS, 0, place, 64]))
                check(with_gate(64, number, [TILTS, 0, 64, place]))

    def test_sides_against_how_many_gates_there_are(self):
        for size in (1, 2, 5, 62, 63):
            for place in range(1, 64):
                check = self.assert_built if place < size else self.assert_refused
                check(with_gate(size, 0, [TILTS, 0, place, 64]))
                check(with_gate(size, 0, [TILTS, 0, 64, place]))

    def test_the_last_gate_leads_to_exits_alone(self):
        for place in (3, 4, 5, 63):
            self.assert_refused(with_gate(5, 4, [TILTS, 0, place, 64]))
            self.assert_refused(with_gate(5, 4, [TILTS, 0, 64, place]))

    def test_a_stuck_or_geared_gate_is_held_to_the_same(self):
        for kind in range(1, 10):
            self.assert_refused(build([[kind, 2, 64, 65]]))
            self.assert_refused(build([[kind, 0, 0, 65]]))
            self.assert_refused(build([[kind, 0, 64, 0]]))

    def test_entries(self):
        for which in range(4):
            for size in (0, 1, 3, 64):
                for place in list(range(82)) + [128, 255]:
                    entries = list(OUT)
                    entries[which] = place
                    good = place < size or 64 <= place <= 79
                    check = self.assert_built if good else self.assert_refused
                    check(build([[TILTS, 0, 64, 65]] * size, entries))

    def test_levers(self):
        for which in range(16):
            for lever in (0, 1, 2, 3, 4, 5, 6, 64, 255):
                levers = list(NONE)
                levers[which] = lever
                check = self.assert_built if lever <= 4 else self.assert_refused
                check(build([], None, levers))

    def test_several_causes_at_once(self):
        self.assert_refused(build([[10, 2, 80, 80]] * 65, [80] * 4, [5] * 16))

    def test_refused_builds_ahead_of_the_first(self):
        bad = build([], [0] * 4)
        self.assertEqual(ask(bad, bad, build([]), drop(0)), [[-22], [-22], [0], [0]])

    def test_a_refused_build_leaves_the_machine_as_it_was(self):
        first = build([[TILTS, 0, 64, 65], [STAYS, 1, 66, 67]], [0, 1, 70, 71], [4, 0] + [4] * 14)
        refused = [
            build([[STAYS, 0, 72, 72]] * 65, [72] * 4),
            build([[10, 0, 72, 72]], [72] * 4, [0] * 16),
            build([[0, 2, 72, 72]], [72] * 4, [0] * 16),
            build([[2, 1, 0, 72]], [72] * 4, [0] * 16),
            build([[2, 1, 72, 0]], [72] * 4, [0] * 16),
            build([[2, 1, 72, 72]], [72, 72, 72, 1], [0] * 16),
            build([[2, 1, 72, 72]], [72] * 4, [0] * 15 + [5]),
        ]
        for bad in refused:
            self.assertEqual(
                ask(first, drop(0), bad, drop(0), bad, drop(1), drop(2), drop(3),
                    bad, many(0, 3), bad, run(0, 9)),
                [[0], [0], [-22], [1], [-22], [3], [6], [7],
                 [-22], [0] + exits({0: 2, 1: 1}), [-22], [2] + exits({0: 1, 1: 1}) + [4]])

    def test_a_later_build_takes_the_place(self):
        first = build([[2, 1, 1, 65], [TILTS, 0, 66, 67]], [0, 1, 68, 69], [4] * 16)
        second = build([[TILTS, 0, 70, 71]], [0, 72, 73, 74], [4] * 6 + [1] + [4] * 9)
        self.assertEqual(
            ask(first, drop(0), drop(0), second, drop(0), drop(0), drop(1), drop(2), drop(3),
                many(0, 1), run(0, 5), run(0, 5)),
            [[0], [1], [2], [0], [6], [7], [8], [9], [10],
             [0] + exits({6: 1}), [1] + exits({7: 1}) + [4], [2] + exits({6: 1, 8: 1}) + [4]])

    def test_the_same_build_again_is_as_new(self):
        same = build([[TILTS, 0, 64, 65]])
        self.assertEqual(ask(same, drop(0), same, drop(0), drop(0)), [[0], [0], [0], [0], [1]])


if __name__ == "__main__":
    unittest.main()
