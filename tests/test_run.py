"""Point 4: run."""

import random
import unittest

from tests.helper import NONE, OUT, STAYS, TILTS, SlowBoard, ask, build, drop, exits, run, some_board


def levers(told):
    """Sixteen levers out of a dict of those that are an entry."""
    return [told.get(number, 4) for number in range(16)]


class RunTest(unittest.TestCase):
    def test_stops_at_a_lever_that_is_none(self):
        start = build([[TILTS, 0, 64, 65]], None, levers({0: 0}))
        self.assertEqual(ask(start, run(0, 10000)), [[0], [2] + exits({0: 1, 1: 1}) + [4]])

    def test_stops_behind_the_first(self):
        start = build([[TILTS, 0, 64, 65]], None, levers({1: 0}))
        self.assertEqual(
            ask(start, run(0, 10000), run(0, 10000)),
            [[0], [1] + exits({0: 1}) + [4], [2] + exits({0: 1, 1: 1}) + [4]])

    def test_counts_down_and_stops(self):
        # Four gates that count: exit 1 is reached behind fifteen marbles.
        gates = [[TILTS, 0, 64, number + 1] for number in range(3)] + [[TILTS, 0, 64, 65]]
        start = build(gates, None, levers({0: 3}))
        self.assertEqual(ask(start, run(1, 10000)), [[0], [16] + exits({0: 15, 1: 1}) + [4]])

    def test_levers_lead_to_their_entries(self):
        start = build([], [64, 65, 66, 79], levers({0: 1, 1: 2, 2: 3}))
        self.assertEqual(
            ask(start, run(0, 9), run(1, 9), run(2, 9), run(3, 9)),
            [[0],
             [4] + exits({0: 1, 1: 1, 2: 1, 15: 1}) + [4],
             [3] + exits({1: 1, 2: 1, 15: 1}) + [4],
             [2] + exits({2: 1, 15: 1}) + [4],
             [1] + exits({15: 1}) + [4]])

    def test_the_last_number_is_the_entry_at_which_it_would_go_on(self):
        start = build([], [64, 65, 66, 79], levers({0: 1, 1: 2, 2: 3, 15: 0}))
        for most in range(1, 10):
            last = ask(start, run(2, most))[1][-1]
            self.assertEqual(last, (2 + most) % 4)

    def test_the_last_number_where_the_last_ones_lever_is_none(self):
        start = build([[TILTS, 0, 64, 65]], None, levers({0: 2}))
        self.assertEqual(ask(start, run(0, 1), run(0, 1)), [[0], [1] + exits({0: 1}) + [2], [1] + exits({1: 1}) + [4]])

    def test_none_is_told_also_where_most_is_reached(self):
        start = build([[TILTS, 0, 64, 65]], None, levers({0: 0}))
        self.assertEqual(ask(start, run(0, 2)), [[0], [2] + exits({0: 1, 1: 1}) + [4]])

    def test_goes_on_behind_a_run_that_was_cut(self):
        gates = [[TILTS, 0, 64, 1], [TILTS, 0, 64, 65]]
        start = build(gates, None, levers({0: 1}))
        self.assertEqual(
            ask(start, run(0, 3), run(1, 3)),
            [[0], [3] + exits({0: 3}) + [1], [1] + exits({1: 1}) + [4]])

    def test_most_one(self):
        for lever in range(5):
            start = build([], OUT, levers({0: lever}))
            self.assertEqual(ask(start, run(0, 1)), [[0], [1] + exits({0: 1}) + [lever]])

    def test_never_done(self):
        start = build([[TILTS, 0, 64, 65]], None, [0] * 16)
        for most in (1, 2, 3, 9999, 10000):
            self.assertEqual(
                ask(start, run(0, most))[1], [most] + exits({0: (most + 1) // 2, 1: most // 2}) + [0])

    def test_never_done_without_a_gate(self):
        start = build([], [79] * 4, [3] * 16)
        self.assertEqual(ask(start, run(2, 10000)), [[0], [10000] + exits({15: 10000}) + [3]])

    def test_done_just_at_most(self):
        # Fourteen gates would count to 16384; the run is cut at 10000 and goes on to its end.
        gates = [[TILTS, 0, 64, number + 1] for number in range(13)] + [[TILTS, 0, 64, 65]]
        start = build(gates, None, levers({0: 0}))
        self.assertEqual(
            ask(start, run(0, 10000), run(0, 6384), run(0, 6384)),
            [[0], [10000] + exits({0: 10000}) + [0], [6384] + exits({0: 6383, 1: 1}) + [4],
             [6384] + exits({0: 6384}) + [0]])

    def test_geared_gates(self):
        gates = [[2, 0, 1, 66], [2, 0, 64, 65]]
        start = build(gates, None, levers({1: 1, 2: 0}))
        # Over gate 0, and gate 1 is right by then, so both are as they were.
        self.assertEqual(ask(start, run(0, 5)), [[0], [5] + exits({1: 5}) + [1]])
        start = build(gates, [0, 1, 0, 0], levers({1: 1, 2: 0}))
        self.assertEqual(ask(start, run(0, 5)), [[0], [2] + exits({0: 1, 1: 1}) + [4]])

    def test_a_gate_that_stays(self):
        start = build([[STAYS, 1, 64, 65]], None, levers({1: 0}))
        self.assertEqual(ask(start, run(0, 7)), [[0], [7] + exits({1: 7}) + [0]])

    def test_both_sides_the_same_place(self):
        start = build([[TILTS, 0, 1, 1], [TILTS, 0, 64, 65]], None, levers({0: 0}))
        self.assertEqual(ask(start, run(0, 7)), [[0], [2] + exits({0: 1, 1: 1}) + [4]])

    def test_64_gates_one_behind_another(self):
        gates = [[TILTS, 0, number + 1, number + 1] for number in range(63)] + [[TILTS, 0, 64, 65]]
        start = build(gates, None, [0] * 16)
        self.assertEqual(ask(start, run(0, 10000)), [[0], [10000] + exits({0: 5000, 1: 5000}) + [0]])

    def test_most_that_is_not_1_to_10000(self):
        start = build([[TILTS, 0, 64, 65]], None, NONE)
        for most in (0, 10001, 10002, 65536, 4294967295):
            self.assertEqual(
                ask(start, run(0, most), drop(0), run(3, most), drop(0)), [[0], [-22], [0], [-22], [1]])

    def test_no_such_entry(self):
        start = build([[TILTS, 0, 64, 65]], None, NONE)
        for entry in (4, 5, 64, 4294967295):
            for most in (0, 1, 10000, 10001):
                self.assertEqual(ask(start, run(entry, most), drop(0)), [[0], [-22], [0]])

    def test_against_the_slow_board(self):
        source = random.Random(7)
        for _ in range(150):
            kinds = source.choice([[0], [0, 1], [0, 1, 2], [2, 3], list(range(10))])
            gates, entries, told = some_board(source, kinds, source.randrange(65))
            told = source.choice([told, [lever % 4 for lever in told]])
            orders = [(source.randrange(4), source.choice([1, 2, 30, 100])) for _ in range(6)]
            slow = SlowBoard(gates, entries, told)
            expected = [[slow.run(*order), slow.drop(0)] for order in orders]
            self.assertEqual(
                ask(build(gates, entries, told), *[run(*order) + drop(0) for order in orders]),
                [[0]] + [part for pair in expected for part in pair])


if __name__ == "__main__":
    unittest.main()
