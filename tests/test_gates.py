"""Point 5: the gates, as tuples and as objects."""

import unittest

from vatyard.gates import Gate, Late, Steady, Tidal, gate_of, width

MOST = 10 ** 12
FAR = 10 ** 29 + 1  # a moment of thirty figures
MADE = {"steady": Steady, "late": Late, "tidal": Tidal}
GATES = (
    ("steady", 1), ("steady", 7), ("steady", MOST),
    ("late", 1, 0), ("late", 5, 1), ("late", 9, 17), ("late", MOST, 60),
    ("tidal", 1, MOST, 2), ("tidal", MOST, 1, 20), ("tidal", 4, 4, 3), ("tidal", 6, 2, 7),
)
MOMENTS = list(range(0, 130)) + [FAR - 2, FAR - 1, FAR, FAR + 1, 10 ** 30 - 1]


def by_object(gate, moment):
    return MADE[gate[0]](*gate[1:]).width_at(moment)


def by_gate_of(gate, moment):
    return gate_of(gate).width_at(moment)


def told_by_the_document(gate, moment):
    if gate[0] == "steady":
        return gate[1]
    if gate[0] == "late":
        return 0 if moment < gate[2] else gate[1]
    return gate[1] if moment // gate[3] * gate[3] == moment else gate[2]


class Widths(unittest.TestCase):
    def assert_widths(self, gate, pairs):
        for tell in (width, by_gate_of, by_object):
            for moment, told in pairs:
                with self.subTest(gate=gate, moment=moment, tell=tell.__name__):
                    self.assertEqual(tell(gate, moment), told)

    def test_steady(self):
        for wide in (1, 2, 35, MOST):
            self.assert_widths(("steady", wide), [(0, wide), (1, wide), (2, wide), (60, wide), (61, wide), (FAR, wide)])

    def test_late(self):
        self.assert_widths(("late", 8, 5), [(0, 0), (1, 0), (4, 0), (5, 8), (6, 8), (60, 8), (FAR, 8)])

    def test_late_from_the_beginning(self):
        self.assert_widths(("late", MOST, 0), [(0, MOST), (1, MOST), (FAR, MOST)])

    def test_late_from_one(self):
        self.assert_widths(("late", 1, 1), [(0, 0), (1, 1), (2, 1)])

    def test_late_from_the_last(self):
        self.assert_widths(("late", MOST, 60), [(0, 0), (1, 0), (59, 0), (60, MOST), (61, MOST), (FAR, MOST)])

    def test_tidal(self):
        self.assert_widths(("tidal", 9, 2, 3), [(0, 9), (1, 2), (2, 2), (3, 9), (4, 2), (5, 2), (6, 9), (60, 9), (61, 2)])

    def test_tidal_of_the_least_turn(self):
        self.assert_widths(
            ("tidal", 1, MOST, 2),
            [(0, 1), (1, MOST), (2, 1), (3, MOST), (FAR - 1, 1), (FAR, MOST)],
        )

    def test_tidal_of_the_greatest_turn(self):
        self.assert_widths(
            ("tidal", MOST, 1, 20),
            [(0, MOST), (1, 1), (10, 1), (19, 1), (20, MOST), (21, 1), (39, 1), (40, MOST), (41, 1),
             (FAR - 2, 1), (FAR - 1, MOST), (FAR, 1)],
        )

    def test_tidal_moments_of_thirty_figures(self):
        # 7 divides 10 ** 30 - 1, as 6 divides 30
        near = 10 ** 30 - 1
        self.assert_widths(("tidal", 6, 2, 7), [(near, 6), (near - 1, 2), (near - 7, 6), (near - 6, 2)])

    def test_every_gate_at_many_moments(self):
        for gate in GATES:
            self.assert_widths(gate, [(moment, told_by_the_document(gate, moment)) for moment in MOMENTS])

    def test_widths_are_whole_numbers_and_no_truths(self):
        for gate in GATES:
            for moment in (0, 1, 60, FAR):
                self.assertIs(type(width(gate, moment)), int)
                self.assertIs(type(by_object(gate, moment)), int)
        self.assertIs(type(Gate().width_at(0)), int)

    def test_asked_again_the_same_is_told(self):
        for gate in GATES:
            thing = gate_of(gate)
            there = [thing.width_at(moment) for moment in MOMENTS]
            back = [thing.width_at(moment) for moment in reversed(MOMENTS)]
            self.assertEqual(there, back[::-1])
            self.assertEqual(there, [width(gate, moment) for moment in MOMENTS])


class Objects(unittest.TestCase):
    def test_the_base_is_shut_at_each_moment(self):
        for moment in MOMENTS:
            self.assertEqual(Gate().width_at(moment), 0)

    def test_each_is_of_its_own_class_alone(self):
        for gate in GATES:
            for thing in (gate_of(gate), MADE[gate[0]](*gate[1:])):
                self.assertIsInstance(thing, Gate)
                self.assertEqual([word for word in MADE if isinstance(thing, MADE[word])], [gate[0]])
                self.assertIs(type(thing), MADE[gate[0]])

    def test_each_class_stands_straight_under_the_base(self):
        for made in MADE.values():
            self.assertEqual(made.__bases__, (Gate,))
            self.assertNotIsInstance(Gate(), made)

    def test_each_has_a_width_of_its_own(self):
        for made in MADE.values():
            self.assertIn("width_at", vars(made))

    def test_objects_do_not_share_what_they_keep(self):
        narrow = gate_of(("late", 1, 2))
        wide = gate_of(("late", 50, 1))
        self.assertEqual([narrow.width_at(1), narrow.width_at(2)], [0, 1])
        self.assertEqual([wide.width_at(0), wide.width_at(1)], [0, 50])

    def test_each_asking_makes_a_new_object(self):
        gate = ("tidal", 3, 4, 5)
        self.assertIsNot(gate_of(gate), gate_of(gate))


if __name__ == "__main__":
    unittest.main()
