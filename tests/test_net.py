"""Point 3: net and state."""

import unittest

from tests.lines import (
    DRIVE, LOOK, REFUSED, ask, ask_behind, chip, clocks, instruct, net, nets, scan_data, start, state,
)

MOST = 2 ** 32 - 1


def driven(bits, net_count=None, **more):
    """The line behind which one chip drives net 0 with the first bit, net 1 with the next, and so on."""
    chips = [chip(cells=[(n, 1) for n in range(len(bits))])]
    return [start(chips, nets=net_count or len(bits), **more)] + instruct(chips, [DRIVE]) + scan_data(bits)


class Refused(unittest.TestCase):
    def test_at_and_above_nets(self):
        for count in (1, 2, 63, 64):
            line = [start([chip()], nets=count)]
            with self.subTest(count):
                self.assertEqual(ask_behind(line, [net(count - 1), net(count), net(count + 1)]), [1, REFUSED, REFUSED])
                self.assertEqual(ask_behind(line, [net(MOST), net(64), net(127)]), [REFUSED] * 3)

    def test_nothing_changes(self):
        line = driven([0, 1])
        self.assertEqual(ask_behind(line + [net(2)], nets(2) + [state()]), [0, 1, 1])


class Value(unittest.TestCase):
    def test_held_at_0(self):
        self.assertEqual(ask_behind([start([chip()], held=[1])], nets(1)), [0])
        self.assertEqual(ask_behind(driven([1], held=[1]), nets(1)), [0])
        self.assertEqual(ask_behind(driven([0], held=[1]), nets(1)), [0])

    def test_held_at_1(self):
        self.assertEqual(ask_behind([start([chip()], held=[2])], nets(1)), [1])
        self.assertEqual(ask_behind(driven([1], held=[2]), nets(1)), [1])
        self.assertEqual(ask_behind(driven([0], held=[2]), nets(1)), [1])

    def test_driven(self):
        self.assertEqual(ask_behind(driven([0]), nets(1)), [0])
        self.assertEqual(ask_behind(driven([1]), nets(1)), [1])
        self.assertEqual(ask_behind(driven([0, 1, 1, 0]), nets(4)), [0, 1, 1, 0])

    def test_driven_by_nobody(self):
        self.assertEqual(ask_behind([start([chip(cells=[(0, 1), (1, 0)])], nets=3)], nets(3)), [1, 1, 1])
        self.assertEqual(ask_behind(driven([0, 0], 4), nets(4)), [0, 0, 1, 1])

    def test_driving_cells_drive_with_instruction_0_alone(self):
        chips = [chip(7, 2, 1, [(0, 1)])]
        for instruction in range(4):
            line = [start(chips)] + instruct(chips, [instruction])
            with self.subTest(instruction):
                self.assertEqual(ask_behind(line, nets(1)), [0 if instruction == DRIVE else 1])

    def test_only_the_chips_with_instruction_0_drive(self):
        chips = [chip(cells=[(0, 1)]), chip(cells=[(1, 1)]), chip(cells=[(2, 1)])]
        line = [start(chips, nets=3)] + instruct(chips, [LOOK, DRIVE, 3])
        self.assertEqual(ask_behind(line, nets(3)), [1, 0, 1])

    def test_driven_by_several(self):
        chips = [chip(cells=[(0, 1), (0, 1)]), chip(cells=[(0, 1)])]
        line = [start(chips)] + instruct(chips, [DRIVE, DRIVE])
        for bits in ([0, 0, 0], [0, 1, 1], [1, 0, 1], [1, 1, 0], [1, 1, 1]):
            with self.subTest(bits):
                self.assertEqual(ask_behind(line + scan_data(bits), nets(1)), [min(bits)])


class Joined(unittest.TestCase):
    GROUPS = [0, 1, 0, 1, 4]

    def test_one_driven_with_0(self):
        for at in range(5):
            bits = [1] * 5
            bits[at] = 0
            expected = [0 if group == self.GROUPS[at] else 1 for group in self.GROUPS]
            with self.subTest(at):
                self.assertEqual(ask_behind(driven(bits, joined=self.GROUPS), nets(5)), expected)

    def test_all_driven_with_1(self):
        self.assertEqual(ask_behind(driven([1] * 5, joined=self.GROUPS), nets(5)), [1] * 5)

    def test_one_held(self):
        for at in range(5):
            for mark, level in ((1, 0), (2, 1)):
                held = [0] * 5
                held[at] = mark
                line = driven([1 - level] * 5, joined=self.GROUPS, held=held)
                expected = [level if group == self.GROUPS[at] else 1 - level for group in self.GROUPS]
                with self.subTest(at, mark=mark):
                    self.assertEqual(ask_behind(line, nets(5)), expected)

    def test_two_held_at_0_and_1(self):
        for held in ([1, 0, 2, 0, 2], [2, 0, 1, 0, 2]):
            for bit in (0, 1):
                line = driven([bit] * 5, joined=self.GROUPS, held=held)
                with self.subTest(held, bit=bit):
                    self.assertEqual(ask_behind(line, nets(5)), [0, bit, 0, bit, 1])

    def test_all_in_one_group(self):
        joined = [0] * 64
        self.assertEqual(ask_behind([start([chip()], nets=64, joined=joined)], nets(64)), [1] * 64)
        held = [2] * 63 + [1]
        self.assertEqual(ask_behind([start([chip()], nets=64, joined=joined, held=held)], nets(64)), [0] * 64)
        held = [0] * 63 + [2]
        self.assertEqual(ask_behind(driven([0], 64, joined=joined, held=held), nets(64)), [1] * 64)


class Asking(unittest.TestCase):
    def test_state(self):
        line = [start([chip()], state=0), state(), state()]
        for mode in (0, 1, 0, 0, 0, 1, 0, 0, 1, 1):
            line += clocks([mode]) + [state()]
        self.assertEqual(ask(line)[1:3], [0, 0])
        self.assertEqual(ask(line)[4::2], [1, 2, 3, 4, 4, 5, 6, 6, 7, 8])

    def test_asking_changes_nothing(self):
        chips = [chip(cells=[(0, 1), (1, 0)])]
        plain = [start(chips, nets=2)] + instruct(chips, [DRIVE]) + scan_data([1, 0]) + scan_data([0, 1])
        asked = []
        for call in plain:
            asked += [call, state(), net(0), net(1), net(2)]
        self.assertEqual(ask(asked)[0::5], ask(plain))


if __name__ == "__main__":
    unittest.main()
