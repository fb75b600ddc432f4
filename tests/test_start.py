"""Point 1: start."""

import unittest

from tests.lines import (
    DRIVE, IDENTIFY, LOOK, REFUSED,
    ask, ask_behind, bits_of, chip, clock, clocks, data_out, instruct, net, nets, scan_data, start, state,
)

ONE = [chip()]
MOST = 2 ** 32 - 1


def cells(count):
    return [(0, k % 2) for k in range(count)]


# Each ground for a refusal by itself: a name, what is refused, and what at the same edge is accepted.
EDGES = [
    ("no chips", start([]), start(ONE)),
    ("nine chips", start(ONE * 9), start(ONE * 8)),
    ("ir 0", start([chip(ir=0)]), start([chip(ir=2)])),
    ("ir 1", start([chip(ir=1)]), start([chip(ir=2)])),
    ("ir 33", start([chip(ir=33)]), start([chip(ir=32)])),
    ("ir at its most", start([chip(ir=MOST)]), start([chip(ir=32)])),
    ("ir 1 of the last chip", start(ONE * 7 + [chip(ir=1)]), start(ONE * 7 + [chip(ir=2)])),
    ("ir 33 of a middle chip", start(ONE + [chip(ir=33)] + ONE), start(ONE + [chip(ir=32)] + ONE)),
    ("65 cells", start([chip(cells=cells(65))]), start([chip(cells=cells(64))])),
    ("70 cells", start([chip(cells=cells(70))]), start([chip(cells=cells(64))])),
    ("65 cells of the last chip", start(ONE + [chip(cells=cells(65))]), start([chip(cells=cells(64))] * 8)),
    ("no nets", start(ONE, nets=0), start(ONE, nets=1)),
    ("65 nets", start(ONE, nets=65), start(ONE, nets=64)),
    ("nets at their most", start(ONE, nets=MOST), start(ONE, nets=64)),
    ("a cell at nets", start([chip(cells=[(1, 0)])], nets=1), start([chip(cells=[(0, 0)])], nets=1)),
    ("a driving cell at nets", start([chip(cells=[(3, 1)])], nets=3), start([chip(cells=[(2, 1)])], nets=3)),
    ("a cell at 64", start([chip(cells=[(64, 1)])], nets=64), start([chip(cells=[(63, 1)])], nets=64)),
    ("a cell at 127", start([chip(cells=[(127, 0)])], nets=64), start([chip(cells=[(63, 0)])], nets=64)),
    (
        "the last cell of the last chip",
        start([chip(cells=[(0, 1)]), chip(cells=[(0, 0), (5, 0)])], nets=5),
        start([chip(cells=[(0, 1)]), chip(cells=[(0, 0), (4, 0)])], nets=5),
    ),
    ("joined above", start(ONE, nets=2, joined=[1, 1]), start(ONE, nets=2, joined=[0, 1])),
    ("joined above nets", start(ONE, nets=2, joined=[0, 2]), start(ONE, nets=2, joined=[0, 0])),
    ("joined 255", start(ONE, nets=2, joined=[0, 255]), start(ONE, nets=2, joined=[0, 0])),
    ("the only net joined above", start(ONE, joined=[1]), start(ONE, joined=[0])),
    ("joined in two steps", start(ONE, nets=3, joined=[0, 0, 1]), start(ONE, nets=3, joined=[0, 0, 0])),
    (
        "the last net joined in two steps",
        start(ONE, nets=64, joined=list(range(62)) + [61, 62]),
        start(ONE, nets=64, joined=list(range(62)) + [61, 61]),
    ),
    ("held 3", start(ONE, held=[3]), start(ONE, held=[2])),
    ("held 255", start(ONE, held=[255]), start(ONE, held=[1])),
    ("the last net held 3", start(ONE, nets=64, held=[0] * 63 + [3]), start(ONE, nets=64, held=[0] * 63 + [2])),
    ("state 16", start(ONE, state=16), start(ONE, state=15)),
    ("state at its most", start(ONE, state=MOST), start(ONE, state=0)),
]

# Nets 0 and 1 are driven with 1 and 0, net 2 is joined to 1, net 3 is held at 0.
CHIPS = [chip(5, 2, 1, [(0, 1), (1, 1), (2, 0)]), chip(0, 3, 0, [(3, 0)])]
FIRST = start(CHIPS, nets=5, joined=[0, 1, 1, 3, 4], held=[0, 0, 0, 1, 0])
USED = [FIRST] + instruct(CHIPS, [DRIVE, LOOK]) + scan_data([1, 1, 0, 1])
# Everything that can be told of a board: nets, registers, instructions.
LOOK_ROUND = nets(6) + [state()] + [clock(0, 1)] * 9 + clocks([1] * 5) + nets(5)
LOOK_ROUND += clocks([0]) + scan_data([1] * 40) + nets(5) + [state()]


class Refused(unittest.TestCase):
    def test_each_ground_at_its_edge(self):
        for name, refused, accepted in EDGES:
            with self.subTest(name):
                self.assertEqual(ask([refused]), [REFUSED])
                self.assertEqual(ask([accepted]), [0])

    def test_a_board_may_be_started_behind_refusals(self):
        line = [refused for _, refused, _ in EDGES] + [start(ONE, state=7), state()]
        self.assertEqual(ask(line), [REFUSED] * len(EDGES) + [0, 7])

    def test_several_grounds_at_once(self):
        self.assertEqual(ask([start([], nets=0, state=16)]), [REFUSED])
        self.assertEqual(ask([start([chip(ir=1, cells=cells(65))] * 9, nets=65, state=99)]), [REFUSED])

    def test_all_stays_as_it_was_in_idle(self):
        expected = ask_behind(USED, LOOK_ROUND)
        for name, refused, _ in EDGES:
            with self.subTest(name):
                self.assertEqual(ask_behind(USED + [refused], LOOK_ROUND), expected)

    def test_all_stays_as_it_was_within_a_shift(self):
        for way in ([1, 0, 0, 0, 0], [1, 1, 0, 0, 0, 0]):
            line = USED + clocks(way, 1)
            expected = ask_behind(line, LOOK_ROUND)
            for name, refused, _ in EDGES:
                with self.subTest(name, way=way):
                    self.assertEqual(ask_behind(line + [refused], LOOK_ROUND), expected)


class Accepted(unittest.TestCase):
    def test_in_each_state(self):
        for number in range(16):
            with self.subTest(number):
                self.assertEqual(ask([start(ONE, state=number), state()]), [0, number])

    def test_ids_and_widths_are_free(self):
        chips = [chip(MOST, 32, 1), chip(0, 2, 1), chip(MOST, 17, 0)]
        self.assertEqual(ask([start(chips)]), [0])

    def test_the_register_to_be_shifted_is_one_bit_0(self):
        chips = [chip(MOST, 2, 1, [(0, 1)] * 3), chip(0, 5, 0, [(0, 0)] * 4), chip(MOST, 32, 1)]
        line = [start(chips, state=4)]
        self.assertEqual(ask_behind(line, [clock(0, 1)] * 5), [0, 0, 0, 1, 1])

    def test_the_instruction_to_be_shifted_is_0(self):
        chips = [chip(MOST, 2, 1), chip(0, 5, 0)]
        line = [start(chips, state=11)]
        self.assertEqual(ask_behind(line, [clock(0, 1)] * 9), [0] * 7 + [1, 1])

    def test_set_at_once_the_instruction_is_drive_and_the_bits_0(self):
        line = [start([chip(9, 2, 1, [(0, 1)])], nets=2, state=15)]
        self.assertEqual(ask_behind(line, nets(2) + [clock(0)] + nets(2)), [1, 1, 1, 0, 1])

    def test_the_instruction_is_as_in_a_reset(self):
        with_id = [start([chip(0xCAFE0123, 4, 1, [(0, 1), (0, 0)])])]
        self.assertEqual(data_out(with_id, [0] * 33), bits_of(0xCAFE0123, 32) + [0])
        without = [start([chip(MOST, 4, 0, [(0, 1), (0, 0)])])]
        self.assertEqual(data_out(without, [1, 1, 1]), [0, 1, 1])

    def test_the_least_instruction_without_id_drives_and_looks_at_nothing(self):
        without = [start([chip(MOST, 2, 0, [(0, 1), (0, 0), (0, 0)])])]
        self.assertEqual(ask_behind(without, [net(0)]), [1])
        self.assertEqual(data_out(without, [1, 0, 1, 1]), [0, 1, 0, 1])

    def test_64_cells_of_each_of_8_chips(self):
        chips = [chip(k, 2, 0, [(n, (n + k) % 2) for n in range(64)]) for k in range(8)]
        line = [start(chips, nets=64)] + instruct(chips, [LOOK] * 8)
        out = data_out(line, [0] * 512)
        self.assertEqual(out, [1 - (n + k) % 2 for k in reversed(range(8)) for n in range(64)])


class StartedAgain(unittest.TestCase):
    def test_everything_is_new(self):
        for number in range(16):
            again = start([chip(3, 3, 1, [(0, 1), (1, 0)])], nets=2, state=number)
            with self.subTest(number):
                self.assertEqual(ask_behind(USED, [again, state()]), [0, number])
                self.assertEqual(ask_behind(USED + [again], LOOK_ROUND), ask_behind([again], LOOK_ROUND))

    def test_the_same_board_again(self):
        again = USED + [FIRST]
        self.assertEqual(ask_behind(again, nets(5)), [1, 1, 1, 0, 1])
        self.assertEqual(ask_behind(again, LOOK_ROUND), ask_behind([FIRST], LOOK_ROUND))
        # The bits of its driving cells are 0 again: both nets go to 0 when they are driven.
        driving = again + instruct(CHIPS, [DRIVE, IDENTIFY])
        self.assertEqual(ask_behind(driving, nets(5)), [0, 0, 0, 0, 1])

    def test_more_and_fewer_nets(self):
        line = [start(ONE, nets=3), net(2), start(ONE, nets=1), net(0), net(1), start(ONE, nets=64), net(63)]
        self.assertEqual(ask(line), [0, 1, 0, 1, REFUSED, 0, 1])

    def test_registers_of_before_are_gone(self):
        line = [start(ONE, state=4), clock(0, 1), start(ONE, state=4)]
        self.assertEqual(ask_behind(line, [clock(0), clock(0)]), [0, 0])
        line = [start(ONE, state=11), clock(0, 1), clock(0, 1), start(ONE, state=11)]
        self.assertEqual(ask_behind(line, [clock(0), clock(0)]), [0, 0])


if __name__ == "__main__":
    unittest.main()
