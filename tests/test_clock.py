"""Point 2: clock."""

import unittest

from chipchain.board import Chip
from tests.lines import (
    DRIVE, IDENTIFY, LOOK, NEXT, REFUSED,
    along_chain, ask, ask_behind, bits_of, chip, clock, clocks, data_out, instruct, instructions_out, nets,
    scan_data, scan_instructions, shifts, start, state,
)

MOST = 2 ** 32 - 1
DRIVER = [chip(0, 2, 0, [(0, 1)])]
# A chip of each sort: with an id and cells, with neither, with cells alone, with an id alone.
CHAIN = [
    chip(0x80000001, 3, 1, [(0, 1), (1, 0), (2, 1)]),
    chip(0x55555555, 2, 0),
    chip(0x33333333, 32, 0, [(3, 1), (0, 0)]),
    chip(0x12345678, 4, 1),
]


def on(chips, instructions, net_count=4, **more):
    """The line that starts the board and gives each chip its instruction: it is idle then."""
    return [start(chips, nets=net_count, **more)] + instruct(chips, instructions)


class Refused(unittest.TestCase):
    def test_mode_and_in_at_their_edges(self):
        line = [start(DRIVER)]
        for mode, bit in ((2, 0), (2, 1), (3, 0), (MOST, 1), (0, 2), (1, 2), (0, 3), (1, MOST), (2, 2), (MOST, MOST)):
            with self.subTest(mode=mode, bit=bit):
                self.assertEqual(ask_behind(line, [clock(mode, bit)]), [REFUSED])
        for mode, bit in ((0, 0), (0, 1), (1, 0), (1, 1)):
            with self.subTest(mode=mode, bit=bit):
                self.assertEqual(ask_behind(line, [clock(mode, bit)]), [1])

    def test_nothing_changes_in_any_state(self):
        rest = nets(4) + [state()] + clocks([0, 0, 0, 1, 1, 0]) + nets(4) + scan_data([1] * 9) + nets(4) + [state()]
        for number in range(16):
            line = [start(CHAIN, nets=4, state=number)]
            expected = ask_behind(line, rest)
            for wrong in (clock(2, 0), clock(2, 1), clock(0, 2), clock(1, 2), clock(MOST, MOST)):
                with self.subTest(number, wrong=wrong):
                    self.assertEqual(ask_behind(line + [wrong], rest), expected)

    def test_nothing_is_done_in_the_states_that_do_something(self):
        driving = on(CHAIN, [DRIVE, 3, DRIVE, IDENTIFY])
        ways = {
            0: [1, 1, 1], 3: [1, 0], 4: [1, 0, 0, 0], 8: [1, 0, 0, 0, 1, 1],
            10: [1, 1, 0], 11: [1, 1, 0, 0, 0], 15: [1, 1, 0, 0, 0, 1, 1],
        }
        rest = nets(4) + [clock(0, 1)] * 8 + nets(4) + clocks([1] * 6) + nets(4)
        for number, way in ways.items():
            line = driving + clocks(way, 1)
            self.assertEqual(ask_behind(line, [state()]), [number])
            for wrong in (clock(2, 0), clock(0, 2)):
                with self.subTest(number, wrong=wrong):
                    self.assertEqual(ask_behind(line + [wrong], nets(4)), ask_behind(line, nets(4)))
                    self.assertEqual(ask_behind(line + [wrong], rest), ask_behind(line, rest))


class States(unittest.TestCase):
    def test_the_next_one(self):
        for number in range(16):
            for mode in (0, 1):
                for bit in (0, 1):
                    with self.subTest(number, mode=mode, bit=bit):
                        line = [start(DRIVER, state=number), clock(mode, bit), state()]
                        self.assertEqual(ask(line)[2], NEXT[number][mode])

    def test_the_answer_is_1_but_where_it_is_shifted(self):
        for number in range(16):
            for mode in (0, 1):
                for bit in (0, 1):
                    with self.subTest(number, mode=mode, bit=bit):
                        expected = 0 if number in (4, 11) else 1
                        self.assertEqual(ask_behind([start(DRIVER, state=number)], [clock(mode, bit)]), [expected])

    def test_the_answer_is_what_went_out_where_it_is_shifted(self):
        bits = [1, 1, 0, 1, 0]
        for number, width in ((4, 1), (11, 2)):
            line = [start(DRIVER, state=number)]
            with self.subTest(number):
                self.assertEqual(ask_behind(line, [clock(0, b) for b in bits]), ([0] * width + bits)[:5])

    def test_the_last_shift_answers_too(self):
        self.assertEqual(ask([start(DRIVER, state=4), clock(0, 1), clock(1, 0), state()]), [0, 0, 1, 5])


class Reset(unittest.TestCase):
    def test_it_is_done_in_state_0_not_on_the_way_there(self):
        line = on(DRIVER, [DRIVE], 1) + clocks([1, 1, 1])
        self.assertEqual(ask_behind(line, [state()] + nets(1)), [0, 0])
        for mode in (0, 1):
            self.assertEqual(ask_behind(line + [clock(mode)], [state()] + nets(1)), [NEXT[0][mode], 1])

    def test_with_an_id_it_is_2(self):
        chips = [chip(0xA5A50F01, 2, 1, [(0, 1)])]
        line = on(chips, [LOOK]) + clocks([1, 1, 1, 0])
        self.assertEqual(data_out(line, [1] * 34), bits_of(0xA5A50F01, 32) + [1, 1])

    def test_without_an_id_it_is_all_ones(self):
        for ir in (2, 3, 32):
            chips = [chip(MOST, ir, 0, [(0, 1), (0, 0), (0, 0)])]
            for before in (DRIVE, LOOK):
                line = on(chips, [before]) + clocks([1, 1, 1, 0])
                with self.subTest(ir=ir, before=before):
                    self.assertEqual(data_out(line, [1, 1, 0, 1]), [0, 1, 1, 0])
                    self.assertEqual(ask_behind(line, nets(1)), [1])

    def test_all_ones_of_just_as_many_bits_as_the_instruction_has(self):
        # No answer tells all ones from another instruction that is in no list: so the chip itself is asked.
        for ir in (2, 3, 31, 32):
            one = Chip(0, ir, 0, [])
            self.assertEqual(one.instruction, 2 ** ir - 1)
            one.set_instruction()
            self.assertEqual(one.instruction, 0)
            one.reset()
            self.assertEqual(one.instruction, 2 ** ir - 1)

    def test_each_chip_is_reset(self):
        line = on(CHAIN, [DRIVE, DRIVE, DRIVE, DRIVE]) + clocks([1, 1, 1, 0])
        out = data_out(line, [0] * 67)
        expected = bits_of(0x12345678, 32) + [0, 0] + bits_of(0x80000001, 32) + [0]
        self.assertEqual(out, expected)

    def test_the_bits_of_cells_stay(self):
        line = on(DRIVER, [DRIVE], 1) + scan_data([1]) + clocks([1, 1, 1, 0])
        self.assertEqual(ask_behind(line + instruct(DRIVER, [DRIVE]), nets(1)), [1])


class TakeRegisters(unittest.TestCase):
    def test_driving_cells_give_their_bits_and_reading_ones_their_nets(self):
        cells = [(0, 1), (1, 0), (2, 1), (3, 0), (0, 0), (2, 0)]
        chips = [chip(0, 2, 0, cells)]
        line = on(chips, [LOOK], held=[0, 1, 0, 0]) + scan_data([0, 1, 1, 0, 1, 0])
        # Nobody drives yet: nets 0, 2 and 3 are 1, net 1 is held at 0.
        self.assertEqual(data_out(line, [0] * 6), [0, 0, 1, 1, 1, 1])
        # Driven: net 0 with 0, net 2 with 1.
        self.assertEqual(data_out(line + instruct(chips, [DRIVE]), [0] * 6), [0, 0, 1, 1, 0, 1])

    def test_a_driving_cell_gives_its_bit_though_the_net_is_held_otherwise(self):
        chips = [chip(0, 2, 0, [(0, 1), (0, 0)])]
        line = on(chips, [DRIVE], 1, held=[1]) + scan_data([1, 0])
        self.assertEqual(data_out(line, [0, 0]), [1, 0])
        line = on(chips, [DRIVE], 1, held=[2])
        self.assertEqual(data_out(line, [0, 0]), [0, 1])

    def test_reading_cells_see_what_other_chips_drive(self):
        chips = [chip(0, 2, 0, [(0, 1), (1, 1)]), chip(0, 2, 0, [(0, 0), (1, 0), (2, 0), (3, 0)])]
        line = on(chips, [DRIVE, LOOK], joined=[0, 1, 0, 1]) + scan_data([0] * 4 + [0, 1])
        self.assertEqual(data_out(line, [0] * 6), [0, 1, 0, 1, 0, 1])

    def test_the_id_for_instruction_2(self):
        for ident in (0, 1, 0x80000000, MOST, 0x12345678):
            line = on([chip(ident, 5, 1, [(0, 0)])], [IDENTIFY])
            with self.subTest(ident):
                self.assertEqual(data_out(line, [1] * 33), bits_of(ident, 32) + [1])

    def test_one_bit_where_there_is_nothing_else(self):
        for name, one, instruction in (
            ("drive, no cells", chip(MOST, 2, 1), DRIVE),
            ("look, no cells", chip(MOST, 2, 1), LOOK),
            ("no id", chip(MOST, 2, 0, [(0, 0), (0, 1)]), IDENTIFY),
            ("neither", chip(MOST, 2, 0), IDENTIFY),
            ("in no list", chip(MOST, 2, 1, [(0, 0), (0, 1)]), 3),
            ("in no list, 32 bits", chip(MOST, 32, 1, [(0, 0), (0, 1)]), 0x80000000),
            ("look with a high bit", chip(MOST, 32, 1, [(0, 0), (0, 1)]), 0x80000001),
            ("the id with a high bit", chip(MOST, 32, 1, [(0, 0), (0, 1)]), 0x80000002),
            ("all ones", chip(MOST, 32, 1, [(0, 0), (0, 1)]), MOST),
        ):
            line = on([one], [instruction])
            with self.subTest(name):
                self.assertEqual(data_out(line, [1, 1, 0, 1]), [0, 1, 1, 0])

    def test_one_bit_is_taken_anew_as_0(self):
        line = on([chip()], [3]) + scan_data([1])
        self.assertEqual(data_out(line, [1]), [0])

    def test_it_is_taken_when_leaving_state_3_by_either_way(self):
        line = on([chip(1, 2, 1)], [IDENTIFY])
        straight = line + clocks([1, 0, 0])
        around = line + clocks([1, 0, 1, 0, 1, 0])
        for before in (straight, around):
            self.assertEqual(ask_behind(before, [state()] + [clock(0)] * 3), [4, 1, 0, 0])


class TakeInstructions(unittest.TestCase):
    def test_each_is_taken_as_1(self):
        expected = []
        for _, ir, _, _ in reversed(CHAIN):
            expected += bits_of(1, ir)
        self.assertEqual(instructions_out([start(CHAIN, nets=4)], [0] * 41), expected)
        self.assertEqual(instructions_out(on(CHAIN, [5, 3, MOST, 9]), [1] * 41), expected)

    def test_not_shifted_it_becomes_look(self):
        chips = [chip(MOST, 2, 1, [(0, 0), (0, 0), (0, 1)])]
        line = [start(chips)] + clocks([1, 1, 0, 1, 1, 0])
        self.assertEqual(ask_behind(line, [state()]), [1])
        self.assertEqual(data_out(line, [0] * 4), [1, 1, 0, 0])


class Shift(unittest.TestCase):
    def test_registers_pass_from_chip_to_chip(self):
        chips = [chip(0x01234567, 2, 1), chip(0x89ABCDEF, 3, 1), chip(0xF0E1D2C3, 4, 1)]
        out = data_out([start(chips)], bits_of(0xFEEDBEEF, 32) + [0] * 96)
        expected = []
        for ident in (0xF0E1D2C3, 0x89ABCDEF, 0x01234567, 0xFEEDBEEF):
            expected += bits_of(ident, 32)
        self.assertEqual(out, expected)

    def test_registers_of_several_widths(self):
        line = on(CHAIN, [LOOK, IDENTIFY, LOOK, IDENTIFY], held=[1, 0, 0, 0])
        out = data_out(line, [1, 1, 0] + [0] * 38)
        # Chip 3: its id; chip 2: its bit 0, net 0; chip 1: one bit; chip 0: 0, net 1, 0.
        self.assertEqual(out, bits_of(0x12345678, 32) + [0, 0] + [0] + [0, 1, 0] + [1, 1, 0])

    def test_one_bit_registers_pass_one_by_one(self):
        line = [start([chip()] * 8, state=4)]
        bits = [1, 0, 1, 1, 0, 0, 1, 0, 1]
        self.assertEqual(ask_behind(line, [clock(0, b) for b in bits + [0] * 8]), [0] * 8 + bits)

    def test_instructions_pass_from_chip_to_chip(self):
        chips = [chip(ir=2), chip(ir=32), chip(ir=5)]
        bits = [1, 1, 0, 1, 0, 0, 1]
        out = instructions_out([start(chips)], bits + [0] * 39)
        self.assertEqual(out, [1, 0, 0, 0, 0] + [1] + [0] * 31 + [1, 0] + bits)

    def test_each_chip_ends_with_its_own_bits(self):
        chips = [chip(cells=[(0, 1), (1, 1)]), chip(ir=32, cells=[(2, 1)]), chip(ir=3, cells=[(3, 1), (4, 1), (5, 1)])]
        line = on(chips, [DRIVE, DRIVE, DRIVE], 6) + scan_data(along_chain([2, 1, 5], [2, 1, 3]))
        self.assertEqual(ask_behind(line, nets(6)), [0, 1, 1, 1, 0, 1])

    def test_a_shift_of_one_bit(self):
        line = on(DRIVER, [DRIVE], 1)
        self.assertEqual(data_out(line, [1]), [0])
        self.assertEqual(ask_behind(line + scan_data([1]), nets(1)), [1])
        wide = [chip(0, 2, 0, [(0, 1), (1, 1), (2, 1)])]
        line = on(wide, [DRIVE]) + scan_data([0, 1, 1])
        self.assertEqual(ask_behind(line, nets(3)), [0, 1, 1])
        self.assertEqual(ask_behind(line + scan_data([0]), nets(3)), [1, 1, 0])

    def test_a_shift_of_one_instruction_bit(self):
        # Of 01 and a 0 that comes in only 00 is left: drive.
        line = [start(DRIVER)] + scan_instructions([0])
        self.assertEqual(ask_behind(line, nets(1)), [0])
        # Of 01 and a 1 that comes in 10 is left: the id.
        line = [start([chip(MOST, 2, 1)])] + scan_instructions([1])
        self.assertEqual(data_out(line, [0] * 33), [1] * 32 + [0])

    def test_waiting_between_shifts(self):
        for take, begin in (([1, 0, 0], 4), ([1, 1, 0, 0], 11)):
            line = on(CHAIN, [LOOK, 3, DRIVE, IDENTIFY]) + clocks(take)
            bits = [1, 0, 0, 1, 1, 1, 0, 1, 0] * 5 + [1, 1, 0]
            expected = ask_behind(line, [clock(0, b) for b in bits])
            got = []
            waited = line
            for at in range(0, len(bits), 6):
                part = shifts(bits[at:at + 6])
                got += ask_behind(waited, part)
                waited = waited + part + clocks([0] * (1 + at % 4) + [1, 0], 1)
                self.assertEqual(ask_behind(waited, [state()]), [begin])
            self.assertEqual(got, expected)

    def test_in_comes_in_in_the_shifting_states_alone(self):
        line = on(DRIVER, [DRIVE], 1)
        for bit in (0, 1):
            way = clocks([1, 0, 0], 1 - bit) + [clock(1, bit)] + clocks([0, 0, 1, 1, 0], 1 - bit)
            self.assertEqual(ask_behind(line + way, nets(1)), [bit])

    def test_registers_and_instructions_are_not_mixed(self):
        line = [start(DRIVER, state=4)] + [clock(0, 1), clock(1, 1)] + clocks([1, 1, 1, 0, 0])
        self.assertEqual(ask_behind(line, [state()] + [clock(0)] * 3), [11, 1, 0, 0])


class SetRegisters(unittest.TestCase):
    CELLS = [(0, 1), (1, 0), (2, 1), (3, 1)]

    def test_with_drive_and_with_look(self):
        chips = [chip(0, 2, 0, self.CELLS)]
        for instruction in (DRIVE, LOOK):
            line = on(chips, [instruction]) + scan_data([1, 0, 0, 1])
            with self.subTest(instruction):
                self.assertEqual(data_out(line, [0] * 4), [1, 1, 0, 1])
                self.assertEqual(ask_behind(line + instruct(chips, [DRIVE]), nets(4)), [1, 1, 0, 1])

    def test_not_with_others(self):
        for ir, instruction in ((2, IDENTIFY), (2, 3), (5, 16), (32, 0x80000000), (32, MOST)):
            for has_id in (0, 1):
                chips = [chip(MOST, ir, has_id, self.CELLS)]
                line = on(chips, [LOOK]) + scan_data([0, 1, 1, 0])
                line = line + instruct(chips, [instruction]) + scan_data([1] * 32) + instruct(chips, [DRIVE])
                with self.subTest(ir=ir, instruction=instruction, has_id=has_id):
                    self.assertEqual(ask_behind(line, nets(4)), [0, 1, 1, 0])

    def test_reading_cells_drive_nothing(self):
        chips = [chip(0, 2, 0, [(0, 0), (1, 1)])]
        line = on(chips, [DRIVE], 2) + scan_data([0, 1])
        self.assertEqual(ask_behind(line, nets(2)), [1, 1])
        self.assertEqual(data_out(line, [0, 0]), [1, 1])

    def test_not_before_state_8(self):
        line = on(DRIVER, [DRIVE], 1) + clocks([1, 0, 0]) + shifts([1])
        self.assertEqual(ask_behind(line, [state()] + nets(1)), [5, 0])
        line = line + [clock(1)]
        self.assertEqual(ask_behind(line, [state()] + nets(1)), [8, 0])
        for mode in (0, 1):
            self.assertEqual(ask_behind(line + [clock(mode)], [state()] + nets(1)), [NEXT[8][mode], 1])

    def test_without_a_shift_the_bits_stay(self):
        chips = [chip(0, 2, 0, self.CELLS)]
        line = on(chips, [DRIVE]) + scan_data([1, 1, 0, 1]) + clocks([1, 0, 1, 1, 0])
        self.assertEqual(ask_behind(line, [state()] + nets(4)), [1, 1, 1, 0, 1])

    def test_chips_with_other_instructions_keep_theirs(self):
        chips = [chip(cells=[(0, 1)]), chip(cells=[(1, 1)]), chip(cells=[(2, 1)])]
        line = on(chips, [DRIVE, 3, LOOK]) + scan_data([1, 1, 1]) + instruct(chips, [DRIVE] * 3)
        self.assertEqual(ask_behind(line, nets(3)), [1, 0, 1])

    def test_set_by_a_start_in_state_8(self):
        line = [start([chip(MOST, 2, 1, self.CELLS)], nets=4, state=8), clock(0)]
        self.assertEqual(ask_behind(line, [state()] + nets(4)), [1, 1, 1, 1, 1])

    def test_64_cells(self):
        chips = [chip(0, 32, 0, [(n, 1) for n in range(64)])]
        bits = bits_of(0xC3A5_9669_0FF0_1234, 64)
        line = on(chips, [DRIVE], 64) + scan_data(bits)
        self.assertEqual(ask_behind(line, nets(64)), bits)
        self.assertEqual(data_out(line, [0] * 64), bits)


class SetInstructions(unittest.TestCase):
    def test_not_before_state_15(self):
        line = [start(DRIVER)] + clocks([1, 1, 0, 0]) + shifts([0, 0])
        self.assertEqual(ask_behind(line, [state()] + nets(1)), [12, 1])
        line = line + [clock(1)]
        self.assertEqual(ask_behind(line, [state()] + nets(1)), [15, 1])
        for mode in (0, 1):
            self.assertEqual(ask_behind(line + [clock(mode)], [state()] + nets(1)), [NEXT[15][mode], 0])

    def test_each_chip_gets_its_own(self):
        line = on(CHAIN, [IDENTIFY, 0, 1, 15])
        # Chip 3: one bit; chip 2: its bit 0, net 0; chip 1, without cells: one bit; chip 0: its id.
        self.assertEqual(data_out(line, [1] * 37), [0] + [0, 1] + [0] + bits_of(0x80000001, 32) + [1])

    def test_all_bits_count_with_the_least_and_the_most(self):
        for ir in (2, 32):
            for instruction in [0] + [1 << k for k in range(ir)]:
                line = on([chip(0, ir, 0, [(0, 1)])], [instruction], 1)
                with self.subTest(ir=ir, instruction=instruction):
                    self.assertEqual(ask_behind(line, nets(1)), [0 if instruction == 0 else 1])

    def test_bits_are_kept_while_another_instruction_is_there(self):
        line = on(DRIVER, [LOOK], 1) + scan_data([0]) + instruct(DRIVER, [3])
        self.assertEqual(ask_behind(line, nets(1)), [1])
        self.assertEqual(ask_behind(line + instruct(DRIVER, [DRIVE]), nets(1)), [0])


if __name__ == "__main__":
    unittest.main()
