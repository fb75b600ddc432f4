"""What holds, a to d."""

import random
import unittest

from tests.lines import (
    LOOK,
    ask, ask_behind, bits_of, chip, clock, clocks, instruct, nets, random_board, random_instruction,
    register_width, reset_instruction, scan_data, shifts, start, state,
)


def random_boards(seed, count):
    source = random.Random(seed)
    return [(source, *random_board(source)) for _ in range(count)]


def random_bits(source, count):
    return [source.randrange(2) for _ in range(count)]


def random_line(source, chips, more):
    """From a start in any state, a walk of instructions, data and single clocks."""
    line = [start(chips, state=source.randrange(16), **more)]
    for _ in range(4):
        line += clocks([1] * 5) + [clock(0)]
        line += instruct(chips, [random_instruction(source, ir) for _, ir, _, _ in chips])
        line += scan_data(random_bits(source, source.choice((1, 2, 5, 20))))
        line += [clock(source.randrange(2), source.randrange(2)) for _ in range(source.randrange(20))]
    return line


def random_wait(source):
    """From a state right behind a shift, back to the shift."""
    return clocks([0] * source.randrange(1, 4) + [1, 0], source.randrange(2))


class FiveOnes(unittest.TestCase):
    def test_from_each_state(self):
        for number in range(16):
            for bit in (0, 1):
                with self.subTest(number, bit=bit):
                    line = [start([chip()], state=number)] + clocks([1] * 5, bit) + [state()]
                    self.assertEqual(ask(line)[-1], 0)

    def test_four_are_too_few_from_where_it_is_farthest(self):
        for number in (3, 4, 6, 10, 11, 13):
            line = [start([chip()], state=number)] + clocks([1] * 4) + [state()]
            self.assertEqual(ask(line)[-1], 9)

    def test_behind_any_walk(self):
        for source, chips, more in random_boards(1, 30):
            line = random_line(source, chips, more) + clocks([1] * 5, source.randrange(2))
            self.assertEqual(ask_behind(line, [state()]), [0])


class InAndOut(unittest.TestCase):
    def check(self, source, line, width):
        """Bits go in with waits between them; each comes out width clocks later."""
        coming = random_bits(source, 2 * width + 5)
        leaving = []
        at = 0
        while at < len(coming):
            step = source.randrange(1, 40)
            part = shifts(coming[at:at + step])
            leaving += ask_behind(line, part)
            line = line + part + random_wait(source)
            at += step
        self.assertEqual(leaving[width:], coming[:len(coming) - width])
        self.assertEqual(len(leaving), len(coming))

    def test_registers(self):
        for source, chips, more in random_boards(2, 40):
            given = [random_instruction(source, ir) for _, ir, _, _ in chips]
            width = sum(register_width(one, code) for one, code in zip(chips, given))
            line = [start(chips, **more)] + instruct(chips, given) + clocks([1, 0, 0])
            with self.subTest(chips=chips, given=given):
                self.check(source, line, width)

    def test_registers_behind_a_reset(self):
        for source, chips, more in random_boards(3, 20):
            width = sum(register_width(one, reset_instruction(one)) for one in chips)
            line = random_line(source, chips, more) + clocks([1] * 6 + [0, 1, 0, 0])
            with self.subTest(chips=chips):
                self.check(source, line, width)

    def test_instructions(self):
        for source, chips, more in random_boards(4, 30):
            line = random_line(source, chips, more) + clocks([1] * 5 + [0, 1, 1, 0, 0])
            with self.subTest(chips=chips):
                self.check(source, line, sum(ir for _, ir, _, _ in chips))

    def test_the_most_bits(self):
        chips = [chip(cells=[(n, 1) for n in range(64)])] * 8
        line = [start(chips, nets=64)] + instruct(chips, [LOOK] * 8) + clocks([1, 0, 0])
        coming = bits_of(0xFEDCBA9876543210, 64)
        out = ask_behind(line, [clock(0, b) for b in coming + [0] * 512])
        self.assertEqual(out, [0] * 512 + coming)


class LookingDisturbsNothing(unittest.TestCase):
    def test_no_net_changes_while_no_chip_drives(self):
        for source, chips, more in random_boards(5, 30):
            count = more["nets"]
            line = [start(chips, **more)]
            steps = []
            for _ in range(3):
                codes = [random_instruction(source, ir) or LOOK for _, ir, _, _ in chips]
                steps += instruct(chips, codes) + scan_data(random_bits(source, 12)) + scan_data(random_bits(source, 5))
            steps += clocks([1] * 6)
            asked = line + nets(count)
            for step in steps:
                asked += [step] + nets(count)
            given = ask(asked)
            first = given[1:1 + count]
            for at in range(1, len(given), count + 1):
                self.assertEqual(given[at:at + count], first)


class SetAtOnce(unittest.TestCase):
    def test_nets_change_in_states_8_15_and_0_alone(self):
        changed_in = []
        for source, chips, more in random_boards(6, 60):
            count = more["nets"]
            line = random_line(source, chips, more)
            asked = []
            for call in line:
                asked += [call, state()] + nets(count)
            given = ask(asked)
            size = count + 2
            views = [given[at:at + size] for at in range(0, len(given), size)]
            for before, behind in zip(views, views[1:]):
                if before[2:] != behind[2:]:
                    self.assertIn(before[1], (0, 8, 15))
                    changed_in.append(before[1])
        self.assertEqual(sorted(set(changed_in)), [0, 8, 15])

    def test_all_bits_change_in_one_clock(self):
        chips = [chip(cells=[(0, 1), (1, 1)]), chip(cells=[(2, 1)]), chip(cells=[(3, 1), (0, 0)])]
        line = [start(chips, nets=4)] + instruct(chips, [0, 0, 0])
        steps = scan_data([1] * 5)
        asked = []
        for step in steps:
            asked += [step] + nets(4)
        given = ask_behind(line, asked)
        views = [given[at + 1:at + 5] for at in range(0, len(given), 5)]
        self.assertEqual(views, [[0] * 4] * (len(steps) - 1) + [[1] * 4])


if __name__ == "__main__":
    unittest.main()
