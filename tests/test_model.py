"""Whole lines of calls, beside a second model of the board.

The model is written otherwise than the program: the chain is one text of bits
that is cut up again, and a net's value is looked up from the document's words.
"""

import random
import unittest

from tests.lines import (
    NEXT, REFUSED,
    ask, chip, clock, instruct, net, nets, random_board, random_instruction, register_width, reset_instruction,
    scan_data, start, state,
)


class Model:
    def __init__(self, chips, more, number):
        self.chips = chips
        self.joined = more["joined"]
        self.held = more["held"]
        self.number = number
        self.codes = [reset_instruction(one) for one in chips]
        self.texts = ["0"] * len(chips)
        self.code_texts = ["0" * ir for _, ir, _, _ in chips]
        self.bits = {(c, k): "0" for c, one in enumerate(chips) for k, _ in enumerate(one[3])}

    def value(self, i):
        group = [n for n, least in enumerate(self.joined) if least == self.joined[i]]
        if any(self.held[n] == 1 for n in group):
            return 0
        if any(self.held[n] == 2 for n in group):
            return 1
        for (c, k), bit in self.bits.items():
            net_of_cell, drives = self.chips[c][3][k]
            if drives and self.codes[c] == 0 and net_of_cell in group and bit == "0":
                return 0
        return 1

    def taken(self, c):
        """The chip's register as a text, its highest bit first."""
        ident, _, _, cells = self.chips[c]
        width = register_width(self.chips[c], self.codes[c])
        if self.codes[c] in (0, 1) and cells:
            bits = [self.bits[c, k] if cells[k][1] else str(self.value(cells[k][0])) for k in range(width)]
            return "".join(reversed(bits))
        return f"{ident:032b}" if width == 32 else "0"

    def shifted(self, texts, bit):
        """The texts of the chain when a bit has come in at its beginning, and what goes out at its end."""
        whole = str(bit) + "".join(texts)
        cut = []
        at = 0
        for text in texts:
            cut.append(whole[at:at + len(text)])
            at += len(text)
        return cut, int(whole[-1])

    def clock(self, mode, bit):
        every = range(len(self.chips))
        answer = 1
        if self.number == 0:
            self.codes = [reset_instruction(one) for one in self.chips]
        if self.number == 3:
            self.texts = [self.taken(c) for c in every]
        if self.number == 4:
            self.texts, answer = self.shifted(self.texts, bit)
        if self.number == 8:
            for c, k in list(self.bits):
                if self.codes[c] in (0, 1) and self.chips[c][3][k][1]:
                    self.bits[c, k] = self.texts[c][-1 - k]
        if self.number == 10:
            self.code_texts = ["1".zfill(ir) for _, ir, _, _ in self.chips]
        if self.number == 11:
            self.code_texts, answer = self.shifted(self.code_texts, bit)
        if self.number == 15:
            self.codes = [int(text, 2) for text in self.code_texts]
        self.number = NEXT[self.number][mode]
        return answer


class Lines:
    """A line of calls that grows, and beside it what the model answers."""

    def __init__(self, source):
        self.source = source
        self.line = []
        self.expected = []
        self.begin()

    def begin(self):
        chips, more = random_board(self.source)
        number = self.source.randrange(16)
        self.model = Model(chips, more, number)
        self.add(start(chips, state=number, **more), 0)

    def add(self, call, answer):
        self.line.append(call)
        self.expected.append(answer)

    def clocked(self, call):
        self.add(call, self.model.clock(call[1], call[2]))

    def idle(self):
        for mode in (1, 1, 1, 1, 1, 0):
            self.clocked(clock(mode, self.source.randrange(2)))

    def give_instructions(self):
        self.idle()
        codes = [random_instruction(self.source, ir) for _, ir, _, _ in self.model.chips]
        for call in instruct(self.model.chips, codes):
            self.clocked(call)

    def give_data(self):
        bits = [self.source.randrange(2) for _ in range(self.source.choice((1, 2, 7, 40)))]
        for call in scan_data(bits):
            self.clocked(call)

    def look(self):
        for i in range(len(self.model.joined)):
            self.add(net(i), self.model.value(i))
        self.add(state(), self.model.number)

    def wander(self):
        for _ in range(self.source.randrange(30)):
            self.clocked(clock(self.source.randrange(2), self.source.randrange(2)))

    def ask_wrongly(self):
        wrong = self.source.choice((
            clock(2, 0), clock(0, 2), net(len(self.model.joined)), start([]), start([chip()], state=16),
        ))
        self.add(wrong, REFUSED)


class BesideTheModel(unittest.TestCase):
    def test_random_lines(self):
        for seed in range(80):
            lines = Lines(random.Random(seed))
            source = lines.source
            while len(lines.line) < 600:
                source.choice((
                    lines.give_instructions, lines.give_data, lines.look, lines.wander, lines.ask_wrongly,
                    lines.give_data, lines.look, lines.wander if source.randrange(8) else lines.begin,
                ))()
            with self.subTest(seed):
                self.assertEqual(ask(lines.line), lines.expected)

    def test_the_model_by_hand(self):
        # One driving cell and one reading it: drive, then set 0 and 1 in turn.
        chips = [chip(cells=[(0, 1), (0, 0)])]
        model = Model(chips, {"joined": [0], "held": [0]}, 1)
        line = instruct(chips, [0]) + scan_data([1, 0]) + scan_data([0, 0])
        given = [model.clock(call[1], call[2]) for call in line]
        self.assertEqual(given[4:6], [1, 0])
        self.assertEqual(given[11:13], [0, 0])
        self.assertEqual(given[18:20], [1, 1])
        self.assertEqual(ask([start(chips)] + line + nets(1))[1:], given + [0])


if __name__ == "__main__":
    unittest.main()
