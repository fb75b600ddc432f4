"""A board: chips on a chain, the nets between them, and the calls on it."""

REFUSED = -22

START = 0
CLOCK = 1
NET = 2

RESET = 0
TAKE_DATA = 3
SHIFT_DATA = 4
SET_DATA = 8
TAKE_INSTRUCTIONS = 10
SHIFT_INSTRUCTIONS = 11
SET_INSTRUCTIONS = 15

# For each state the next one: for mode 0, for mode 1.
NEXT_STATES = (
    (1, 0),
    (1, 2),
    (3, 9),
    (4, 5),
    (4, 5),
    (6, 8),
    (6, 7),
    (4, 8),
    (1, 2),
    (10, 0),
    (11, 12),
    (11, 12),
    (13, 15),
    (13, 14),
    (11, 15),
    (1, 2),
)

DRIVE = 0
LOOK = 1
IDENTIFY = 2

HELD_AT_0 = 1
HELD_AT_1 = 2

NUMBERS_OF_A_CHIP = 4
NUMBERS_OF_A_CELL = 2
ID_WIDTH = 32

MOST_CHIPS = 8
MOST_CELLS = 64
MOST_NETS = 64
LEAST_INSTRUCTION_WIDTH = 2
MOST_INSTRUCTION_WIDTH = 32


# The lowest bits of a number, bit 0 first.
def bits_of(number, width):
    return [(number >> k) & 1 for k in range(width)]


# The number that has these bits, bit 0 first.
def number_of(bits):
    number = 0
    for bit in reversed(bits):
        number = 2 * number + bit
    return number


# A chip: its cells, its instruction, and the bits that are to be shifted.
class Chip:
    def __init__(self, ident, width, has_id, cells):
        self.ident = ident
        self.width = width
        self.has_id = has_id
        self.cell_nets = cells[0::NUMBERS_OF_A_CELL]
        self.cell_drives = cells[1::NUMBERS_OF_A_CELL]
        self.cell_bits = [0] * len(self.cell_nets)
        self.data = [0]
        self.new_instruction = [0] * width
        self.instruction = self.reset_instruction()

    def reset_instruction(self):
        if self.has_id == 1:
            return IDENTIFY
        return (1 << self.width) - 1

    def reset(self):
        self.instruction = self.reset_instruction()

    def take_data(self, levels):
        if self.instruction in (DRIVE, LOOK) and len(self.cell_nets) > 0:
            self.data = self.seen_by_cells(levels)
        elif self.instruction == IDENTIFY and self.has_id == 1:
            self.data = bits_of(self.ident, ID_WIDTH)
        else:
            self.data = [0]

    def seen_by_cells(self, levels):
        seen = []
        for cell, net in enumerate(self.cell_nets):
            if self.cell_drives[cell] == 1:
                seen.append(self.cell_bits[cell])
            else:
                seen.append(levels[net])
        return seen

    def shift_data(self, coming):
        leaving = self.data[0]
        self.data = self.data[1:] + [coming]
        return leaving

    def set_data(self):
        # With these two instructions, and no others, the data is the cells'.
        if self.instruction not in (DRIVE, LOOK):
            return
        for cell, drives in enumerate(self.cell_drives):
            if drives == 1:
                self.cell_bits[cell] = self.data[cell]

    def take_instruction(self):
        self.new_instruction = bits_of(1, self.width)

    def shift_instruction(self, coming):
        leaving = self.new_instruction[0]
        self.new_instruction = self.new_instruction[1:] + [coming]
        return leaving

    def set_instruction(self):
        self.instruction = number_of(self.new_instruction)

    def nets_driven_to_0(self):
        if self.instruction != DRIVE:
            return []
        driven = []
        for cell, net in enumerate(self.cell_nets):
            if self.cell_drives[cell] == 1 and self.cell_bits[cell] == 0:
                driven.append(net)
        return driven


def nets_are_wrong(nets, joined, held):
    if nets < 1 or nets > MOST_NETS:
        return True
    for net in range(nets):
        # Asked first: what is not above the net can be looked up in the next question.
        if joined[net] > net:
            return True
        if joined[joined[net]] != joined[net]:
            return True
        if held[net] > HELD_AT_1:
            return True
    return False


def chips_are_wrong(chips):
    many = len(chips) // NUMBERS_OF_A_CHIP
    if many < 1 or many > MOST_CHIPS:
        return True
    for at in range(0, len(chips), NUMBERS_OF_A_CHIP):
        width = chips[at + 1]
        if width < LEAST_INSTRUCTION_WIDTH or width > MOST_INSTRUCTION_WIDTH:
            return True
        if chips[at + 3] > MOST_CELLS:
            return True
    return False


def cells_are_wrong(cells, nets):
    for net in cells[0::NUMBERS_OF_A_CELL]:
        if net >= nets:
            return True
    return False


def made_chips(chips, cells):
    made = []
    first = 0
    for at in range(0, len(chips), NUMBERS_OF_A_CHIP):
        behind = first + NUMBERS_OF_A_CELL * chips[at + 3]
        made.append(Chip(chips[at], chips[at + 1], chips[at + 2], cells[first:behind]))
        first = behind
    return made


# A board: it is empty until a start is accepted.
class Board:
    def __init__(self):
        self.state = RESET
        self.chips = []
        self.joined = []
        self.held = []

    def start(self, nets, state, chips, cells, joined, held):
        if state >= len(NEXT_STATES) or nets_are_wrong(nets, joined, held):
            return REFUSED
        if chips_are_wrong(chips) or cells_are_wrong(cells, nets):
            return REFUSED
        self.state = state
        self.chips = made_chips(chips, cells)
        self.joined = joined
        self.held = held
        return 0

    def clock(self, mode, coming):
        if mode > 1 or coming > 1:
            return REFUSED
        answer = 1
        if self.state == SHIFT_DATA:
            answer = self.shift_data(coming)
        elif self.state == SHIFT_INSTRUCTIONS:
            answer = self.shift_instructions(coming)
        elif self.state == TAKE_DATA:
            self.take_data()
        else:
            self.act_on_each_chip()
        self.state = NEXT_STATES[self.state][mode]
        return answer

    def act_on_each_chip(self):
        for chip in self.chips:
            if self.state == RESET:
                chip.reset()
            elif self.state == SET_DATA:
                chip.set_data()
            elif self.state == TAKE_INSTRUCTIONS:
                chip.take_instruction()
            elif self.state == SET_INSTRUCTIONS:
                chip.set_instruction()

    def take_data(self):
        levels = self.levels()
        for chip in self.chips:
            chip.take_data(levels)

    def shift_data(self, coming):
        passing = coming
        for chip in self.chips:
            passing = chip.shift_data(passing)
        return passing

    def shift_instructions(self, coming):
        passing = coming
        for chip in self.chips:
            passing = chip.shift_instruction(passing)
        return passing

    # The value of each net.
    def levels(self):
        of_group = [1] * len(self.joined)
        for chip in self.chips:
            for net in chip.nets_driven_to_0():
                of_group[self.joined[net]] = 0
        # A held net outdoes the cells, and held at 0 outdoes held at 1: so this order.
        for level, mark in ((1, HELD_AT_1), (0, HELD_AT_0)):
            for net, held in enumerate(self.held):
                if held == mark:
                    of_group[self.joined[net]] = level
        return [of_group[group] for group in self.joined]

    def net(self, wanted):
        if wanted >= len(self.joined):
            return REFUSED
        return self.levels()[wanted]


# Goes through the numbers of a list of calls, once.
class Reader:
    def __init__(self, calls):
        self.calls = calls
        self.place = 0

    def at_end(self):
        return self.place >= len(self.calls)

    def take_number(self):
        self.place += 1
        return self.calls[self.place - 1]

    def take_row(self):
        first = self.place + 1
        self.place = first + self.calls[self.place]
        return self.calls[first:self.place]


def answer_start(board, reader):
    nets = reader.take_number()
    state = reader.take_number()
    chips = reader.take_row()
    cells = reader.take_row()
    joined = reader.take_row()
    held = reader.take_row()
    return board.start(nets, state, chips, cells, joined, held)


def answer_clock(board, reader):
    mode = reader.take_number()
    coming = reader.take_number()
    return board.clock(mode, coming)


def answer_call(board, reader):
    call = reader.take_number()
    if call == START:
        return answer_start(board, reader)
    if call == CLOCK:
        return answer_clock(board, reader)
    if call == NET:
        return board.net(reader.take_number())
    return board.state


# What a new board answers to these calls: for each call a 1, then the number.
def answers(calls):
    board = Board()
    reader = Reader(calls)
    given = []
    while not reader.at_end():
        given.append(1)
        given.append(answer_call(board, reader))
    return given
