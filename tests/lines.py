"""Writes lines of calls, and asks them.

A call is a list of whole numbers, a line is a list of calls. A chip is a tuple
(id, ir, has_id, cells), and its cells are a list of (net, drives).
"""

from chipchain.board import answers

REFUSED = -22

NEXT = {
    0: (1, 0), 1: (1, 2), 2: (3, 9), 3: (4, 5), 4: (4, 5), 5: (6, 8), 6: (6, 7), 7: (4, 8),
    8: (1, 2), 9: (10, 0), 10: (11, 12), 11: (11, 12), 12: (13, 15), 13: (13, 14), 14: (11, 15), 15: (1, 2),
}

DRIVE = 0
LOOK = 1
IDENTIFY = 2


def chip(ident=0, ir=2, has_id=0, cells=()):
    return (ident, ir, has_id, list(cells))


def row(numbers):
    return [len(numbers)] + list(numbers)


def start(chips, nets=1, state=1, joined=None, held=None):
    """A start; joined and held are given as whole lists, or are those of free nets."""
    free = nets if nets <= 64 else 0
    joined = list(range(free)) if joined is None else joined
    held = [0] * free if held is None else held
    chip_numbers = []
    cell_numbers = []
    for ident, ir, has_id, cells in chips:
        chip_numbers += [ident, ir, has_id, len(cells)]
        for net_of_cell, drives in cells:
            cell_numbers += [net_of_cell, drives]
    return [0, nets, state] + row(chip_numbers) + row(cell_numbers) + row(joined) + row(held)


def clock(mode, bit=0):
    return [1, mode, bit]


def clocks(modes, bit=0):
    return [clock(mode, bit) for mode in modes]


def net(i):
    return [2, i]


def nets(count):
    return [net(i) for i in range(count)]


def state():
    return [3]


def bits_of(number, width):
    return [(number >> k) & 1 for k in range(width)]


def flat(line):
    return [number for call in line for number in call]


def ask(line):
    """The answers to a line, one for each call."""
    given = answers(flat(line))
    if len(given) != 2 * len(line) or given[0::2] != [1] * len(line):
        raise AssertionError(f"not one number a call: {given}")
    for number in given:
        if type(number) is not int:
            raise AssertionError(f"not a whole number: {number!r}")
    return given[1::2]


def ask_behind(line, more):
    """The answers to the calls of more, behind those of line."""
    return ask(line + more)[len(line):]


def shifts(bits):
    """Shifts these bits in, the first one first, and leaves the shifting with the last."""
    return [clock(0, bit) for bit in bits[:-1]] + [clock(1, bits[-1])]


def scan_data(bits):
    """From idle to idle: takes the registers, shifts these bits in, and sets."""
    return clocks([1, 0, 0]) + shifts(bits) + clocks([1, 0])


def scan_instructions(bits):
    """From idle to idle: takes the instructions, shifts these bits in, and sets."""
    return clocks([1, 1, 0, 0]) + shifts(bits) + clocks([1, 0])


def along_chain(numbers, widths):
    """The bits to be shifted in so that each chip ends with its number."""
    bits = []
    for number, width in reversed(list(zip(numbers, widths))):
        bits += bits_of(number, width)
    return bits


def instruct(chips, instructions):
    """From idle to idle: gives each chip its instruction."""
    return scan_instructions(along_chain(instructions, [ir for _, ir, _, _ in chips]))


def data_out(line, bits):
    """What goes out of the board while these bits are shifted into the registers."""
    return ask_behind(line, scan_data(bits))[3:3 + len(bits)]


def instructions_out(line, bits):
    """What goes out of the board while these bits are shifted into the instructions."""
    return ask_behind(line, scan_instructions(bits))[4:4 + len(bits)]


def register_width(one, instruction):
    _, _, has_id, cells = one
    if instruction in (DRIVE, LOOK) and cells:
        return len(cells)
    return 32 if instruction == IDENTIFY and has_id else 1


def reset_instruction(one):
    _, ir, has_id, _ = one
    return IDENTIFY if has_id else 2 ** ir - 1


def random_chip(random, net_count):
    cells = [(random.randrange(net_count), random.randrange(2)) for _ in range(random.choice((0, 1, 2, 3, 5, 9)))]
    return chip(random.randrange(2 ** 32), random.choice((2, 2, 3, 5, 32)), random.randrange(2), cells)


def random_joined(random, net_count):
    joined = []
    for i in range(net_count):
        groups = [k for k in range(i) if joined[k] == k]
        joined.append(random.choice(groups) if groups and random.randrange(3) == 0 else i)
    return joined


def random_board(random):
    """The chips, and what else a start that is accepted takes."""
    net_count = random.choice((1, 2, 4, 9))
    chips = [random_chip(random, net_count) for _ in range(random.choice((1, 1, 2, 3, 8)))]
    more = {
        "nets": net_count,
        "joined": random_joined(random, net_count),
        "held": [random.choice((0, 0, 0, 0, 1, 2)) for _ in range(net_count)],
    }
    return chips, more


def random_instruction(random, ir):
    return random.choice((0, 0, 1, 2, 2 ** ir - 1, random.randrange(2 ** ir)))
