"""The interface: one list goes in, one list comes back, and nothing else happens."""

import contextlib
import io
import unittest

import chipchain.board
from chipchain.board import answers
from tests.lines import (
    DRIVE, LOOK, REFUSED, ask, chip, clock, clocks, flat, instruct, net, nets, scan_data, start, state,
)

CHIPS = [chip(77, 2, 1, [(0, 1), (1, 0)]), chip(0, 32, 0, [(1, 1)])]
LINE = [start(CHIPS, nets=3, joined=[0, 1, 0]), start([]), clock(2), net(3)]
LINE += instruct(CHIPS, [DRIVE, LOOK]) + nets(3) + scan_data([1, 0, 1]) + nets(3) + [state()]


def refuse(*arguments, **more):
    raise AssertionError("what is handed in was changed")


class Untouched(list):
    """A list that tells at once when it is changed."""

    append = extend = insert = pop = remove = clear = sort = reverse = refuse
    __setitem__ = __delitem__ = __iadd__ = __imul__ = refuse


class Form(unittest.TestCase):
    def test_how_calls_and_answers_stand_in_their_lists(self):
        calls = [
            0, 2, 15, 8, 9, 2, 1, 1, 9, 3, 0, 2, 6, 0, 1, 1, 1, 1, 0, 2, 0, 1, 2, 0, 2,
            2, 0, 2, 1, 1, 0, 0, 2, 0, 2, 1, 2, 2, 3, 1, 0, 2, 3,
        ]
        given = answers(calls)
        self.assertEqual(given, [1, 0, 1, 1, 1, 1, 1, 1, 1, 0, 1, 1, 1, REFUSED, 1, 1, 1, REFUSED, 1, 1])
        self.assertIs(type(given), list)
        self.assertEqual([type(number) for number in given], [int] * len(given))

    def test_empty_rows(self):
        self.assertEqual(answers([0, 0, 0, 0, 0, 0, 0]), [1, REFUSED])
        self.assertEqual(answers([0, 65, 0, 4, 0, 2, 0, 0, 0, 0, 0]), [1, REFUSED])
        self.assertEqual(answers([0, 2 ** 32 - 1, 2 ** 32 - 1, 0, 0, 0, 0, 0, 1, 0, 4, 0, 2, 0, 0, 0, 1, 0, 1, 0, 3]), [
            1, REFUSED, 1, 0, 1, 0,
        ])

    def test_the_first_call_alone(self):
        self.assertEqual(answers([0, 1, 1, 4, 0, 2, 0, 0, 0, 1, 0, 1, 0]), [1, 0])

    def test_the_name_and_the_argument(self):
        self.assertIs(chipchain.board.answers, answers)
        self.assertEqual(answers(calls=flat(LINE)), answers(flat(LINE)))


class NothingElse(unittest.TestCase):
    def test_what_is_handed_in_stays(self):
        calls = flat(LINE)
        kept = list(calls)
        answers(calls)
        self.assertEqual(calls, kept)

    def test_what_is_handed_in_is_not_changed_for_a_while_either(self):
        calls = Untouched(flat(LINE))
        self.assertEqual(answers(calls), answers(flat(LINE)))

    def test_what_is_given_back_is_a_list_of_its_own(self):
        calls = flat(LINE)
        first = answers(calls)
        kept = list(first)
        first.append(5)
        first[0] = 9
        self.assertEqual(answers(calls), kept)

    def test_twice_the_same(self):
        calls = flat(LINE)
        self.assertEqual(answers(calls), answers(calls))

    def test_nothing_is_kept_from_one_time_to_the_next(self):
        expected = answers(flat(LINE))
        others = [start(CHIPS, nets=3, state=15, held=[1, 1, 1])] + clocks([0, 1, 0, 0, 0, 0], 1)
        for end in range(1, len(others) + 1):
            answers(flat(others[:end]))
            self.assertEqual(answers(flat(LINE)), expected)

    def test_it_prints_nothing(self):
        out = io.StringIO()
        with contextlib.redirect_stdout(out), contextlib.redirect_stderr(out):
            answers(flat(LINE))
        self.assertEqual(out.getvalue(), "")


class Long(unittest.TestCase):
    def test_2000_clocks(self):
        bits = [k * k % 7 % 2 for k in range(1999)]
        given = ask([start([chip()] * 3, state=4)] + [clock(0, bit) for bit in bits])
        self.assertEqual(given, [0] + ([0] * 3 + bits)[:1999])

    def test_2000_calls_of_all_kinds(self):
        line = list(LINE)
        while len(line) < 2000:
            line += [clock(len(line) % 3 % 2, len(line) % 2), net(len(line) % 5), state()]
        line = line[:2000]
        given = ask(line)
        self.assertEqual(len(given), 2000)
        self.assertEqual(given[:len(LINE)], ask(LINE))

    def test_2000_calls_on_the_largest_board(self):
        chips = [chip(k, 32, 1, [(n, 1) for n in range(64)]) for k in range(8)]
        line = [start(chips, nets=64, state=15), clock(0)]
        line += [net(n % 64) for n in range(998)] + [clock(1 - n % 2) for n in range(1000)]
        given = ask(line)
        self.assertEqual(given[2:1000], [0] * 998)

    def test_31000_numbers(self):
        chips = [chip(k, 32, 1, [(n % 64, 1) for n in range(70)]) for k in range(9)]
        refused = start(chips, nets=64)
        last = [start(chips[:1], nets=64), start(CHIPS, nets=3, state=3), state()]
        many = (31000 - len(flat(last))) // len(refused)
        self.assertEqual(ask([refused] * many + last), [REFUSED] * (many + 1) + [0, 3])


if __name__ == "__main__":
    unittest.main()
