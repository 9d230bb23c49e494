"""1000 to 1CFF: which jumps are taken, and where they go."""

import unittest

from tests.helper import RESET, ask, code, get_call, run_call, set_call


def taken(number, flags):
    l, a, e, c, o, odd = flags
    return (True, not a and not e, not l or e, e, l or e, a, not e, not c, c, not o, not l and not e, l and not e,
            odd)[number]


class Taken(unittest.TestCase):
    def test_each_with_every_status(self):
        for number in range(13):
            memory = code(0x1000 | number << 8 | 0x10)
            for high in range(128):
                status = high << 9 | 0x0005
                flags = [bool(status & 1 << bit) for bit in (15, 14, 13, 12, 11, 10)]
                told = ask(RESET, set_call(2, status), run_call(1, memory), get_call(1), get_call(2))
                self.assertEqual(told[2], [1, 0, 0])
                self.assertEqual(told[3], [0, 0x22 if taken(number, flags) else 2], (number, hex(status)))
                self.assertEqual(told[4], [0, status])


class Target(unittest.TestCase):
    def goes_to(self, place, low):
        memory = [0] * place + code(0x1000 | low)
        return ask(RESET, set_call(1, place), run_call(1, memory), get_call(1))[3][1]

    def test_with_its_sign(self):
        for low, target in ((0x00, 0x0202), (0x01, 0x0204), (0x7F, 0x0300), (0x80, 0x0102), (0xFF, 0x0200),
                            (0xFE, 0x01FE)):
            self.assertEqual(self.goes_to(0x0200, low), target, hex(low))

    def test_goes_round_below(self):
        self.assertEqual(self.goes_to(0, 0xFE), 0xFFFE)
        self.assertEqual(self.goes_to(0, 0x80), 0xFF02)

    def test_goes_round_above(self):
        # LI R15 puts the jump at FFFE.
        memory = code(0x020F, 0x1002, 0x0460, 0xFFFE)
        told = ask(RESET, set_call(0, 0xFFE0), run_call(3, memory), get_call(1))
        self.assertEqual(told[3], [0, 4])

    def test_not_taken_is_done_too(self):
        told = ask(RESET, run_call(1, code(0x1380)), get_call(1))
        self.assertEqual(told[1:], [[1, 0, 0], [0, 2]])


if __name__ == "__main__":
    unittest.main()
