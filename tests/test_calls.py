"""Points 1 and 2, and how calls and answers are written."""

import unittest

from tests.helper import EXISTING, RESET, ask, code, get_call, run_call, set_call
from wordregs.machine import answers

ALL = (get_call(0), get_call(1), get_call(2))


class Reset(unittest.TestCase):
    def test_first(self):
        self.assertEqual(ask(RESET, *ALL), [[0], [0, 0], [0, 0], [0, 0]])

    def test_alone(self):
        self.assertEqual(answers([0]), [1, 0])

    def test_again_behind_set(self):
        told = ask(RESET, set_call(0, 0x1234), set_call(1, 0x5678), set_call(2, 0xFFFF), *ALL, RESET, *ALL)
        self.assertEqual(told[4:7], [[0, 0x1234], [0, 0x5678], [0, EXISTING]])
        self.assertEqual(told[7:], [[0], [0, 0], [0, 0], [0, 0]])

    def test_again_behind_run(self):
        memory = code(0x02E0, 0x0300, 0x0201, 0x0005)
        told = ask(RESET, run_call(2, memory), *ALL, RESET, *ALL)
        self.assertEqual(told[2:5], [[0, 0x0300], [0, 8], [0, 0xC000]])
        self.assertEqual(told[5:], [[0], [0, 0], [0, 0], [0, 0]])


class SetAndGet(unittest.TestCase):
    def after(self, which, value):
        told = ask(RESET, set_call(which, value), *ALL)
        self.assertEqual(told[1], [0])
        return [part[1] for part in told[2:]]

    def test_workspace_is_even_and_of_16_bits(self):
        for value, kept in ((0, 0), (1, 0), (0x0101, 0x0100), (0xFFFF, 0xFFFE), (0x10000, 0), (0x12345, 0x2344),
                            (0xFFFFFFFF, 0xFFFE), (0xABCD0002, 0x0002)):
            self.assertEqual(self.after(0, value), [kept, 0, 0], hex(value))

    def test_place_is_even_and_of_16_bits(self):
        for value, kept in ((0, 0), (1, 0), (0x0101, 0x0100), (0xFFFF, 0xFFFE), (0x10000, 0), (0x12345, 0x2344),
                            (0xFFFFFFFF, 0xFFFE), (0xABCD0002, 0x0002)):
            self.assertEqual(self.after(1, value), [0, kept, 0], hex(value))

    def test_status_has_only_its_bits(self):
        for value, kept in ((0, 0), (0xFFFF, 0xFE0F), (0x01F0, 0), (0xFE0F, 0xFE0F), (0x10001, 1), (0xFFFFFFFF, 0xFE0F),
                            (0x8000, 0x8000), (0x0200, 0x0200), (0x0100, 0), (0x0010, 0), (0x0008, 0x0008)):
            self.assertEqual(self.after(2, value), [0, 0, kept], hex(value))

    def test_each_bit_of_the_status(self):
        for bit in range(32):
            kept = (1 << bit) & EXISTING
            self.assertEqual(self.after(2, 1 << bit), [0, 0, kept], bit)

    def test_set_becomes_the_value_anew(self):
        told = ask(RESET, set_call(2, 0xFFFF), set_call(2, 0x0400), get_call(2))
        self.assertEqual(told[3], [0, 0x0400])

    def test_no_such_which(self):
        for which in (-1, 3, 4, 13, 256, 65536, -65536, 2147483647, -2147483648):
            told = ask(RESET, set_call(0, 0x1234), set_call(1, 0x5678), set_call(2, 0x8401),
                       set_call(which, 0x4242), get_call(which), *ALL)
            self.assertEqual(told[4], [-2], which)
            self.assertEqual(told[5], [-2], which)
            self.assertEqual(told[6:], [[0, 0x1234], [0, 0x5678], [0, 0x8401]], which)

    def test_get_changes_nothing(self):
        told = ask(RESET, set_call(0, 0x1234), *ALL, *ALL)
        self.assertEqual(told[2:5], told[5:8])


class Written(unittest.TestCase):
    def test_counts_stand_before_answers(self):
        self.assertEqual(answers([0, 1, 0, 7, 2, 0, 2, 9, 1, 9, 0]), [1, 0, 1, 0, 2, 0, 6, 1, -2, 1, -2])

    def test_run_with_nothing_changed(self):
        self.assertEqual(answers([0, 3, 0, 0]), [1, 0, 3, 0, 0, 0])

    def test_run_with_changes(self):
        self.assertEqual(answers([0, 1, 0, 0x100, 3, 1, 4, 2, 1, 0x80, 5]),
                         [1, 0, 1, 0, 7, 1, 0, 4, 0x102, 0x80, 0x103, 5])

    def test_run_refused_passes_its_memory(self):
        self.assertEqual(answers([0, 3, -1, 3, 2, 1, 0, 2, 1]), [1, 0, 1, -2, 2, 0, 0])

    def test_behind_a_run_the_next_call_follows(self):
        self.assertEqual(answers([0, 3, 1, 2, 0x10, 0x01, 2, 1, 0, 2, 1]), [1, 0, 3, 1, 0, 0, 2, 0, 4, 1, 0, 2, 0, 0])

    def test_whole_numbers_are_ints(self):
        told = answers([0, 1, 2, 0xFFFF, 2, 2, 2, 7, 3, 2, 4, 0x02, 0x01, 0x00, 0x07, 2, 2])
        self.assertIs(type(told), list)
        self.assertEqual({type(number) for number in told}, {int})


if __name__ == "__main__":
    unittest.main()
