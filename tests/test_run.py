"""Point 3: how many steps, why it stops, and what is told of the memory."""

import unittest

from tests.helper import EXISTING, RESET, ask, code, get_call, run_call, run_words, set_call

ALL = (get_call(0), get_call(1), get_call(2))
STAY = 0x10FF
NEXT = 0x1000
IDLE = 0x0340


class Steps(unittest.TestCase):
    def test_refused(self):
        memory = code(0x02E0, 0x0300)
        for steps in (-1, -2, -1000000, 1000001, 2147483647, -2147483648):
            told = ask(RESET, set_call(0, 0x1234), set_call(1, 0x0002), set_call(2, 0x8401), run_call(steps, memory),
                       *ALL)
            self.assertEqual(told[4], [-2], steps)
            self.assertEqual(told[5:], [[0, 0x1234], [0, 0x0002], [0, 0x8401]], steps)

    def test_none(self):
        for first in (NEXT, 0x0000, 0x3000, IDLE, 0x0481):
            told = ask(RESET, run_call(0, code(first)), *ALL)
            self.assertEqual(told[1:], [[0, 0, 0], [0, 0], [0, 0], [0, 0]])

    def test_most(self):
        self.assertEqual(ask(RESET, run_call(1000000, code(STAY)))[1], [1000000, 0, 0])

    def test_over_in_the_midst(self):
        memory = code(0x0580, 0x0580, 0x0580, 0x0580, 0x0000)
        for steps in range(5):
            told = ask(RESET, set_call(0, 0x0100), run_call(steps, memory), get_call(1))
            changes = [2, 0x0101, steps] if steps else [0]
            self.assertEqual(told[2], [steps, 0] + changes)
            self.assertEqual(told[3], [0, 2 * steps])

    def test_over_is_looked_at_first(self):
        for last in (0x0000, 0x3000, 0x0480, IDLE):
            told = ask(RESET, set_call(0, 0x0100), run_call(2, code(NEXT, NEXT, last)), get_call(1))
            self.assertEqual(told[2:], [[2, 0, 0], [0, 4]], hex(last))


class Why(unittest.TestCase):
    def stop(self, last, steps):
        """Two steps, then the word; R1 points at words that no run may touch."""
        return run_words([NEXT, NEXT, last, NEXT], regs={1: 0x0300, 2: 0x0480}, places={0x0300: 0}, steps=steps,
                         status=0xFFFF)

    def check_not_done(self, last, why):
        for steps in (3, 4, 1000000):
            got = self.stop(last, steps)
            self.assertEqual((got.done, got.why, got.changes), (2, why, []), hex(last))
            self.assertEqual((got.w, got.p, got.status), (0x0200, 0x0104, EXISTING), hex(last))

    def test_1_no_such_instruction(self):
        for last in (0x0000, 0x01FF, 0x0210, 0x0C00, 0x0780, 0x0FFF, 0x02E1, 0x0341):
            self.check_not_done(last, 1)

    def test_2_for_the_outside(self):
        for last in (0x3000, 0x33B1, 0x3431, 0x37FF, 0x1D00, 0x1EFF, 0x1FFF, 0x0360, 0x03A0, 0x03C0, 0x03E0):
            self.check_not_done(last, 2)

    def test_4_done_by_itself(self):
        self.check_not_done(0x0482, 4)

    def test_3_idles_and_that_is_counted(self):
        for steps in (3, 4, 1000000):
            got = self.stop(IDLE, steps)
            self.assertEqual((got.done, got.why, got.changes), (3, 3, []))
            self.assertEqual((got.w, got.p, got.status), (0x0200, 0x0106, EXISTING))

    def test_0_steps_are_over(self):
        got = self.stop(NEXT, 3)
        self.assertEqual((got.done, got.why, got.p), (3, 0, 0x0106))

    def test_at_the_first_instruction(self):
        self.assertEqual(ask(RESET, run_call(5, code(0x0000)))[1], [0, 1, 0])
        self.assertEqual(ask(RESET, run_call(5, code(0x3000)))[1], [0, 2, 0])
        self.assertEqual(ask(RESET, run_call(5, code(IDLE)))[1], [1, 3, 0])
        self.assertEqual(ask(RESET, set_call(0, 0x0100), run_call(5, code(0x04A0, 0)))[2], [0, 4, 0])

    def test_empty_memory_has_no_instruction(self):
        self.assertEqual(ask(RESET, run_call(5, []))[1], [0, 1, 0])

    def test_behind_idling_it_goes_on(self):
        memory = code(IDLE, NEXT, IDLE)
        told = ask(RESET, run_call(9, memory), run_call(9, memory), get_call(1))
        self.assertEqual(told[1:], [[1, 3, 0], [2, 3, 0], [0, 6]])

    def test_stopped_it_stays_there(self):
        memory = code(NEXT, 0x0000)
        told = ask(RESET, run_call(9, memory), run_call(9, memory), get_call(1))
        self.assertEqual(told[1:], [[1, 1, 0], [0, 1, 0], [0, 2]])


class Told(unittest.TestCase):
    def test_in_order_of_places_not_of_time(self):
        # MOV R1, at 0300, then at 0200, then at 8000.
        memory = code(0xC801, 0x0300, 0xC801, 0x0200, 0xC801, 0x8000) + [0] * 246 + code(0, 0x1234)
        told = ask(RESET, set_call(0, 0x0102), run_call(3, memory))
        self.assertEqual(memory[0x0104:0x0106], [0x12, 0x34])
        self.assertEqual(told[2], [3, 0, 12, 0x0200, 0x12, 0x0201, 0x34, 0x0300, 0x12, 0x0301, 0x34, 0x8000, 0x12,
                                   0x8001, 0x34])

    def test_one_byte_of_a_word(self):
        for new, changes in ((0x1235, [(0x0203, 0x35)]), (0x1334, [(0x0202, 0x13)]), (0x1234, []),
                             (0x3412, [(0x0202, 0x34), (0x0203, 0x12)])):
            got = run_words([0x0201, new], regs={1: 0x1234})
            self.assertEqual(got.changes, changes, hex(new))

    def test_changed_back_is_not_told(self):
        # INC R1, DEC R1, INC R2.
        got = run_words([0x0581, 0x0601, 0x0582], regs={1: 0x00FF, 2: 0x00FF}, steps=3)
        self.assertEqual(got.changes, [(0x0204, 0x01), (0x0205, 0x00)])
        got = run_words([0x0581, 0x0601, 0x0582], regs={1: 0x00FF, 2: 0x00FF}, steps=1)
        self.assertEqual(got.changes, [(0x0202, 0x01), (0x0203, 0x00)])

    def test_behind_what_was_handed_in(self):
        self.assertEqual(ask(RESET, set_call(0, 0xFFE0), run_call(1, code(0x070F)))[2],
                         [1, 0, 4, 0xFFFE, 0xFF, 0xFFFF, 0xFF])

    def test_first_and_last_bytes(self):
        # SETO R0 with its register at place 0 (its own code), and at the last word.
        self.assertEqual(ask(RESET, run_call(1, code(0x0700)))[1], [1, 0, 4, 0, 0xFF, 1, 0xFF])
        self.assertEqual(ask(RESET, set_call(0, 0xFFFE), run_call(1, code(0x0700)))[2],
                         [1, 0, 4, 0xFFFE, 0xFF, 0xFFFF, 0xFF])

    def test_changed_before_it_stops(self):
        told = ask(RESET, set_call(0, 0x0100), run_call(9, code(0x0580, 0x0000)))
        self.assertEqual(told[2], [1, 1, 2, 0x0101, 1])

    def test_odd_length_of_memory(self):
        # The last byte handed in is the higher half of a word: SETO is 07 00.
        self.assertEqual(ask(RESET, set_call(0, 0x0100), run_call(1, [0x07]))[2],
                         [1, 0, 4, 0x0100, 0xFF, 0x0101, 0xFF])

    def test_whole_length_of_memory(self):
        memory = [0] * 1022 + code(0x0700)
        told = ask(RESET, set_call(0, 0x0400), set_call(1, 1022), run_call(1, memory))
        self.assertEqual(told[3], [1, 0, 4, 0x0400, 0xFF, 0x0401, 0xFF])

    def test_every_byte_behind_what_was_handed_in(self):
        # SETO *R1+ and a jump back to it, from 0400 on till R1 has gone round.
        got = run_words([0x0731, 0x10FE], regs={1: 0x0400}, steps=64512)
        self.assertEqual((got.done, got.why), (64512, 0))
        self.assertEqual(got.changes, [(0x0202, 0)] + [(place, 0xFF) for place in range(0x0400, 0x10000)])


class FromRunToRun(unittest.TestCase):
    def test_memory_is_told_anew(self):
        first = code(0x0720, 0x0300)
        told = ask(RESET, set_call(0, 0x0200), run_call(1, first), set_call(1, 0), run_call(1, code(0xC020, 0x0300)))
        self.assertEqual(told[2], [1, 0, 4, 0x0300, 0xFF, 0x0301, 0xFF])
        self.assertEqual(told[4], [1, 0, 0])

    def test_memory_of_a_shorter_run_is_0_behind_it(self):
        told = ask(RESET, run_call(0, code(NEXT, NEXT, NEXT)), run_call(9, code(NEXT)))
        self.assertEqual(told[2], [1, 1, 0])

    def test_all_else_stays(self):
        first = code(0x02E0, 0x0300, 0x0300, 0x0009, 0x0201, 0x8000)
        second = [0] * 12 + code(0x02C2, 0x02A3)
        told = ask(RESET, run_call(3, first), *ALL, run_call(2, second))
        self.assertEqual(told[2:5], [[0, 0x0300], [0, 12], [0, 0x8009]])
        self.assertEqual(told[5], [2, 0, 6, 0x0304, 0x80, 0x0305, 0x09, 0x0306, 0x03])

    def test_split_runs_are_one_run(self):
        memory = code(NEXT, 0x0460, 0x0000)
        together = ask(RESET, run_call(5, memory), *ALL)
        apart = ask(RESET, run_call(2, memory), run_call(0, memory), run_call(3, memory), *ALL)
        self.assertEqual(together[2:], apart[4:])

    def test_place_goes_round(self):
        # LI R15 puts an instruction at FFFE, and a branch goes there.
        got = run_words([0x020F, NEXT, 0x0460, 0xFFFE], w=0xFFE0, steps=3)
        self.assertEqual((got.done, got.why, got.p), (3, 0, 0x0000))

    def test_passed_word_goes_round(self):
        # LI R15 puts LI R1 at FFFE: the word that it passes stands at 0.
        got = run_words([0x020F, 0x0201, 0x0460, 0xFFFE], places={0: 0x4321}, w=0xFFE0, steps=3)
        self.assertEqual((got.done, got.why, got.p, got.reg(1)), (3, 0, 0x0002, 0x4321))


if __name__ == "__main__":
    unittest.main()
