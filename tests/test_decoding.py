"""Which words are instructions, which are for the outside, which are none."""

import unittest

from tests.helper import A, C, E, L, ODD, RESET, ask, code, get_call, run_call, run_words

OUTSIDE_WORDS = (0x0360, 0x03A0, 0x03C0, 0x03E0)
INSTRUCTIONS = (
    (0x0200, 0x020F), (0x0220, 0x022F), (0x0240, 0x024F), (0x0260, 0x026F), (0x0280, 0x028F), (0x02A0, 0x02AF),
    (0x02C0, 0x02CF), (0x02E0, 0x02E0), (0x0300, 0x0300), (0x0340, 0x0340), (0x0380, 0x0380), (0x0400, 0x047F),
    (0x04C0, 0x077F), (0x0800, 0x0BFF), (0x1000, 0x1CFF), (0x2000, 0x2FFF), (0x3800, 0xFFFF),
)


def expected_why(word):
    if any(first <= word <= last for first, last in INSTRUCTIONS):
        return 3 if word == 0x0340 else 0
    if word in OUTSIDE_WORDS or 0x3000 <= word <= 0x37FF or 0x1D00 <= word <= 0x1FFF:
        return 2
    return 1


class Decoding(unittest.TestCase):
    def check(self, words):
        """One step on each word, in lists of a hundred."""
        for start in range(0, len(words), 100):
            some = words[start:start + 100]
            told = ask(*[call for word in some for call in (RESET, run_call(1, code(word)), get_call(1))])
            for k, word in enumerate(some):
                answer, place = told[3 * k + 1], told[3 * k + 2]
                why = expected_why(word)
                self.assertEqual(answer[:2], [0 if why in (1, 2) else 1, why], hex(word))
                if why in (1, 2):
                    self.assertEqual((answer, place), ([0, why, 0], [0, 0]), hex(word))

    def test_below_4000(self):
        self.check([word for word in range(0x4000) if not 0x0480 <= word <= 0x04BF])

    def test_4000_on(self):
        self.check(list(range(0x4000, 0x10000, 13)) + [0xFFFF])


class Borders(unittest.TestCase):
    """The first and the last word of each group do what their group does."""

    def test_0400_and_077f(self):
        got = run_words([0x0400], regs={0: 0x0340, 1: 0x0380})
        self.assertEqual((got.w, got.p, got.reg(13)), (0x0340, 0x0380, 0x0200))
        got = run_words([0x077F], regs={15: 0x0300}, places={0x0300: 0xFFFF})
        self.assertEqual((got.word(0x0300), got.reg(15), got.status), (1, 0x0302, L))

    def test_0800_and_0bff(self):
        got = run_words([0x0800], regs={0: 0x8004})
        self.assertEqual((got.reg(0), got.status), (0xF800, L))
        got = run_words([0x0BFF], regs={15: 0x4001})
        self.assertEqual((got.reg(15), got.status), (0x8002, L | C))

    def test_1000_and_1cff(self):
        self.assertEqual(run_words([0x1000]).p, 0x0102)
        self.assertEqual(run_words([0x1CFF], status=ODD).p, 0x0100)

    def test_2000_and_2fff(self):
        got = run_words([0x2000])
        self.assertEqual((got.status, got.p, got.changes), (E, 0x0102, []))
        got = run_words([0x2FFF], regs={15: 0x0301}, places={0x7C: 0x0340, 0x7E: 0x0380})
        self.assertEqual((got.w, got.p, got.reg(11), got.word(0x021E)), (0x0340, 0x0380, 0x0301, 0x0303))

    def test_3800_and_3fff(self):
        got = run_words([0x3800], regs={0: 0x0100})
        self.assertEqual((got.reg(0), got.reg(1)), (1, 0))
        got = run_words([0x3FFF], regs={15: 0x0300}, places={0x0300: 0x0400, 0x0220: 0x0005})
        self.assertEqual((got.word(0x021E), got.word(0x0220)), (0x03020005 // 0x0400, 0x03020005 % 0x0400))

    def test_4000_and_ffff(self):
        got = run_words([0x4000], regs={0: 0x1234})
        self.assertEqual((got.reg(0), got.status), (0, E))
        got = run_words([0xFFFF], regs={15: 0x0300}, places={0x0300: 0x0106})
        self.assertEqual((got.word(0x0300), got.reg(15), got.status), (0x0107, 0x0302, L | A | ODD))


if __name__ == "__main__":
    unittest.main()
