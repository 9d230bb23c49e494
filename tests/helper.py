"""What the tests share: writing calls, reading answers, and one run of a few words of code."""

from wordregs.machine import answers

L, A, E, C, O, ODD, X = 0x8000, 0x4000, 0x2000, 0x1000, 0x0800, 0x0400, 0x0200
EXISTING = 0xFE0F
WORD_EDGES = (0x0000, 0x0001, 0x0002, 0x7FFE, 0x7FFF, 0x8000, 0x8001, 0xFFFE, 0xFFFF, 0x1234, 0xA5C3)
BYTE_EDGES = (0x00, 0x01, 0x02, 0x7E, 0x7F, 0x80, 0x81, 0xFE, 0xFF, 0x34, 0xC5)

RESET = [0]


def set_call(which, value):
    return [1, which, value]


def get_call(which):
    return [2, which]


def run_call(steps, memory):
    return [3, steps, len(memory)] + list(memory)


def split(told):
    """The answers, one list for each call."""
    parts = []
    start = 0
    while start < len(told):
        end = start + 1 + told[start]
        parts.append(told[start + 1:end])
        start = end
    return parts


def ask(*calls):
    return split(answers([number for call in calls for number in call]))


def code(*words):
    return [half for word in words for half in (word >> 8, word & 0xFF)]


def compare_bits(x, y, bits):
    """L, A, E for x compared with y, of numbers with so many bits."""
    def with_sign(value):
        return value - (1 << bits) if value >> (bits - 1) else value
    return (L if x > y else 0) | (A if with_sign(x) > with_sign(y) else 0) | (E if x == y else 0)


class Outcome:
    """The machine and the memory behind one run."""

    def __init__(self, told, memory):
        done, why, follow = told[0][:3]
        rest = told[0][3:]
        assert follow == len(rest)
        self.done = done
        self.why = why
        self.changes = list(zip(rest[0::2], rest[1::2]))
        self.memory = list(memory) + [0] * (65536 - len(memory))
        for place, value in self.changes:
            assert self.memory[place] != value
            self.memory[place] = value
        self.w = told[1][1]
        self.p = told[2][1]
        self.status = told[3][1]

    def byte(self, place):
        return self.memory[place % 65536]

    def word(self, place):
        even = place % 65536 // 2 * 2
        return self.memory[even] * 256 + self.memory[even + 1]

    def reg(self, r, w=None):
        return self.word((self.w if w is None else w) + 2 * r)


def image(places, length=1024):
    """The memory's first bytes, from words by their places."""
    memory = [0] * length
    for place, word in places.items():
        memory[place] = word >> 8
        memory[place + 1] = word & 0xFF
    return memory


def run_words(words, regs=None, places=None, steps=1, w=0x0200, p=0x0100, status=0):
    """Runs the words, which stand at p; regs are registers by number, places other words by place."""
    put = {}
    for r, value in (regs or {}).items():
        put[(w + 2 * r) % 65536] = value
    put.update(places or {})
    for k, word in enumerate(words):
        put[(p + 2 * k) % 65536] = word
    memory = image(put)
    told = ask(RESET, set_call(0, w), set_call(1, p), set_call(2, status), run_call(steps, memory),
               get_call(0), get_call(1), get_call(2))
    return Outcome(told[4:], memory)
