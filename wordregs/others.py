"""The instructions without a general operand: the jumps, the shifts, and those below 0400."""

from wordregs.processor import CARRY, OVERFLOW, fits_with_signs, signed
from wordregs.stops import GOES_ON, IDLES, NO_SUCH, OUTSIDE

# By the jump's number: which bits of the status it looks at, what they are held against, and whether it jumps where
# they are that (or where they are not).
JUMPS = (
    (0x0000, 0x0000, True),   # 0 always
    (0x6000, 0x0000, True),   # 1 not A and not E
    (0xA000, 0x8000, False),  # 2 not L or E
    (0x2000, 0x2000, True),   # 3 E
    (0xA000, 0x0000, False),  # 4 L or E
    (0x4000, 0x4000, True),   # 5 A
    (0x2000, 0x0000, True),   # 6 not E
    (0x1000, 0x0000, True),   # 7 not C
    (0x1000, 0x1000, True),   # 8 C
    (0x0800, 0x0000, True),   # 9 not O
    (0xA000, 0x0000, True),   # A not L and not E
    (0xA000, 0x8000, True),   # B L and not E
    (0x0400, 0x0400, True),   # C odd
)
IMMEDIATE = (0x020, 0x022, 0x024, 0x026, 0x028)
FOR_THE_OUTSIDE = (0x0360, 0x03A0, 0x03C0, 0x03E0)


def do_jump(cpu, word):
    """1000 to 1CFF."""
    row = JUMPS[(word >> 8) & 15]
    if (cpu.status & row[0] == row[1]) == row[2]:
        low = word & 0xFF
        cpu.go_to(cpu.next_place + 2 * (low - 256 if low & 0x80 else low))


def shift_count(cpu, word):
    n = (word >> 4) & 15
    if n == 0:
        n = cpu.in_register(0) & 15
    return 16 if n == 0 else n


def shifted_right(cpu, value, n):
    """With its sign where value is below 0: Python's own shift fills up with it."""
    cpu.put_status_bit(CARRY, (value >> (n - 1)) & 1 == 1)
    return (value >> n) & 0xFFFF


def shifted_left(cpu, value, n):
    # The highest bit stays the same on the whole way just where the number with its sign still fits at the end.
    cpu.put_status_bit(OVERFLOW, not fits_with_signs(signed(value) << n))
    cpu.put_status_bit(CARRY, (value << n) & 0x10000 != 0)
    return (value << n) & 0xFFFF


def do_shift(cpu, word):
    """0800 to 0BFF."""
    kind = (word >> 8) & 3
    r = word & 15
    n = shift_count(cpu, word)
    value = cpu.in_register(r)
    if kind == 0:
        result = shifted_right(cpu, signed(value), n)
    elif kind == 1:
        result = shifted_right(cpu, value, n)
    elif kind == 2:
        result = shifted_left(cpu, value, n)
    else:
        result = shifted_right(cpu, (value << 16) | value, n)
    cpu.put_register(r, cpu.compared(result))


def do_immediate(cpu, kind, r):
    i = cpu.passed_word()
    value = cpu.in_register(r)
    if kind == 0x020:
        cpu.put_register(r, cpu.compared(i))
    elif kind == 0x022:
        cpu.put_register(r, cpu.sum_of(value, i))
    elif kind == 0x024:
        cpu.put_register(r, cpu.compared(value & i))
    elif kind == 0x026:
        cpu.put_register(r, cpu.compared(value | i))
    else:
        cpu.compare(value, i)


def do_control(cpu, word):
    if word == 0x02E0:
        cpu.use_workspace(cpu.passed_word())
    elif word == 0x0300:
        cpu.use_status((cpu.status & 0xFFF0) | (cpu.passed_word() & 15))
    elif word == 0x0380:
        cpu.switch_back()
    elif word == 0x0340:
        return IDLES
    elif word in FOR_THE_OUTSIDE:
        return OUTSIDE
    else:
        return NO_SUCH
    return GOES_ON


def do_below_0400(cpu, word):
    """Answers why it stops, as some of these words are no instructions."""
    kind = word >> 4
    r = word & 15
    if kind in IMMEDIATE:
        do_immediate(cpu, kind, r)
    elif kind == 0x02A:
        cpu.put_register(r, cpu.workspace)
    elif kind == 0x02C:
        cpu.put_register(r, cpu.status)
    else:
        return do_control(cpu, word)
    return GOES_ON
