"""The instructions with a general operand s: 4000 on, 2000 to 3FFF, and 0400 to 077F but for its number 2."""

from wordregs.processor import CARRY, EQUAL, EXTENDED, ODD, OVERFLOW, signed


def has_odd_ones(word):
    """A half that is laid on the other one by exclusive-or leaves odd odd and even even, down to one bit."""
    half = word ^ (word >> 8)
    half = half ^ (half >> 4)
    half = half ^ (half >> 2)
    half = half ^ (half >> 1)
    return half & 1 == 1


def combined(cpu, number, d, s):
    """What is put at d, by the instruction's bits 15 to 13."""
    if number == 2:
        return cpu.compared(d & (s ^ 0xFFFF))
    if number == 3:
        return cpu.difference_of(d, s)
    if number == 5:
        return cpu.sum_of(d, s)
    if number == 6:
        return cpu.compared(s)
    return cpu.compared(d | s)


def do_two_operands(cpu, word):
    """4000 on."""
    number = word >> 13
    size = 1 if word & 0x1000 else 2
    s = cpu.value_at(cpu.operand_place(word, size), size)
    place = cpu.operand_place(word >> 6, size)
    d = cpu.value_at(place, size)
    if number == 4:
        result = s
        cpu.compare(s, d)
    else:
        result = combined(cpu, number, d, s)
        cpu.put_value(place, result, size)
    if size == 1:
        cpu.put_status_bit(ODD, has_odd_ones(result))


def multiply(cpu, r, s):
    product = cpu.in_register(r) * s
    cpu.put_register(r, product >> 16)
    cpu.put_register(r + 1, product)


def divide(cpu, r, s):
    higher = cpu.in_register(r)
    cpu.put_status_bit(OVERFLOW, s <= higher)
    if s > higher:
        number = (higher << 16) | cpu.in_register(r + 1)
        cpu.put_register(r, number // s)
        cpu.put_register(r + 1, number % s)


def extend(cpu, r, place):
    cpu.switch_by(0x40 + 4 * r)
    cpu.put_register(11, place)
    cpu.put_status_bit(EXTENDED, True)


def do_with_register(cpu, word):
    """2000 to 3FFF, but for what is for the outside."""
    number = (word >> 10) & 7
    r = (word >> 6) & 15
    place = cpu.operand_place(word, 2)
    s = cpu.word_at(place)
    if number == 0:
        cpu.put_status_bit(EQUAL, cpu.in_register(r) & s == s)
    elif number == 1:
        cpu.put_status_bit(EQUAL, cpu.in_register(r) & s == 0)
    elif number == 2:
        cpu.put_register(r, cpu.compared(cpu.in_register(r) ^ s))
    elif number == 3:
        extend(cpu, r, place)
    elif number == 6:
        multiply(cpu, r, s)
    else:
        divide(cpu, r, s)


def negative_of(cpu, value):
    cpu.put_status_bit(CARRY, value == 0)
    cpu.put_status_bit(OVERFLOW, value == 0x8000)
    return cpu.compared((0 - value) & 0xFFFF)


def size_of(cpu, value):
    cpu.compare(value, 0)
    cpu.put_status_bit(CARRY, False)
    cpu.put_status_bit(OVERFLOW, value == 0x8000)
    return abs(signed(value))


def changed(cpu, number, value):
    """What s becomes, by the instruction's bits 9 to 6."""
    if number == 3:
        return 0
    if number == 4:
        return negative_of(cpu, value)
    if number == 5:
        return cpu.compared(value ^ 0xFFFF)
    if number == 6 or number == 7:
        return cpu.sum_of(value, number - 5)
    if number == 8 or number == 9:
        return cpu.difference_of(value, number - 7)
    if number == 11:
        return (value >> 8) | (value << 8)
    if number == 12:
        return 0xFFFF
    return size_of(cpu, value)


def do_with_one_operand(cpu, word):
    """0400 to 077F, but for number 2."""
    number = (word >> 6) & 15
    place = cpu.operand_place(word, 2)
    if number == 0:
        cpu.switch_by(place)
    elif number == 1:
        cpu.go_to(place)
    elif number == 10:
        cpu.put_register(11, cpu.next_place)
        cpu.go_to(place)
    else:
        cpu.put_word(place, changed(cpu, number, cpu.word_at(place)))
