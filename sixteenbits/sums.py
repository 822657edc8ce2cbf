"""ADC and SBC, binary and by digits of four bits.

A sum or difference is told with one bit more than its numbers have: the carry, or that nothing was borrowed.
"""

from sixteenbits.cpu import CARRY, DECIMAL, NARROW_A, OVERFLOW
from sixteenbits.widths import keep_a, read_number, worked_on_a


def decimal_sum(one, other, carry, bits):
    """Digits of four bits added, the lowest first; above them the last carry."""
    total = 0
    for shift in range(0, bits, 4):
        digit = (one >> shift & 15) + (other >> shift & 15) + carry
        carry = 0
        if digit > 9:
            digit += 6
            carry = 1
        total += (digit & 15) << shift
    return total + (carry << bits)


def decimal_difference(one, other, carry, bits):
    """Digits of four bits taken away, the lowest first; above them 1 if the last one borrowed nothing."""
    total = 0
    for shift in range(0, bits, 4):
        digit = (one >> shift & 15) - (other >> shift & 15) - 1 + carry
        carry = 1
        if digit < 0:
            digit += 10
            carry = 0
        total += (digit & 15) << shift
    return total + (carry << bits)


def keep_total(cpu, total, bits, overflow):
    """A, N, Z and C by a sum or difference; V as told."""
    flags = cpu.flags & ~(OVERFLOW | CARRY) | total >> bits
    cpu.flags = flags | OVERFLOW if overflow else flags
    keep_a(cpu, total)


def adc(cpu, place):
    """A, the number and C added."""
    narrow = cpu.flags & NARROW_A
    bits = 8 if narrow else 16
    one = worked_on_a(cpu)
    other = read_number(cpu, place, narrow)
    carry = cpu.flags & CARRY
    total = one + other + carry
    # V is of the binary sum, whichever sum is kept.
    overflow = ~(one ^ other) & (one ^ total) & (1 << bits - 1)
    if cpu.flags & DECIMAL:
        total = decimal_sum(one, other, carry, bits)
    keep_total(cpu, total, bits, overflow)


def sbc(cpu, place):
    """The number, and 1 more with C 0, taken away from A."""
    narrow = cpu.flags & NARROW_A
    bits = 8 if narrow else 16
    one = worked_on_a(cpu)
    other = read_number(cpu, place, narrow)
    carry = cpu.flags & CARRY
    # With one bit put in above, that bit is left if nothing was borrowed.
    total = (1 << bits) + one - other - 1 + carry
    overflow = (one ^ other) & (one ^ total) & (1 << bits - 1)
    if cpu.flags & DECIMAL:
        total = decimal_difference(one, other, carry, bits)
    keep_total(cpu, total, bits, overflow)


SUMS = {"ADC": adc, "SBC": sbc}
