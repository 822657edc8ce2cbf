"""Shifting and counting: ASL, ROL, LSR, ROR, INC, DEC of A and of memory, and the indexes one more or less."""

from sixteenbits.cpu import CARRY, NARROW_A, NARROW_X
from sixteenbits.widths import keep_a, mask_of, note_carry, noted, read_number, worked_on_a, write_number


def shifted_left(cpu, number, carry):
    """A number by a bit to the left, a carry coming in; C."""
    shifted = (number << 1) + carry
    note_carry(cpu, shifted > mask_of(cpu.flags & NARROW_A))
    return shifted


def shifted_right(cpu, number, carry):
    """A number by a bit to the right, a carry coming in; C."""
    note_carry(cpu, number & 1)
    if carry:
        number += mask_of(cpu.flags & NARROW_A) + 1
    return number >> 1


def read_at(cpu, place):
    """The number as wide as A at a place."""
    return read_number(cpu, place, cpu.flags & NARROW_A)


def keep_at(cpu, place, number):
    """Writes so much of a number as A is wide at a place; N, Z."""
    narrow = cpu.flags & NARROW_A
    write_number(cpu, place, noted(cpu, number, narrow), narrow)


def asl(cpu, place):
    """By a bit to the left, 0 coming in."""
    keep_at(cpu, place, shifted_left(cpu, read_at(cpu, place), 0))


def rol(cpu, place):
    """By a bit to the left, C coming in."""
    keep_at(cpu, place, shifted_left(cpu, read_at(cpu, place), cpu.flags & CARRY))


def lsr(cpu, place):
    """By a bit to the right, 0 coming in."""
    keep_at(cpu, place, shifted_right(cpu, read_at(cpu, place), 0))


def ror(cpu, place):
    """By a bit to the right, C coming in."""
    keep_at(cpu, place, shifted_right(cpu, read_at(cpu, place), cpu.flags & CARRY))


def inc(cpu, place):
    """One more."""
    keep_at(cpu, place, read_at(cpu, place) + 1)


def dec(cpu, place):
    """One less."""
    keep_at(cpu, place, read_at(cpu, place) - 1)


def asl_a(cpu):
    """A by a bit to the left, 0 coming in."""
    keep_a(cpu, shifted_left(cpu, worked_on_a(cpu), 0))


def rol_a(cpu):
    """A by a bit to the left, C coming in."""
    keep_a(cpu, shifted_left(cpu, worked_on_a(cpu), cpu.flags & CARRY))


def lsr_a(cpu):
    """A by a bit to the right, 0 coming in."""
    keep_a(cpu, shifted_right(cpu, worked_on_a(cpu), 0))


def ror_a(cpu):
    """A by a bit to the right, C coming in."""
    keep_a(cpu, shifted_right(cpu, worked_on_a(cpu), cpu.flags & CARRY))


def inc_a(cpu):
    """A is one more."""
    keep_a(cpu, cpu.a + 1)


def dec_a(cpu):
    """A is one less."""
    keep_a(cpu, cpu.a - 1)


def inx(cpu):
    """X is one more."""
    cpu.x = noted(cpu, cpu.x + 1, cpu.flags & NARROW_X)


def iny(cpu):
    """Y is one more."""
    cpu.y = noted(cpu, cpu.y + 1, cpu.flags & NARROW_X)


def dex(cpu):
    """X is one less."""
    cpu.x = noted(cpu, cpu.x - 1, cpu.flags & NARROW_X)


def dey(cpu):
    """Y is one less."""
    cpu.y = noted(cpu, cpu.y - 1, cpu.flags & NARROW_X)


SHIFTS = {"ASL": asl, "ROL": rol, "LSR": lsr, "ROR": ror, "INC": inc, "DEC": dec}

COUNTS = {
    "ASL A": asl_a, "ROL A": rol_a, "LSR A": lsr_a, "ROR A": ror_a, "INC A": inc_a, "DEC A": dec_a,
    "INX": inx, "INY": iny, "DEX": dex, "DEY": dey,
}
