"""Narrow and wide numbers, in registers and in memory, and N, Z and C by them.

Whether a number is narrow is told by a flag: M where it is as wide as A, X where it is as wide as X.
A place is a pair: where a number's lower byte lies, and where its upper byte would.
"""

from sixteenbits.cpu import CARRY, NARROW_A, NEGATIVE, ZERO

ALL_BUT_N_Z = 0x7D


def note_byte(cpu, number):
    """N, Z by a number of one byte."""
    cpu.flags = cpu.flags & ALL_BUT_N_Z | number & NEGATIVE | (0 if number else ZERO)


def note_word(cpu, number):
    """N, Z by a number of two bytes."""
    cpu.flags = cpu.flags & ALL_BUT_N_Z | number >> 8 & NEGATIVE | (0 if number else ZERO)


def note_carry(cpu, carry):
    """C is 1 or 0."""
    cpu.flags = cpu.flags | CARRY if carry else cpu.flags & ~CARRY


def noted(cpu, number, narrow):
    """So much of a number as is wide; N, Z by it."""
    # Nearly every instruction comes here: what the functions above do is written out, as each call counts.
    if narrow:
        number = number & 255
        cpu.flags = cpu.flags & ALL_BUT_N_Z | number & NEGATIVE | (0 if number else ZERO)
    else:
        number = number & 65535
        cpu.flags = cpu.flags & ALL_BUT_N_Z | number >> 8 & NEGATIVE | (0 if number else ZERO)
    return number


def mask_of(narrow):
    """All bits of a number."""
    return 255 if narrow else 65535


def worked_on_a(cpu):
    """What is worked on of A."""
    return cpu.a & 255 if cpu.flags & NARROW_A else cpu.a


def keep_a(cpu, number):
    """A is so much of a number as it is wide; N, Z. A narrow one's upper byte stays."""
    if cpu.flags & NARROW_A:
        cpu.a = cpu.a & 0xFF00 | noted(cpu, number, True)
    else:
        cpu.a = noted(cpu, number, False)


def read_number(cpu, place, narrow):
    """The number at a place."""
    low = place[0]
    banks = cpu.banks
    if narrow:
        return banks[low >> 16][low & 65535]
    high = place[1]
    return banks[low >> 16][low & 65535] + (banks[high >> 16][high & 65535] << 8)


def write_number(cpu, place, number, narrow):
    """Writes so much of a number as is wide at a place."""
    cpu.memory.put(place[0], number & 255)
    if not narrow:
        cpu.memory.put(place[1], number >> 8)
