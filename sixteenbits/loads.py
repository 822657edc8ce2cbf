"""Loading, storing, comparing and joining bits: LDA to CPY, ORA, AND, EOR, BIT, TSB, TRB."""

from sixteenbits.cpu import NARROW_A, NARROW_X, NEGATIVE, OVERFLOW, ZERO
from sixteenbits.widths import keep_a, note_carry, noted, read_number, worked_on_a, write_number


def lda(cpu, place):
    """A is the number."""
    keep_a(cpu, read_number(cpu, place, cpu.flags & NARROW_A))


def ldx(cpu, place):
    """X is the number."""
    narrow = cpu.flags & NARROW_X
    cpu.x = noted(cpu, read_number(cpu, place, narrow), narrow)


def ldy(cpu, place):
    """Y is the number."""
    narrow = cpu.flags & NARROW_X
    cpu.y = noted(cpu, read_number(cpu, place, narrow), narrow)


def sta(cpu, place):
    """Writes A."""
    write_number(cpu, place, cpu.a, cpu.flags & NARROW_A)


def stx(cpu, place):
    """Writes X."""
    write_number(cpu, place, cpu.x, cpu.flags & NARROW_X)


def sty(cpu, place):
    """Writes Y."""
    write_number(cpu, place, cpu.y, cpu.flags & NARROW_X)


def stz(cpu, place):
    """Writes 0."""
    write_number(cpu, place, 0, cpu.flags & NARROW_A)


def ora(cpu, place):
    """A's bits or the number's."""
    keep_a(cpu, cpu.a | read_number(cpu, place, cpu.flags & NARROW_A))


def and_a(cpu, place):
    """A's bits and the number's."""
    keep_a(cpu, cpu.a & read_number(cpu, place, cpu.flags & NARROW_A))


def eor(cpu, place):
    """A's bits or the number's, but not both."""
    keep_a(cpu, cpu.a ^ read_number(cpu, place, cpu.flags & NARROW_A))


def compare(cpu, kept, place, narrow):
    """What a register keeps less the number, in the flags alone."""
    difference = kept - read_number(cpu, place, narrow)
    note_carry(cpu, difference >= 0)
    noted(cpu, difference, narrow)


def cmp(cpu, place):
    """A less the number, in the flags alone."""
    compare(cpu, worked_on_a(cpu), place, cpu.flags & NARROW_A)


def cpx(cpu, place):
    """X less the number, in the flags alone."""
    compare(cpu, cpu.x, place, cpu.flags & NARROW_X)


def cpy(cpu, place):
    """Y less the number, in the flags alone."""
    compare(cpu, cpu.y, place, cpu.flags & NARROW_X)


def note_common_bits(cpu, number):
    """Z if A and the number have no bit together."""
    if cpu.a & number:
        cpu.flags = cpu.flags & ~ZERO
    else:
        cpu.flags = cpu.flags | ZERO


def bit(cpu, place):
    """Z if no bit is in both; N and V are the number's two highest bits."""
    number = read_number(cpu, place, cpu.flags & NARROW_A)
    note_common_bits(cpu, number)
    highest = number if cpu.flags & NARROW_A else number >> 8
    cpu.flags = cpu.flags & ~(NEGATIVE | OVERFLOW) | highest & (NEGATIVE | OVERFLOW)


def bit_im(cpu, place):
    """Z if no bit is in both."""
    note_common_bits(cpu, read_number(cpu, place, cpu.flags & NARROW_A))


def tsb(cpu, place):
    """Z if no bit is in both; A's bits are set there."""
    number = read_number(cpu, place, cpu.flags & NARROW_A)
    note_common_bits(cpu, number)
    write_number(cpu, place, number | cpu.a, cpu.flags & NARROW_A)


def trb(cpu, place):
    """Z if no bit is in both; A's bits are cleared there."""
    number = read_number(cpu, place, cpu.flags & NARROW_A)
    note_common_bits(cpu, number)
    write_number(cpu, place, number & ~cpu.a, cpu.flags & NARROW_A)


LOADS = {
    "LDA": lda, "LDX": ldx, "LDY": ldy, "STA": sta, "STX": stx, "STY": sty, "STZ": stz,
    "ORA": ora, "AND": and_a, "EOR": eor, "CMP": cmp, "CPX": cpx, "CPY": cpy,
    "BIT": bit, "BIT im": bit_im, "TSB": tsb, "TRB": trb,
}
