"""Between registers, and to flags: TAX to XCE, CLC to SEP."""

from sixteenbits.cpu import CARRY, DECIMAL, IRQ_OFF, NARROW_X, OVERFLOW
from sixteenbits.widths import keep_a, note_byte, note_carry, note_word, noted


def tax(cpu):
    """A to X."""
    cpu.x = noted(cpu, cpu.a, cpu.flags & NARROW_X)


def tay(cpu):
    """A to Y."""
    cpu.y = noted(cpu, cpu.a, cpu.flags & NARROW_X)


def tsx(cpu):
    """S to X."""
    cpu.x = noted(cpu, cpu.s, cpu.flags & NARROW_X)


def txy(cpu):
    """X to Y."""
    cpu.y = noted(cpu, cpu.x, cpu.flags & NARROW_X)


def tyx(cpu):
    """Y to X."""
    cpu.x = noted(cpu, cpu.y, cpu.flags & NARROW_X)


def txa(cpu):
    """X to A."""
    keep_a(cpu, cpu.x)


def tya(cpu):
    """Y to A."""
    keep_a(cpu, cpu.y)


def txs(cpu):
    """All of X to S."""
    cpu.set_s(cpu.x)


def tcs(cpu):
    """All of A to S."""
    cpu.set_s(cpu.a)


def tsc(cpu):
    """S to all of A."""
    cpu.a = cpu.s
    note_word(cpu, cpu.a)


def tcd(cpu):
    """All of A to D."""
    cpu.d = cpu.a
    note_word(cpu, cpu.d)


def tdc(cpu):
    """D to all of A."""
    cpu.a = cpu.d
    note_word(cpu, cpu.a)


def xba(cpu):
    """A's bytes exchanged; N, Z of the lower."""
    cpu.a = (cpu.a & 255) * 256 + (cpu.a >> 8)
    note_byte(cpu, cpu.a & 255)


def xce(cpu):
    """C and emulation exchanged."""
    emulation = cpu.flags & CARRY == CARRY
    note_carry(cpu, cpu.emulation)
    cpu.set_emulation(emulation)


def clc(cpu):
    """C 0."""
    cpu.flags = cpu.flags & ~CARRY


def sec(cpu):
    """C 1."""
    cpu.flags = cpu.flags | CARRY


def cli(cpu):
    """I 0."""
    cpu.flags = cpu.flags & ~IRQ_OFF


def sei(cpu):
    """I 1."""
    cpu.flags = cpu.flags | IRQ_OFF


def cld(cpu):
    """The flag D 0."""
    cpu.flags = cpu.flags & ~DECIMAL


def sed(cpu):
    """The flag D 1."""
    cpu.flags = cpu.flags | DECIMAL


def clv(cpu):
    """V 0."""
    cpu.flags = cpu.flags & ~OVERFLOW


def rep(cpu):
    """The flags of i8 are 0."""
    cpu.set_flags(cpu.flags & ~cpu.take_byte())


def sep(cpu):
    """The flags of i8 are 1."""
    cpu.set_flags(cpu.flags | cpu.take_byte())


TRANSFERS = {
    "TAX": tax, "TAY": tay, "TSX": tsx, "TXY": txy, "TYX": tyx, "TXA": txa, "TYA": tya, "TXS": txs, "TCS": tcs,
    "TSC": tsc, "TCD": tcd, "TDC": tdc, "XBA": xba, "XCE": xce,
    "CLC": clc, "SEC": sec, "CLI": cli, "SEI": sei, "CLD": cld, "SED": sed, "CLV": clv, "REP i8": rep, "SEP i8": sep,
}
