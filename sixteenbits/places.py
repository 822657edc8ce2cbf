"""Where an instruction's number lies; what is behind the first byte is read on the way.

A place is a pair: where the number's lower byte lies, and where its upper byte would. Both are modulo 65536 where
bank 0 is said, else modulo 2^24.
"""

from sixteenbits.cpu import NARROW_A, NARROW_X

LAST_PLACE = 0xFFFFFF


def place_d(cpu):
    """0:D + o."""
    at = cpu.d + cpu.take_byte()
    return (at & 65535, at + 1 & 65535)


def place_dx(cpu):
    """0:D + o + X."""
    at = cpu.d + cpu.take_byte() + cpu.x
    return (at & 65535, at + 1 & 65535)


def place_dy(cpu):
    """0:D + o + Y."""
    at = cpu.d + cpu.take_byte() + cpu.y
    return (at & 65535, at + 1 & 65535)


def place_di(cpu):
    """DB:w, w at d."""
    at = (cpu.db << 16) + cpu.bank_0_word(cpu.d + cpu.take_byte())
    return (at & LAST_PLACE, at + 1 & LAST_PLACE)


def place_dix(cpu):
    """DB:w, w at dx."""
    at = (cpu.db << 16) + cpu.bank_0_word(cpu.d + cpu.take_byte() + cpu.x)
    return (at & LAST_PLACE, at + 1 & LAST_PLACE)


def place_diy(cpu):
    """DB:w + Y, w at d."""
    at = (cpu.db << 16) + cpu.bank_0_word(cpu.d + cpu.take_byte()) + cpu.y
    return (at & LAST_PLACE, at + 1 & LAST_PLACE)


def place_dl(cpu):
    """The three bytes at d."""
    at = cpu.bank_0_long(cpu.d + cpu.take_byte())
    return (at & LAST_PLACE, at + 1 & LAST_PLACE)


def place_dly(cpu):
    """The three bytes at d, + Y."""
    at = cpu.bank_0_long(cpu.d + cpu.take_byte()) + cpu.y
    return (at & LAST_PLACE, at + 1 & LAST_PLACE)


def place_a(cpu):
    """DB:w."""
    at = (cpu.db << 16) + cpu.take_word()
    return (at & LAST_PLACE, at + 1 & LAST_PLACE)


def place_ax(cpu):
    """DB:w + X."""
    at = (cpu.db << 16) + cpu.take_word() + cpu.x
    return (at & LAST_PLACE, at + 1 & LAST_PLACE)


def place_ay(cpu):
    """DB:w + Y."""
    at = (cpu.db << 16) + cpu.take_word() + cpu.y
    return (at & LAST_PLACE, at + 1 & LAST_PLACE)


def place_al(cpu):
    """l."""
    at = cpu.take_long()
    return (at & LAST_PLACE, at + 1 & LAST_PLACE)


def place_alx(cpu):
    """l + X."""
    at = cpu.take_long() + cpu.x
    return (at & LAST_PLACE, at + 1 & LAST_PLACE)


def place_sr(cpu):
    """0:S + o."""
    at = cpu.s + cpu.take_byte()
    return (at & 65535, at + 1 & 65535)


def place_siy(cpu):
    """DB:w + Y, w at sr."""
    at = (cpu.db << 16) + cpu.bank_0_word(cpu.s + cpu.take_byte()) + cpu.y
    return (at & LAST_PLACE, at + 1 & LAST_PLACE)


def place_im(cpu):
    """The number as wide as A behind the first byte."""
    return behind_first(cpu, 1 if cpu.flags & NARROW_A else 2)


def place_ix(cpu):
    """The number as wide as X behind the first byte."""
    return behind_first(cpu, 1 if cpu.flags & NARROW_X else 2)


def behind_first(cpu, width):
    """Where the program's next bytes lie; PC goes on behind them."""
    pc = cpu.pc
    cpu.pc = pc + width & 65535
    bank = cpu.pb << 16
    return (bank + pc, bank + (pc + 1 & 65535))


PLACES = {
    "d": place_d, "dx": place_dx, "dy": place_dy, "di": place_di, "dix": place_dix, "diy": place_diy,
    "dl": place_dl, "dly": place_dly, "a": place_a, "ax": place_ax, "ay": place_ay, "al": place_al,
    "alx": place_alx, "sr": place_sr, "siy": place_siy, "im": place_im, "ix": place_ix,
}
