"""Pushing and pulling at the ends of the stack, in emulation and out of it."""

import unittest

from tests.helper import INSTRUCTIONS, C, DF, I, M, N, V, XF, Z, left_by, look, run, told_by


def first_byte(text):
    return INSTRUCTIONS.index(text)


BEFORE = {"a": 0xAABB, "x": 0xCC, "y": 0xDD, "d": 0x1122, "db": 0x34}

# What is behind the first byte, and what is pushed, the last byte first, with M and X 1, at 12:8000.
PUSHES = {
    "PHA": ([], [0xBB]),
    "PHX": ([], [0xCC]),
    "PHY": ([], [0xDD]),
    "PHP": ([], [M | XF | N | C]),
    "PHD": ([], [0x22, 0x11]),
    "PHB": ([], [0x34]),
    "PHK": ([], [0x12]),
    "PEA w": ([0x55, 0x66], [0x55, 0x66]),
    "PEI d": ([0x01], [0x77, 0x88]),
    "PER rl": ([0xFE, 0xFF], [0x01, 0x80]),
    "JSR a": ([0x00, 0x90], [0x02, 0x80]),
    "JSR aix": ([0x00, 0x90], [0x02, 0x80]),
    "JSL al": ([0x00, 0x90, 0x13], [0x03, 0x80, 0x12]),
}
# The bytes to be pulled, and what has changed.
PULLS = {
    "PLA": ([0x80], {"a": 0xAA80, "flags": M | XF | N}),
    "PLX": ([0x00], {"x": 0x00, "flags": M | XF | Z}),
    "PLY": ([0x7F], {"y": 0x7F, "flags": M | XF}),
    "PLP": ([M | XF | V], {"flags": M | XF | V}),
    "PLD": ([0x80, 0x70], {"d": 0x7080, "flags": M | XF}),
    "PLB": ([0xFF], {"db": 0xFF, "flags": M | XF | N}),
    "RTS": ([0xFF, 0x90], {"pc": 0x9100}),
    "RTL": ([0xFF, 0xFF, 0x13], {"pc": 0x0000, "pb": 0x13}),
}


class PushTest(unittest.TestCase):
    def check(self, text, s, places, e):
        """The bytes are pushed at these places, the first one of them first."""
        operand, pushed = PUSHES[text]
        pushed = list(reversed(pushed))
        left = left_by(
            [first_byte(text)] + operand, memory=[(0x1123, [0x77, 0x88])],
            looks=[(place, 1) for place in places], s=s, e=e, flags=M | XF | N | C, **BEFORE)
        told = [left.memory[place] for place in places]
        self.assertEqual(told, [[byte] for byte in pushed] + [[0]] * (len(places) - len(pushed)), (text, s, e))
        self.assertEqual(left.s, places[len(pushed)], (text, s, e))

    def test_over_the_end_of_bank_0(self):
        for text in PUSHES:
            self.check(text, 1, [1, 0, 0xFFFF, 0xFFFE], 0)
            self.check(text, 0, [0, 0xFFFF, 0xFFFE, 0xFFFD], 0)
            self.check(text, 0x100, [0x100, 0xFF, 0xFE, 0xFD], 0)

    def test_in_emulation_within_the_page_on_each_step(self):
        for text in PUSHES:
            self.check(text, 0x101, [0x101, 0x100, 0x1FF, 0x1FE], 1)
            self.check(text, 0x100, [0x100, 0x1FF, 0x1FE, 0x1FD], 1)
            self.check(text, 0x1FF, [0x1FF, 0x1FE, 0x1FD, 0x1FC], 1)

    def test_in_bank_0_alone(self):
        # Empty memory: BRK at 0:0 pushes, and nothing else was ever written.
        told = told_by(run(1), look(0x1FD, 3), *[look(bank * 65536 + 0x1FD, 3) for bank in range(1, 256)])
        self.assertEqual(told[:2], [[1], [0, M | XF | I, 2, 0]])
        self.assertEqual(told[2:], [[0, 0, 0, 0]] * 255)

    def test_wide(self):
        for text, name, value in (("PHA", "a", 0xABCD), ("PHX", "x", 0xABCD), ("PHY", "y", 0xABCD)):
            left = left_by([first_byte(text)], looks=[(0, 1), (0xFFFF, 1)], s=0, **{name: value})
            self.assertEqual((left.memory[0], left.memory[0xFFFF], left.s), ([0xAB], [0xCD], 0xFFFE))


class PullTest(unittest.TestCase):
    def check(self, text, s, places, e):
        pulled, changes = PULLS[text]
        left = left_by(
            [first_byte(text)], memory=[(place, [byte]) for place, byte in zip(places, pulled)],
            s=s, e=e, flags=M | XF, **BEFORE)
        asked = {**BEFORE, "pc": 0x8001, "pb": 0x12, "flags": M | XF, "e": e, "s": places[len(pulled) - 1], **changes}
        self.assertEqual(left.registers, asked, (text, s, e))

    def test_over_the_end_of_bank_0(self):
        for text in PULLS:
            self.check(text, 0xFFFF, [0, 1, 2], 0)
            self.check(text, 0xFFFE, [0xFFFF, 0, 1], 0)
            self.check(text, 0xFFFD, [0xFFFE, 0xFFFF, 0], 0)
            self.check(text, 0x1FF, [0x200, 0x201, 0x202], 0)

    def test_in_emulation_within_the_page_on_each_step(self):
        for text in PULLS:
            self.check(text, 0x1FF, [0x100, 0x101, 0x102], 1)
            self.check(text, 0x1FE, [0x1FF, 0x100, 0x101], 1)
            self.check(text, 0x1FD, [0x1FE, 0x1FF, 0x100], 1)

    def test_wide(self):
        for text, name in (("PLA", "a"), ("PLX", "x"), ("PLY", "y")):
            left = left_by([first_byte(text)], memory=[(0, [0x80]), (0xFFFF, [0x00])], s=0xFFFE, a=1, x=1, y=1)
            self.assertEqual((left.registers[name], left.s, left.flags), (0x8000, 0, N))
            left = left_by([first_byte(text)], s=0xFFFE, a=1, x=1, y=1)
            self.assertEqual((left.registers[name], left.s, left.flags), (0, 0, Z))

    def test_pulled_flags(self):
        for flags in range(256):
            left = left_by([first_byte("PLP")], memory=[(1, [flags])], s=0, x=0x1234, y=0x5678)
            narrow = flags & XF
            self.assertEqual(
                (left.flags, left.x, left.y), (flags, 0x34 if narrow else 0x1234, 0x78 if narrow else 0x5678))
            left = left_by([first_byte("PLP")], memory=[(0x101, [flags])], s=0x100, e=1)
            self.assertEqual((left.flags, left.e), (flags | M | XF, 1))


class FlagTest(unittest.TestCase):
    """REP, SEP and XCE, and what they do to other registers."""

    def test_rep_and_sep(self):
        for byte in range(256):
            for flags in (0x00, 0xFF, 0x55, 0xAA):
                for text, asked in (("REP i8", flags & ~byte), ("SEP i8", flags | byte)):
                    left = left_by([first_byte(text), byte], flags=flags)
                    self.assertEqual((left.flags, left.pc), (asked, 0x8002))
                    left = left_by([first_byte(text), byte], flags=flags, e=1)
                    self.assertEqual((left.flags, left.pc, left.e), (asked | M | XF, 0x8002, 1))

    def test_sep_x_clears_the_upper_bytes(self):
        left = left_by([first_byte("SEP i8"), XF], x=0x1234, y=0x5678, a=0x9ABC, s=0x4321)
        self.assertEqual((left.x, left.y, left.a, left.s), (0x34, 0x78, 0x9ABC, 0x4321))
        left = left_by([first_byte("SEP i8"), 255 - XF], x=0x1234, y=0x5678, a=0x9ABC)
        self.assertEqual((left.x, left.y, left.a), (0x1234, 0x5678, 0x9ABC))
        left = left_by([first_byte("SEP i8"), XF, first_byte("REP i8"), XF], x=0x1234, y=0x5678, steps=2)
        self.assertEqual((left.x, left.y, left.flags), (0x34, 0x78, 0))

    def test_xce_into_emulation(self):
        left = left_by([first_byte("XCE")], a=0x1234, x=0x5678, y=0x9ABC, s=0xDEF0, d=0x1111, flags=C | N | DF)
        self.assertEqual(left.registers, {
            "a": 0x1234, "x": 0x78, "y": 0xBC, "s": 0x1F0, "d": 0x1111, "pc": 0x8001, "pb": 0x12, "db": 0,
            "flags": M | XF | N | DF, "e": 1})

    def test_xce_out_of_emulation(self):
        left = left_by([first_byte("XCE")], a=0x1234, x=0x56, y=0x78, s=0x1F0, flags=M | XF | Z | I, e=1)
        self.assertEqual(left.registers, {
            "a": 0x1234, "x": 0x56, "y": 0x78, "s": 0x1F0, "d": 0, "pc": 0x8001, "pb": 0x12, "db": 0,
            "flags": M | XF | Z | I | C, "e": 0})

    def test_xce_to_what_it_is(self):
        left = left_by([first_byte("XCE")], x=0x1234, s=0xDEF0, flags=0)
        self.assertEqual((left.x, left.s, left.flags, left.e), (0x1234, 0xDEF0, 0, 0))
        left = left_by([first_byte("XCE")], x=0x34, s=0x1F0, flags=M | XF | C, e=1)
        self.assertEqual((left.x, left.s, left.flags, left.e), (0x34, 0x1F0, M | XF | C, 1))

    def test_to_s_in_emulation(self):
        left = left_by([first_byte("TXS")], x=0x80, flags=Z, e=1)
        self.assertEqual((left.s, left.flags), (0x180, M | XF | Z))
        left = left_by([first_byte("TCS")], a=0xAB00, flags=N, e=1)
        self.assertEqual((left.s, left.flags), (0x100, M | XF | N))
        left = left_by([first_byte("TSX")], s=0x180, x=1, e=1)
        self.assertEqual((left.x, left.flags), (0x80, M | XF | N))
        left = left_by([first_byte("TSC")], s=0x180, a=0xFFFF, flags=N, e=1)
        self.assertEqual((left.a, left.flags), (0x180, M | XF))


if __name__ == "__main__":
    unittest.main()
