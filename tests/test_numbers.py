"""What comes out of loads, compares, bits, shifts and counting, and N, V, Z, C by it, at the ends of either width."""

import unittest

from tests.helper import INSTRUCTIONS, C, M, N, V, XF, Z, left_by

NOTED = N | V | Z | C


def first_byte(text):
    return INSTRUCTIONS.index(text)


class NumberTest(unittest.TestCase):
    def of_a(self, text, a, flags, operand=()):
        left = left_by([first_byte(text), *operand], a=a, flags=flags)
        return left.a, left.flags & NOTED

    def at_d(self, name, number, flags, a=0):
        """What is at a place behind an instruction, and the flags."""
        left = left_by(
            [first_byte(f"{name} d"), 0x40], memory=[(0x40, [number & 255, number >> 8])], looks=[(0x40, 2)],
            a=a, flags=flags)
        low, high = left.memory[0x40]
        return low + 256 * high, left.flags & NOTED

    def test_loads(self):
        for number, wide, narrow in (
                (0x0000, Z, Z), (0x0001, 0, 0), (0x007F, 0, 0), (0x0080, 0, N), (0x0100, 0, Z), (0x7F80, 0, N),
                (0x8000, N, Z), (0x80FF, N, N), (0xFFFF, N, N)):
            for text, name, flag in (("LDA im", "a", M), ("LDX ix", "x", XF), ("LDY ix", "y", XF)):
                for other in (0, V | C, NOTED):
                    program = [first_byte(text), number & 255, number >> 8]
                    left = left_by(program, flags=other)
                    self.assertEqual((left.registers[name], left.flags), (number, other & (V | C) | wide))
                    left = left_by(program, flags=other | flag)
                    self.assertEqual(
                        (left.registers[name], left.flags), (number & 255, flag | other & (V | C) | narrow))

    def test_compares(self):
        for register, number, wide, narrow in (
                (0x0000, 0x0000, Z | C, Z | C), (0x0001, 0x0000, C, C), (0x0000, 0x0001, N, N),
                (0x8000, 0x0001, C, N), (0x7FFF, 0xFFFF, N, Z | C), (0x1280, 0x1200, C, N | C),
                (0x1200, 0x1280, N, N), (0xFFFF, 0x0000, N | C, N | C), (0x0100, 0x0200, N, Z | C),
                (0x1234, 0x1234, Z | C, Z | C), (0x0080, 0x007F, C, C), (0x8000, 0x8000, Z | C, Z | C)):
            for text, name, flag in (("CMP im", "a", M), ("CPX ix", "x", XF), ("CPY ix", "y", XF)):
                program = [first_byte(text), number & 255, number >> 8]
                for flags in (0, NOTED):
                    left = left_by(program, flags=flags, **{name: register})
                    self.assertEqual((left.flags, left.registers[name]), (flags & V | wide, register))
                    left = left_by(program, flags=flags | flag, **{name: register & (0xFFFF if flag == M else 0xFF)})
                    self.assertEqual(left.flags, flags & V | flag | narrow, (text, register, number))

    def test_compares_leave_d_and_c_out(self):
        left = left_by([first_byte("CMP im"), 0x10], a=0x20, flags=M | 8)
        self.assertEqual(left.flags, M | 8 | C)

    def test_bits_together(self):
        for a, number, wide, narrow in (
                (0xFFFF, 0x0000, Z, Z), (0x0000, 0xFFFF, N | V | Z, N | V | Z), (0x0100, 0x0100, 0, Z),
                (0x8000, 0xC000, N | V, Z), (0x0001, 0x4001, V, 0), (0x0080, 0x00C0, 0, N | V),
                (0x0040, 0x8040, N, V), (0x00FF, 0xFF00, N | V | Z, Z)):
            for flags in (0, NOTED):
                self.assertEqual(self.at_d("BIT", number, flags, a), (number, flags & C | wide))
                self.assertEqual(self.at_d("BIT", number, flags | M, a), (number, flags & C | narrow))

    def test_set_and_cleared_there(self):
        for a, number, z_wide, z_narrow, wide_set, wide_cleared, narrow_set, narrow_cleared in (
                (0xFFFF, 0x0000, Z, Z, 0xFFFF, 0x0000, 0x00FF, 0x0000),
                (0xFF00, 0x1234, 0, Z, 0xFF34, 0x0034, 0x1234, 0x1234),
                (0x00F0, 0x1234, 0, 0, 0x12F4, 0x1204, 0x12F4, 0x1204),
                (0x8001, 0x7FFE, Z, Z, 0xFFFF, 0x7FFE, 0x7FFF, 0x7FFE),
                (0xFFFF, 0xFFFF, 0, 0, 0xFFFF, 0x0000, 0xFFFF, 0xFF00)):
            for flags in (0, NOTED):
                kept = flags & (N | V | C)
                self.assertEqual(self.at_d("TSB", number, flags, a), (wide_set, kept | z_wide))
                self.assertEqual(self.at_d("TRB", number, flags, a), (wide_cleared, kept | z_wide))
                self.assertEqual(self.at_d("TSB", number, flags | M, a), (narrow_set, kept | z_narrow))
                self.assertEqual(self.at_d("TRB", number, flags | M, a), (narrow_cleared, kept | z_narrow))

    # The number; C; then what comes out and the flags, wide and narrow.
    CHANGES = {
        "ASL": (
            (0x0000, 0, 0x0000, Z, 0x0000, Z), (0x8000, 1, 0x0000, Z | C, 0x8000, Z), (0x4000, 1, 0x8000, N, 0x4000, Z),
            (0x0080, 0, 0x0100, 0, 0x0000, Z | C), (0xFFFF, 1, 0xFFFE, N | C, 0xFFFE, N | C),
            (0x0040, 0, 0x0080, 0, 0x0080, N)),
        "ROL": (
            (0x0000, 1, 0x0001, 0, 0x0001, 0), (0x8000, 1, 0x0001, C, 0x8001, 0), (0x8000, 0, 0x0000, Z | C, 0x8000, Z),
            (0x4080, 0, 0x8100, N, 0x4000, Z | C), (0xFFFF, 0, 0xFFFE, N | C, 0xFFFE, N | C),
            (0xFFFF, 1, 0xFFFF, N | C, 0xFFFF, N | C), (0x7FFF, 1, 0xFFFF, N, 0x7FFF, N | C),
            (0x007F, 1, 0x00FF, 0, 0x00FF, N)),
        "LSR": (
            (0x0000, 1, 0x0000, Z, 0x0000, Z), (0x0001, 0, 0x0000, Z | C, 0x0000, Z | C),
            (0x8000, 1, 0x4000, 0, 0x8000, Z), (0x0100, 1, 0x0080, 0, 0x0100, Z), (0xFFFF, 0, 0x7FFF, C, 0xFF7F, C)),
        "ROR": (
            (0x0000, 1, 0x8000, N, 0x0080, N), (0x0001, 1, 0x8000, N | C, 0x0080, N | C),
            (0x0001, 0, 0x0000, Z | C, 0x0000, Z | C), (0x0100, 0, 0x0080, 0, 0x0100, Z),
            (0xFFFE, 1, 0xFFFF, N, 0xFFFF, N), (0x8000, 0, 0x4000, 0, 0x8000, Z)),
        "INC": (
            (0x0000, 1, 0x0001, C, 0x0001, C), (0xFFFF, 0, 0x0000, Z, 0xFF00, Z), (0x00FF, 0, 0x0100, 0, 0x0000, Z),
            (0x7FFF, 1, 0x8000, N | C, 0x7F00, Z | C), (0x007F, 0, 0x0080, 0, 0x0080, N)),
        "DEC": (
            (0x0000, 1, 0xFFFF, N | C, 0x00FF, N | C), (0x0001, 0, 0x0000, Z, 0x0000, Z),
            (0x0100, 0, 0x00FF, 0, 0x01FF, N), (0x8000, 1, 0x7FFF, C, 0x80FF, N | C),
            (0x0081, 0, 0x0080, 0, 0x0080, N)),
    }

    def test_shifts_and_counts(self):
        for name, rows in self.CHANGES.items():
            for number, carry, wide, wide_flags, narrow, narrow_flags in rows:
                for other in (0, N | V | Z):
                    kept = other & V
                    flags = other | carry
                    self.assertEqual(self.of_a(f"{name} A", number, flags), (wide, wide_flags | kept), (name, number))
                    self.assertEqual(self.at_d(name, number, flags), (wide, wide_flags | kept), (name, number))
                    self.assertEqual(self.of_a(f"{name} A", number, flags | M), (narrow, narrow_flags | kept))
                    self.assertEqual(self.at_d(name, number, flags | M), (narrow, narrow_flags | kept))

    def test_indexes_count(self):
        for text, name, number, flags, out, flags_out in (
                ("INX", "x", 0xFFFF, 0, 0, Z), ("INX", "x", 0xFF, XF, 0, Z), ("INX", "x", 0xFF, M, 0x100, 0),
                ("INY", "y", 0x7FFF, 0, 0x8000, N), ("INY", "y", 0x7F, XF, 0x80, N), ("INY", "y", 0x7F, M, 0x80, 0),
                ("DEX", "x", 0, 0, 0xFFFF, N), ("DEX", "x", 0, XF, 0xFF, N), ("DEX", "x", 0x100, M, 0xFF, 0),
                ("DEY", "y", 1, 0, 0, Z), ("DEY", "y", 1, XF, 0, Z), ("DEY", "y", 0x8000, M, 0x7FFF, 0)):
            for other in (0, V | C):
                left = left_by([first_byte(text)], flags=flags | other | N, **{name: number})
                self.assertEqual((left.registers[name], left.flags & NOTED), (out, flags_out | other), (text, number))

    def test_joined_bits(self):
        for name, wide, wide_flags, narrow, narrow_flags in (
                ("ORA", 0xF3FF, N, 0x33FF, N), ("AND", 0x3000, 0, 0x3300, Z), ("EOR", 0xC3FF, N, 0x33FF, N)):
            for flags in (0, V | C | Z | N):
                self.assertEqual(
                    self.of_a(f"{name} im", 0x330F, flags, [0xF0, 0xF0]), (wide, wide_flags | flags & (V | C)))
                self.assertEqual(
                    self.of_a(f"{name} im", 0x330F, flags | M, [0xF0, 0xF0]), (narrow, narrow_flags | flags & (V | C)))


if __name__ == "__main__":
    unittest.main()
