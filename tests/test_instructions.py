"""Each of the 256 first bytes, with what it leaves in registers, flags and memory written out here."""

import unittest

from tests.helper import INSTRUCTIONS, C, DF, I, M, N, V, XF, Z, left_by

# With D 1200, S 1F00, DB 34, X 123, Y 145 (or 23, 45), and the bytes 40 50 56 behind the first byte.
# What is behind the first byte; pointers to be in memory; where the number is with X and Y wide, and narrow.
PLACES = {
    "d": (1, [], 0x001240, 0x001240),
    "dx": (1, [], 0x001363, 0x001263),
    "dy": (1, [], 0x001385, 0x001285),
    "di": (1, [(0x1240, [0x00, 0x60])], 0x346000, 0x346000),
    "dix": (1, [(0x1363, [0x00, 0x70]), (0x1263, [0x00, 0x71])], 0x347000, 0x347100),
    "diy": (1, [(0x1240, [0x00, 0x60])], 0x346145, 0x346045),
    "dl": (1, [(0x1240, [0x00, 0x60, 0x77])], 0x776000, 0x776000),
    "dly": (1, [(0x1240, [0x00, 0x60, 0x77])], 0x776145, 0x776045),
    "a": (2, [], 0x345040, 0x345040),
    "ax": (2, [], 0x345163, 0x345063),
    "ay": (2, [], 0x345185, 0x345085),
    "al": (3, [], 0x565040, 0x565040),
    "alx": (3, [], 0x565163, 0x565063),
    "sr": (1, [], 0x001F40, 0x001F40),
    "siy": (1, [(0x1F40, [0x00, 0x90])], 0x349145, 0x349045),
}
BEHIND = [0x40, 0x50, 0x56]

# A; the number; flags; then what A, the number and the flags are behind it, wide and narrow.
NUMBER_OPERATIONS = {
    "ORA": (0x8F31, 0x4052, Z | V | C, (0xCF73, 0x4052, N | V | C), (0x8F73, 0x4052, V | C)),
    "AND": (0x8F31, 0x4052, N | I, (0x0010, 0x4052, I), (0x8F10, 0x4052, I)),
    "EOR": (0x8F31, 0x0F31, C, (0x8000, 0x0F31, N | C), (0x8F00, 0x0F31, Z | C)),
    "ADC": (0x7F81, 0x0080, C, (0x8002, 0x0080, N | V), (0x7F02, 0x0080, V | C)),
    "SBC": (0x8000, 0x0001, C, (0x7FFF, 0x0001, V | C), (0x80FF, 0x0001, N)),
    "LDA": (0x1234, 0x8000, V | C, (0x8000, 0x8000, N | V | C), (0x1200, 0x8000, Z | V | C)),
    "STA": (0x8081, 0x1234, Z | C, (0x8081, 0x8081, Z | C), (0x8081, 0x1281, Z | C)),
    "STZ": (0x8081, 0x1234, N | V, (0x8081, 0x0000, N | V), (0x8081, 0x1200, N | V)),
    "CMP": (0x1280, 0x1301, V | Z, (0x1280, 0x1301, V | N), (0x1280, 0x1301, V | C)),
    "BIT": (0x0100, 0x4180, N | C, (0x0100, 0x4180, V | C), (0x0100, 0x4180, N | Z | C)),
    "TSB": (0x1204, 0x1131, N | V, (0x1204, 0x1335, N | V), (0x1204, 0x1135, N | V | Z)),
    "TRB": (0x1204, 0x1137, C | Z, (0x1204, 0x0133, C), (0x1204, 0x1133, C)),
    "ASL": (0x1234, 0xC080, V, (0x1234, 0x8100, N | V | C), (0x1234, 0xC000, V | Z | C)),
    "ROL": (0x1234, 0x4080, C, (0x1234, 0x8101, N), (0x1234, 0x4001, C)),
    "LSR": (0x1234, 0x0101, N, (0x1234, 0x0080, C), (0x1234, 0x0100, Z | C)),
    "ROR": (0x1234, 0x0100, C, (0x1234, 0x8080, N), (0x1234, 0x0180, N)),
    "INC": (0x1234, 0x7FFF, C, (0x1234, 0x8000, N | C), (0x1234, 0x7F00, Z | C)),
    "DEC": (0x1234, 0x0100, Z | V, (0x1234, 0x00FF, V), (0x1234, 0x01FF, N | V)),
}

# The same with the index (X 123 or Y 145; 23 or 45) in A's place, by the width of X.
INDEX_OPERATIONS = {
    "LDX": ("x", 0x8000, V | C, (0x8000, 0x8000, N | V | C), (0x00, 0x8000, Z | V | C)),
    "LDY": ("y", 0x1280, Z | C, (0x1280, 0x1280, C), (0x80, 0x1280, N | C)),
    "STX": ("x", 0xABCD, N | C, (0x0123, 0x0123, N | C), (0x23, 0xAB23, N | C)),
    "STY": ("y", 0xABCD, Z | V, (0x0145, 0x0145, Z | V), (0x45, 0xAB45, Z | V)),
    "CPX": ("x", 0x0124, C, (0x0123, 0x0124, N), (0x23, 0x0124, N)),
    "CPY": ("y", 0x0145, N, (0x0145, 0x0145, Z | C), (0x45, 0x0145, Z | C)),
}

# Whole texts, for those that have no place. What is behind the first byte; registers before; memory before;
# what has changed in the registers, PC aside from the length too; memory behind.
# Before: A 8F31, X 123, Y 145, D 1200, S 1F00, PC 8000, PB 12, DB 34, flags 0, no emulation.
WIDE_CASES = {
    "BRK i8": ([7], {"flags": N | DF}, [(0xFFE6, [0x78, 0x56])],
               {"s": 0x1EFC, "pc": 0x5678, "pb": 0, "flags": N | I}, [(0x1EFC, [0, N | DF, 0x02, 0x80, 0x12])]),
    "COP i8": ([7], {"flags": C}, [(0xFFE4, [0x79, 0x56])],
               {"s": 0x1EFC, "pc": 0x5679, "pb": 0, "flags": I | C}, [(0x1EFC, [0, C, 0x02, 0x80, 0x12])]),
    "PHP": ([], {"flags": N | V | C}, [], {"s": 0x1EFF}, [(0x1EFF, [0, N | V | C])]),
    "PHD": ([], {"d": 0xABCD}, [], {"s": 0x1EFE}, [(0x1EFE, [0, 0xCD, 0xAB])]),
    "PHA": ([], {}, [], {"s": 0x1EFE}, [(0x1EFE, [0, 0x31, 0x8F])]),
    "PHX": ([], {}, [], {"s": 0x1EFE}, [(0x1EFE, [0, 0x23, 0x01])]),
    "PHY": ([], {}, [], {"s": 0x1EFE}, [(0x1EFE, [0, 0x45, 0x01])]),
    "PHB": ([], {}, [], {"s": 0x1EFF}, [(0x1EFE, [0, 0, 0x34, 0])]),
    "PHK": ([], {}, [], {"s": 0x1EFF}, [(0x1EFE, [0, 0, 0x12, 0])]),
    "PLP": ([], {}, [(0x1F01, [0xDB])], {"s": 0x1F01, "flags": 0xDB, "x": 0x23, "y": 0x45}, [(0x1F01, [0xDB])]),
    "PLD": ([], {"flags": Z | C}, [(0x1F01, [0x34, 0x92])], {"s": 0x1F02, "d": 0x9234, "flags": N | C}, []),
    "PLA": ([], {"flags": N | V}, [(0x1F01, [0x00, 0x01])], {"s": 0x1F02, "a": 0x0100, "flags": V}, []),
    "PLX": ([], {"flags": C}, [(0x1F01, [0x80, 0xFF])], {"s": 0x1F02, "x": 0xFF80, "flags": N | C}, []),
    "PLY": ([], {"flags": N}, [(0x1F01, [0x00, 0x00])], {"s": 0x1F02, "y": 0, "flags": Z}, []),
    "PLB": ([], {"flags": V}, [(0x1F01, [0x80, 0x99])], {"s": 0x1F01, "db": 0x80, "flags": N | V}, []),
    "PEA w": ([0x34, 0x92], {}, [], {"s": 0x1EFE}, [(0x1EFE, [0, 0x34, 0x92])]),
    "PEI d": ([0x40], {}, [(0x1240, [0x56, 0x78])], {"s": 0x1EFE}, [(0x1EFE, [0, 0x56, 0x78])]),
    "PER rl": ([0x10, 0x01], {}, [], {"s": 0x1EFE}, [(0x1EFE, [0, 0x13, 0x81])]),
    "ASL A": ([], {"a": 0x8080}, [], {"a": 0x0100, "flags": C}, []),
    "ROL A": ([], {"a": 0x4000, "flags": C | Z}, [], {"a": 0x8001, "flags": N}, []),
    "LSR A": ([], {"a": 0x8001, "flags": N}, [], {"a": 0x4000, "flags": C}, []),
    "ROR A": ([], {"a": 0x0100, "flags": C}, [], {"a": 0x8080, "flags": N}, []),
    "INC A": ([], {"a": 0xFFFF, "flags": C | N}, [], {"a": 0, "flags": C | Z}, []),
    "DEC A": ([], {"a": 0x0000, "flags": Z}, [], {"a": 0xFFFF, "flags": N}, []),
    "INX": ([], {"x": 0x7FFF}, [], {"x": 0x8000, "flags": N}, []),
    "INY": ([], {"y": 0xFFFF, "flags": V}, [], {"y": 0, "flags": Z | V}, []),
    "DEX": ([], {"x": 0x0000}, [], {"x": 0xFFFF, "flags": N}, []),
    "DEY": ([], {"y": 0x0001, "flags": N | C}, [], {"y": 0, "flags": Z | C}, []),
    "TAX": ([], {"flags": Z | C}, [], {"x": 0x8F31, "flags": N | C}, []),
    "TAY": ([], {"a": 0, "flags": N | C}, [], {"y": 0, "flags": Z | C}, []),
    "TSX": ([], {"s": 0x8000}, [], {"x": 0x8000, "flags": N}, []),
    "TXY": ([], {"flags": Z}, [], {"y": 0x0123, "flags": 0}, []),
    "TYX": ([], {"y": 0x8000}, [], {"x": 0x8000, "flags": N}, []),
    "TXA": ([], {"flags": N}, [], {"a": 0x0123, "flags": 0}, []),
    "TYA": ([], {"y": 0x9000}, [], {"a": 0x9000, "flags": N}, []),
    "TXS": ([], {"x": 0x0000, "flags": N}, [], {"s": 0x0000}, []),
    "TCS": ([], {"flags": Z}, [], {"s": 0x8F31}, []),
    "TSC": ([], {"flags": N | V}, [], {"a": 0x1F00, "flags": V}, []),
    "TCD": ([], {"flags": Z | C}, [], {"d": 0x8F31, "flags": N | C}, []),
    "TDC": ([], {"d": 0, "flags": N}, [], {"a": 0, "flags": Z}, []),
    "XBA": ([], {}, [], {"a": 0x318F, "flags": N}, []),
    "XCE": ([], {"s": 0x8765, "flags": C | N}, [],
            {"s": 0x0165, "x": 0x23, "y": 0x45, "flags": N | M | XF, "e": 1}, []),
    "CLC": ([], {"flags": 0xCF}, [], {"flags": 0xCE}, []),
    "SEC": ([], {"flags": 0xCE}, [], {"flags": 0xCF}, []),
    "CLI": ([], {"flags": 0xCF}, [], {"flags": 0xCB}, []),
    "SEI": ([], {"flags": 0xCB}, [], {"flags": 0xCF}, []),
    "CLD": ([], {"flags": 0xCF}, [], {"flags": 0xC7}, []),
    "SED": ([], {"flags": 0xC7}, [], {"flags": 0xCF}, []),
    "CLV": ([], {"flags": 0xCF}, [], {"flags": 0x8F}, []),
    "REP i8": ([0xAA], {"flags": 0xEF}, [], {"flags": 0x45}, []),
    "SEP i8": ([0x35], {"flags": 0x80}, [], {"flags": 0xB5, "x": 0x23, "y": 0x45}, []),
    "BPL r": ([0x10], {"flags": 0x4F}, [], {"pc": 0x8012}, []),
    "BMI r": ([0x10], {"flags": 0x80}, [], {"pc": 0x8012}, []),
    "BVC r": ([0x10], {"flags": 0x8F}, [], {"pc": 0x8012}, []),
    "BVS r": ([0x10], {"flags": 0x40}, [], {"pc": 0x8012}, []),
    "BCC r": ([0x10], {"flags": 0xCE}, [], {"pc": 0x8012}, []),
    "BCS r": ([0x10], {"flags": 0x01}, [], {"pc": 0x8012}, []),
    "BNE r": ([0x10], {"flags": 0xCD}, [], {"pc": 0x8012}, []),
    "BEQ r": ([0x10], {"flags": 0x02}, [], {"pc": 0x8012}, []),
    "BRA r": ([0xF0], {"flags": 0xCF}, [], {"pc": 0x7FF2}, []),
    "BRL rl": ([0xF0, 0xF0], {}, [], {"pc": 0x70F3}, []),
    "JMP a": ([0x34, 0x12], {}, [], {"pc": 0x1234}, []),
    "JMP ai": ([0x34, 0x12], {}, [(0x1234, [0x78, 0x56])], {"pc": 0x5678}, []),
    "JMP aix": ([0x34, 0x12], {}, [(0x121357, [0x79, 0x56])], {"pc": 0x5679}, []),
    "JML al": ([0x34, 0x12, 0x56], {}, [], {"pc": 0x1234, "pb": 0x56}, []),
    "JML al2": ([0x34, 0x12], {}, [(0x1234, [0x78, 0x56, 0x9A])], {"pc": 0x5678, "pb": 0x9A}, []),
    "JSR a": ([0x34, 0x12], {}, [], {"pc": 0x1234, "s": 0x1EFE}, [(0x1EFE, [0, 0x02, 0x80])]),
    "JSR aix": ([0x34, 0x12], {}, [(0x121357, [0x79, 0x56])],
                {"pc": 0x5679, "s": 0x1EFE}, [(0x1EFE, [0, 0x02, 0x80])]),
    "JSL al": ([0x34, 0x12, 0x56], {}, [],
               {"pc": 0x1234, "pb": 0x56, "s": 0x1EFD}, [(0x1EFD, [0, 0x03, 0x80, 0x12])]),
    "RTS": ([], {}, [(0x1F01, [0x33, 0x22])], {"pc": 0x2234, "s": 0x1F02}, []),
    "RTL": ([], {}, [(0x1F01, [0x33, 0x22, 0x45])], {"pc": 0x2234, "pb": 0x45, "s": 0x1F03}, []),
    "RTI": ([], {}, [(0x1F01, [0xDB, 0x33, 0x22, 0x45])],
            {"pc": 0x2233, "pb": 0x45, "s": 0x1F04, "flags": 0xDB, "x": 0x23, "y": 0x45}, []),
    "MVN b": ([0x56, 0x78], {"a": 0}, [(0x780123, [0x99])],
              {"a": 0xFFFF, "x": 0x0124, "y": 0x0146, "db": 0x56}, [(0x560144, [0, 0x99, 0])]),
    "MVP b": ([0x56, 0x78], {"a": 0}, [(0x780123, [0x99])],
              {"a": 0xFFFF, "x": 0x0122, "y": 0x0144, "db": 0x56}, [(0x560144, [0, 0x99, 0])]),
    "WDM i8": ([0x99], {"flags": 0xCF}, [], {}, []),
    "NOP": ([], {"flags": 0xCF}, [], {}, []),
    "WAI": ([], {"flags": 0xCF}, [], {}, []),
    "STP": ([], {"flags": 0xCF}, [], {}, []),
}

# The same with M and X 1 (X 23, Y 45), for those whose numbers are as wide as A or as X.
NARROW_CASES = {
    "PHA": ([], {}, [], {"s": 0x1EFF}, [(0x1EFE, [0, 0, 0x31])]),
    "PHX": ([], {}, [], {"s": 0x1EFF}, [(0x1EFE, [0, 0, 0x23])]),
    "PHY": ([], {}, [], {"s": 0x1EFF}, [(0x1EFE, [0, 0, 0x45])]),
    "PLA": ([], {"flags": N | V}, [(0x1F01, [0x00, 0x01])], {"s": 0x1F01, "a": 0x8F00, "flags": V | Z}, []),
    "PLX": ([], {"flags": C}, [(0x1F01, [0x80, 0x7F])], {"s": 0x1F01, "x": 0x80, "flags": N | C}, []),
    "PLY": ([], {"flags": N}, [(0x1F01, [0x7F, 0xFF])], {"s": 0x1F01, "y": 0x7F, "flags": 0}, []),
    "ASL A": ([], {"a": 0x8080}, [], {"a": 0x8000, "flags": Z | C}, []),
    "ROL A": ([], {"a": 0x8040, "flags": C | Z}, [], {"a": 0x8081, "flags": N}, []),
    "LSR A": ([], {"a": 0x0101, "flags": N}, [], {"a": 0x0100, "flags": Z | C}, []),
    "ROR A": ([], {"a": 0x0100, "flags": C}, [], {"a": 0x0180, "flags": N}, []),
    "INC A": ([], {"a": 0x12FF, "flags": C | N}, [], {"a": 0x1200, "flags": C | Z}, []),
    "DEC A": ([], {"a": 0x1200, "flags": Z}, [], {"a": 0x12FF, "flags": N}, []),
    "INX": ([], {"x": 0x7F}, [], {"x": 0x80, "flags": N}, []),
    "INY": ([], {"y": 0xFF, "flags": V}, [], {"y": 0, "flags": Z | V}, []),
    "DEX": ([], {"x": 0x00}, [], {"x": 0xFF, "flags": N}, []),
    "DEY": ([], {"y": 0x01, "flags": N | C}, [], {"y": 0, "flags": Z | C}, []),
    "TAX": ([], {"flags": Z | N}, [], {"x": 0x31, "flags": 0}, []),
    "TAY": ([], {"a": 0x1280}, [], {"y": 0x80, "flags": N}, []),
    "TSX": ([], {"flags": N}, [], {"x": 0x00, "flags": Z}, []),
    "TXY": ([], {"x": 0x80}, [], {"y": 0x80, "flags": N}, []),
    "TYX": ([], {"y": 0x00}, [], {"x": 0x00, "flags": Z}, []),
    "TXA": ([], {"flags": N}, [], {"a": 0x8F23, "flags": 0}, []),
    "TYA": ([], {"y": 0x80}, [], {"a": 0x8F80, "flags": N}, []),
    "TXS": ([], {"flags": N}, [], {"s": 0x0023}, []),
    "TCS": ([], {"flags": Z}, [], {"s": 0x8F31}, []),
    "TSC": ([], {"flags": N | V}, [], {"a": 0x1F00, "flags": V}, []),
    "TCD": ([], {"flags": Z | C}, [], {"d": 0x8F31, "flags": N | C}, []),
    "TDC": ([], {"d": 0x0080, "flags": N}, [], {"a": 0x0080, "flags": 0}, []),
    "XBA": ([], {"a": 0x0080}, [], {"a": 0x8000, "flags": Z}, []),
    "MVN b": ([0x56, 0x78], {"x": 0xFF, "y": 0xFF, "a": 0}, [(0x7800FF, [0x99])],
              {"a": 0xFFFF, "x": 0, "y": 0, "db": 0x56}, [(0x5600FE, [0, 0x99, 0])]),
    "MVP b": ([0x56, 0x78], {"x": 0, "y": 0, "a": 0}, [(0x780000, [0x99])],
              {"a": 0xFFFF, "x": 0xFF, "y": 0xFF, "db": 0x56}, [(0x560000, [0x99, 0])]),
    "JMP aix": ([0x34, 0x12], {}, [(0x121257, [0x79, 0x56])], {"pc": 0x5679}, []),
    "PEI d": ([0x40], {}, [(0x1240, [0x56, 0x78])], {"s": 0x1EFE}, [(0x1EFE, [0, 0x56, 0x78])]),
    "PHD": ([], {}, [], {"s": 0x1EFE}, [(0x1EFE, [0, 0x00, 0x12])]),
    "PLD": ([], {}, [(0x1F01, [0x80, 0x00])], {"s": 0x1F02, "d": 0x0080, "flags": 0}, []),
    "REP i8": ([0x30], {}, [], {"flags": -48}, []),
}


def word_bytes(number):
    return [number & 255, number >> 8]


class InstructionTest(unittest.TestCase):
    maxDiff = None

    def check(self, text, program, before, memory, changes, looks, **more):
        """One step leaves the registers as told, and memory too."""
        behind = dict(before)
        behind.update(changes)
        left = left_by(
            program, memory=memory, looks=[(place, len(data)) for place, data in looks], **before, **more)
        self.assertEqual(left.done, 1, text)
        self.assertEqual(left.registers, behind, text)
        self.assertEqual(left.memory, {place: list(data) for place, data in looks}, text)

    def before(self, narrow_a, narrow_x, **values):
        """The registers ahead of a step, all of them."""
        flags = values.pop("flags", 0) | (M if narrow_a else 0) | (XF if narrow_x else 0)
        found = {
            "a": 0x8F31, "x": 0x23 if narrow_x else 0x123, "y": 0x45 if narrow_x else 0x145, "d": 0x1200,
            "s": 0x1F00, "pc": 0x8000, "pb": 0x12, "db": 0x34, "flags": flags, "e": 0}
        found.update(values)
        return found

    def test_there_are_256(self):
        self.assertEqual(len(INSTRUCTIONS), 256)
        alone = set(WIDE_CASES)
        for text in INSTRUCTIONS:
            name = text.split(" ")[0]
            self.assertTrue(text in alone or name in NUMBER_OPERATIONS or name in INDEX_OPERATIONS, text)

    def test_numbers_as_wide_as_a_at_places(self):
        for first, text in enumerate(INSTRUCTIONS):
            name, blank, kind = text.partition(" ")
            if name in NUMBER_OPERATIONS and kind in PLACES:
                for narrow_a in (False, True):
                    for narrow_x in (False, True):
                        self.check_number(first, text, name, kind, narrow_a, narrow_x)

    def check_number(self, first, text, name, kind, narrow_a, narrow_x):
        a, number, flags, wide_left, narrow_left = NUMBER_OPERATIONS[name]
        left = narrow_left if narrow_a else wide_left
        length, pointers, wide_place, narrow_place = PLACES[kind]
        place = narrow_place if narrow_x else wide_place
        before = self.before(narrow_a, narrow_x, a=a, flags=flags)
        widths = before["flags"] & (M | XF)
        self.check(
            text, [first] + BEHIND[:length], before, pointers + [(place, word_bytes(number))],
            {"a": left[0], "flags": left[2] | widths, "pc": 0x8001 + length}, [(place, word_bytes(left[1]))])

    def test_numbers_as_wide_as_x_at_places(self):
        for first, text in enumerate(INSTRUCTIONS):
            name, blank, kind = text.partition(" ")
            if name in INDEX_OPERATIONS and kind in PLACES:
                for narrow_a in (False, True):
                    for narrow_x in (False, True):
                        self.check_index(first, text, name, kind, narrow_a, narrow_x)

    def check_index(self, first, text, name, kind, narrow_a, narrow_x):
        index, number, flags, wide_left, narrow_left = INDEX_OPERATIONS[name]
        left = narrow_left if narrow_x else wide_left
        length, pointers, wide_place, narrow_place = PLACES[kind]
        place = narrow_place if narrow_x else wide_place
        before = self.before(narrow_a, narrow_x, flags=flags)
        widths = before["flags"] & (M | XF)
        self.check(
            text, [first] + BEHIND[:length], before, pointers + [(place, word_bytes(number))],
            {index: left[0], "flags": left[2] | widths, "pc": 0x8001 + length}, [(place, word_bytes(left[1]))])

    def test_numbers_behind_the_first_byte(self):
        for first, text in enumerate(INSTRUCTIONS):
            name, blank, kind = text.partition(" ")
            if kind == "im" and name != "BIT":
                a, number, flags, wide_left, narrow_left = NUMBER_OPERATIONS[name]
                for narrow in (False, True):
                    left = narrow_left if narrow else wide_left
                    before = self.before(narrow, not narrow, a=a, flags=flags)
                    widths = before["flags"] & (M | XF)
                    self.check(
                        text, [first] + word_bytes(number), before, [],
                        {"a": left[0], "flags": left[2] | widths, "pc": 0x8002 if narrow else 0x8003}, [])
            if kind == "ix":
                index, number, flags, wide_left, narrow_left = INDEX_OPERATIONS[name]
                for narrow in (False, True):
                    left = narrow_left if narrow else wide_left
                    before = self.before(not narrow, narrow, flags=flags)
                    widths = before["flags"] & (M | XF)
                    self.check(
                        text, [first] + word_bytes(number), before, [],
                        {index: left[0], "flags": left[2] | widths, "pc": 0x8002 if narrow else 0x8003}, [])

    def test_bit_im_leaves_n_and_v(self):
        for flags in (0, N | V, N, V | C):
            for narrow, a, number, z in (
                    (False, 0x0100, 0xC0FF, Z), (False, 0x0100, 0x0100, 0), (False, 0x8000, 0x8000, 0),
                    (True, 0x0100, 0xC1FF, Z), (True, 0x0180, 0x0080, 0), (True, 0xFF00, 0xFFFF, Z)):
                before = self.before(narrow, False, a=a, flags=flags)
                self.check(
                    "BIT im", [0x89] + word_bytes(number), before, [],
                    {"flags": before["flags"] | z, "pc": 0x8002 if narrow else 0x8003}, [])
                before["flags"] |= Z
                self.check(
                    "BIT im", [0x89] + word_bytes(number), before, [],
                    {"flags": before["flags"] & ~Z | z, "pc": 0x8002 if narrow else 0x8003}, [])

    def test_those_without_a_place_wide(self):
        for text, (behind, values, memory, changes, looks) in WIDE_CASES.items():
            first = INSTRUCTIONS.index(text)
            before = self.before(False, False, **values)
            changes = {"pc": 0x8001 + len(behind), **changes}
            self.check(text, [first] + behind, before, memory, changes, looks)

    def test_those_without_a_place_narrow(self):
        for text, (behind, values, memory, changes, looks) in NARROW_CASES.items():
            first = INSTRUCTIONS.index(text)
            before = self.before(True, True, **values)
            changes = {"pc": 0x8001 + len(behind), **changes}
            if "flags" in changes:
                changes["flags"] += M | XF
            self.check(text, [first] + behind, before, memory, changes, looks)

    def test_one_narrow_the_other_wide(self):
        for text, narrow_a, values, changes in (
                ("TAX", True, {}, {"x": 0x8F31, "flags": M | N}),
                ("TAY", True, {"a": 0x0080}, {"y": 0x0080, "flags": M}),
                ("TAX", False, {}, {"x": 0x31, "flags": XF}),
                ("TXA", True, {"x": 0x1280}, {"a": 0x8F80, "flags": M | N}),
                ("TYA", True, {"y": 0x1200}, {"a": 0x8F00, "flags": M | Z}),
                ("TXA", False, {"x": 0x80}, {"a": 0x0080, "flags": XF}),
                ("TYA", False, {"y": 0x00}, {"a": 0x0000, "flags": XF | Z}),
                ("TXS", True, {}, {"s": 0x0123}),
                ("TSX", False, {"s": 0x1280}, {"x": 0x80, "flags": XF | N}),
                ("PHA", True, {}, {"s": 0x1EFF}), ("PHX", True, {}, {"s": 0x1EFE}),
                ("PHA", False, {}, {"s": 0x1EFE}), ("PHY", False, {}, {"s": 0x1EFF})):
            before = self.before(narrow_a, not narrow_a, **values)
            self.check(text, [INSTRUCTIONS.index(text)], before, [], {"pc": 0x8001, **changes}, [])


if __name__ == "__main__":
    unittest.main()
