"""Places at the ends of pages and banks and of memory, and the program's bytes at the end of a bank."""

import unittest

from tests.helper import INSTRUCTIONS, M, XF, left_by


def first_byte(text):
    return INSTRUCTIONS.index(text)


# A kind of place; bytes behind the first byte; registers; memory; where the number's two bytes are.
EDGES = (
    ("d", [0x3F], {"d": 0xFFC0}, [], 0x00FFFF, 0x000000),
    ("d", [0xFF], {"d": 0xFFFF}, [], 0x0000FE, 0x0000FF),
    ("d", [0xFF], {"d": 0x0000}, [], 0x0000FF, 0x000100),
    ("d", [0x00], {"d": 0x00FF, "db": 0x34}, [], 0x0000FF, 0x000100),
    ("dx", [0x0F], {"d": 0xFFE0, "x": 0x10}, [], 0x00FFFF, 0x000000),
    ("dx", [0xFF], {"d": 0xFF00, "x": 0x0001}, [], 0x000000, 0x000001),
    ("dx", [0x10], {"d": 0x8000, "x": 0xFFFF}, [], 0x00800F, 0x008010),
    ("dx", [0xFF], {"d": 0xFFFF, "x": 0xFFFF, "db": 0x34}, [], 0x0000FD, 0x0000FE),
    ("dx", [0xFF], {"d": 0x0000, "x": 0xFF}, [], 0x0001FE, 0x0001FF),
    ("di", [0xFF], {"d": 0xFF00, "db": 0x34}, [(0xFFFF, [0xFE]), (0, [0xFF])], 0x34FFFE, 0x34FFFF),
    ("di", [0x10], {"db": 0x34}, [(0x10, [0xFF, 0xFF])], 0x34FFFF, 0x350000),
    ("di", [0x10], {"db": 0xFF}, [(0x10, [0xFF, 0xFF])], 0xFFFFFF, 0x000000),
    ("di", [0x10], {"db": 0x00}, [(0x10, [0xFF, 0xFF])], 0x00FFFF, 0x010000),
    ("di", [0xFF], {"db": 0x34}, [(0xFF, [0x00, 0x60])], 0x346000, 0x346001),
    ("dix", [0xF0], {"d": 0xFF00, "x": 0x0F, "db": 0x34}, [(0xFFFF, [0xFE]), (0, [0xFF])], 0x34FFFE, 0x34FFFF),
    ("dix", [0xFF], {"d": 0xFF00, "x": 0x0101, "db": 0x34}, [(0x100, [0xFF, 0xFF])], 0x34FFFF, 0x350000),
    ("dix", [0x01], {"d": 0x0001, "x": 0xFFFF, "db": 0xFF}, [(0x01, [0xFF, 0xFF])], 0xFFFFFF, 0x000000),
    ("diy", [0xFF], {"d": 0xFF00, "y": 1, "db": 0x34}, [(0xFFFF, [0xFE]), (0, [0xFF])], 0x34FFFF, 0x350000),
    ("diy", [0x10], {"y": 2, "db": 0x34}, [(0x10, [0xFF, 0xFF])], 0x350001, 0x350002),
    ("diy", [0x10], {"y": 0xFFFF, "db": 0xFF}, [(0x10, [0xFF, 0xFF])], 0x00FFFE, 0x00FFFF),
    ("diy", [0x10], {"y": 0xFFFF, "db": 0xFF}, [(0x10, [0x01, 0x00])], 0x000000, 0x000001),
    ("diy", [0x10], {"y": 0, "db": 0x00}, [(0x10, [0xFF, 0xFF])], 0x00FFFF, 0x010000),
    ("dl", [0xFE], {"d": 0xFF00}, [(0xFFFE, [0xFF, 0xFF]), (0, [0x12])], 0x12FFFF, 0x130000),
    ("dl", [0xFF], {"d": 0xFF00}, [(0xFFFF, [0xFF]), (0, [0xFF, 0x34])], 0x34FFFF, 0x350000),
    ("dl", [0x10], {}, [(0x10, [0xFF, 0xFF, 0xFF])], 0xFFFFFF, 0x000000),
    ("dl", [0x10], {"db": 0x34}, [(0x10, [0xFF, 0xFF, 0x00])], 0x00FFFF, 0x010000),
    ("dly", [0xFE], {"d": 0xFF00, "y": 1}, [(0xFFFE, [0xFF, 0xFF]), (0, [0x12])], 0x130000, 0x130001),
    ("dly", [0x10], {"y": 1}, [(0x10, [0xFE, 0xFF, 0xFF])], 0xFFFFFF, 0x000000),
    ("dly", [0x10], {"y": 0xFFFF}, [(0x10, [0xFF, 0xFF, 0xFF])], 0x00FFFE, 0x00FFFF),
    ("dly", [0x10], {"y": 0xFFFF}, [(0x10, [0xFF, 0xFF, 0x12])], 0x13FFFE, 0x13FFFF),
    ("a", [0xFF, 0xFF], {"db": 0x34}, [], 0x34FFFF, 0x350000),
    ("a", [0xFF, 0xFF], {"db": 0xFF}, [], 0xFFFFFF, 0x000000),
    ("a", [0xFF, 0xFF], {"db": 0x00}, [], 0x00FFFF, 0x010000),
    ("ax", [0xFF, 0xFF], {"db": 0x34, "x": 1}, [], 0x350000, 0x350001),
    ("ax", [0xFF, 0xFF], {"db": 0xFF, "x": 0xFFFF}, [], 0x00FFFE, 0x00FFFF),
    ("ax", [0x00, 0xFF], {"db": 0xFF, "x": 0xFF}, [], 0xFFFFFF, 0x000000),
    ("ax", [0xFF, 0xFF], {"db": 0x00, "x": 1}, [], 0x010000, 0x010001),
    ("ay", [0xFF, 0xFF], {"db": 0x34, "y": 1}, [], 0x350000, 0x350001),
    ("ay", [0x00, 0xFF], {"db": 0x34, "y": 0xFF}, [], 0x34FFFF, 0x350000),
    ("ay", [0x01, 0x00], {"db": 0xFF, "y": 0xFFFF}, [], 0x000000, 0x000001),
    ("al", [0xFF, 0xFF, 0x00], {"db": 0x34}, [], 0x00FFFF, 0x010000),
    ("al", [0xFF, 0xFF, 0xFF], {}, [], 0xFFFFFF, 0x000000),
    ("al", [0xFF, 0xFF, 0x12], {}, [], 0x12FFFF, 0x130000),
    ("alx", [0xFF, 0xFF, 0x12], {"x": 1, "db": 0x34}, [], 0x130000, 0x130001),
    ("alx", [0xFF, 0xFF, 0xFF], {"x": 0xFFFF}, [], 0x00FFFE, 0x00FFFF),
    ("alx", [0x00, 0xFF, 0xFF], {"x": 0xFF}, [], 0xFFFFFF, 0x000000),
    ("sr", [0x0F], {"s": 0xFFF0}, [], 0x00FFFF, 0x000000),
    ("sr", [0x01], {"s": 0xFFFF}, [], 0x000000, 0x000001),
    ("sr", [0xFF], {"s": 0xFFFF, "db": 0x34}, [], 0x0000FE, 0x0000FF),
    ("sr", [0x00], {"s": 0x1FFF}, [], 0x001FFF, 0x002000),
    ("siy", [0x0F], {"s": 0xFFF0, "y": 2, "db": 0x34}, [(0xFFFF, [0xFE]), (0, [0xFF])], 0x350000, 0x350001),
    ("siy", [0x10], {"s": 0xFFFF, "y": 0, "db": 0x34}, [(0x0F, [0xFF, 0xFF])], 0x34FFFF, 0x350000),
    ("siy", [0x10], {"s": 0x2000, "y": 0xFFFF, "db": 0xFF}, [(0x2010, [0xFF, 0xFF])], 0x00FFFE, 0x00FFFF),
)


class EdgeTest(unittest.TestCase):
    def check(self, text, operand, registers, memory, where, expected):
        """One step leaves these two bytes, and nothing where the second would lie without its end."""
        low, high = where
        program = [first_byte(text)] + operand
        left = left_by(program, memory=memory, looks=[(low, 1), (high, 1), (behind(low), 1)], **registers)
        self.assertEqual(left.done, 1, text)
        self.assertEqual((left.memory[low] + left.memory[high]), expected, (text, registers))
        if behind(low) != high:
            self.assertEqual(left.memory[behind(low)], [0], (text, registers))
        return left

    def test_read_and_write(self):
        for kind, operand, registers, memory, low, high in EDGES:
            self.read_and_write("A", kind, operand, registers, memory, low, high)

    def test_indexes_at_their_places(self):
        for kind, operand, registers, memory, low, high in EDGES:
            if kind in ("d", "a"):
                self.read_and_write("X", kind, operand, registers, memory, low, high)
                self.read_and_write("Y", kind, operand, registers, memory, low, high)
            if kind == "dx":
                self.read_and_write("Y", kind, operand, registers, memory, low, high)
                moved = {("y" if name == "x" else name): value for name, value in registers.items()}
                self.read_and_write("X", "dy", operand, moved, memory, low, high)

    def read_and_write(self, name, kind, operand, registers, memory, low, high):
        """Both bytes with a wide register, the lower alone with a narrow one, as long as the index then fits."""
        taken = memory + [(low, [0x5A]), (high, [0xC3])]
        value = name.lower()
        loads = f"LD{name} {kind}"
        stores = f"ST{name} {kind}"
        wide = {value: 0x1234, **registers, "flags": 0}
        left = self.check(loads, operand, wide, taken, (low, high), [0x5A, 0xC3])
        self.assertEqual(left.registers[value], 0xC35A, (loads, registers))
        written = wide[value]
        self.check(stores, operand, wide, taken, (low, high), [written & 255, written >> 8])
        if name == "A" or max(registers.get("x", 0), registers.get("y", 0)) < 256:
            narrow = {**wide, "flags": M if name == "A" else XF}
            left = self.check(loads, operand, narrow, taken, (low, high), [0x5A, 0xC3])
            self.assertEqual(left.registers[value], 0x125A if name == "A" else 0x5A, (loads, registers))
            self.check(stores, operand, narrow, taken, (low, high), [written & 255, 0xC3])

    def test_changed_where_they_lie(self):
        for kind, operand, registers, memory, low, high in EDGES:
            if kind in ("d", "dx", "a", "ax"):
                taken = memory + [(low, [0xFF]), (high, [0x12])]
                for name, expected in (
                        ("INC", [0x00, 0x13]), ("DEC", [0xFE, 0x12]), ("ASL", [0xFE, 0x25]), ("ROL", [0xFE, 0x25]),
                        ("LSR", [0x7F, 0x09]), ("ROR", [0x7F, 0x09])):
                    self.check(
                        f"{name} {kind}", operand, {**registers, "flags": 0}, taken, (low, high), expected)
            if kind in ("d", "a"):
                taken = memory + [(low, [0x3F]), (high, [0xF3])]
                for name, expected in (("TSB", [0xFF, 0xFF]), ("TRB", [0x0F, 0xF0])):
                    self.check(
                        f"{name} {kind}", operand, {**registers, "a": 0x0FF0, "flags": 0}, taken, (low, high), expected)

    def test_two_bytes_at_d_pushed(self):
        for d, operand, low, high in ((0xFFC0, 0x3F, 0xFFFF, 0), (0xFFFF, 0xFF, 0xFE, 0xFF), (0xFFFF, 0, 0xFFFF, 0)):
            left = left_by(
                [first_byte("PEI d"), operand], memory=[(low, [0x5A]), (high, [0xC3])], looks=[(0x1EFF, 2)],
                d=d, s=0x1F00)
            self.assertEqual(left.memory[0x1EFF], [0x5A, 0xC3])


def behind(place):
    return (place + 1) % 2 ** 24


class EmulationTest(unittest.TestCase):
    """The older one's manners don't make places stay within a page."""

    def check(self, program, place, memory=(), **registers):
        left = left_by(program, memory=list(memory) + [(place, [0x5A])], e=1, **registers)
        self.assertEqual(left.a & 255, 0x5A)

    def test_places(self):
        self.check([first_byte("LDA dx"), 0xFF], 0x01FE, d=0, x=0xFF)
        self.check([first_byte("LDA dix"), 0xFF], 0x346000, [(0xFF, [0x00, 0x60])], d=0, x=0, db=0x34)
        self.check([first_byte("LDA dix"), 0xFF], 0x346000, [(0x1FE, [0x00, 0x60])], d=0, x=0xFF, db=0x34)
        self.check([first_byte("LDA diy"), 0xFF], 0x346010, [(0xFF, [0x00, 0x60])], d=0, y=0x10, db=0x34)
        self.check([first_byte("LDA sr"), 0x10], 0x020F, s=0x1FF)
        self.check([first_byte("LDA siy"), 0x01], 0x346010, [(0x200, [0x00, 0x60])], s=0x1FF, y=0x10, db=0x34)
        self.check([first_byte("LDA dl"), 0xFF], 0x566000, [(0xFF, [0x00, 0x60, 0x56])], d=0)


class ProgramTest(unittest.TestCase):
    """The program's bytes go on at the first byte of their bank."""

    PROGRAMS = (
        # The text, what is behind the first byte, what has changed.
        ("LDA im", [0x34, 0x12], {"a": 0x1234}),
        ("LDX ix", [0x34, 0x12], {"x": 0x1234}),
        ("LDA d", [0x40], {"a": 0xBBAA}),
        ("LDA dx", [0x30], {"a": 0xBBAA}),
        ("LDX dy", [0x20], {"x": 0xBBAA}),
        ("LDA sr", [0x40], {"a": 0xBBAA}),
        ("LDA di", [0x40], {"a": 0xDDCC}),
        ("LDA dix", [0x30], {"a": 0xDDCC}),
        ("LDA diy", [0x40], {"a": 0xFFEE}),
        ("LDA dl", [0x40], {"a": 0x2211}),
        ("LDA dly", [0x40], {"a": 0x4433}),
        ("LDA siy", [0x40], {"a": 0xFFEE}),
        ("LDA a", [0xAA, 0xBB], {"a": 0xDDCC}),
        ("LDA ax", [0x9A, 0xBB], {"a": 0xDDCC}),
        ("LDA ay", [0xAA, 0xBB], {"a": 0xFFEE}),
        ("LDA al", [0xAA, 0xBB, 0x55], {"a": 0x2211}),
        ("LDA alx", [0x9A, 0xBB, 0x55], {"a": 0x2211}),
        ("SEP i8", [0x81], {"flags": 0x81}),
        ("WDM i8", [0x81], {}),
        ("PEA w", [0x34, 0x12], {"s": 0x1FFE}),
        ("JMP a", [0x34, 0x12], {"pc": 0x1234}),
        ("JMP ai", [0x40, 0x20], {"pc": 0xBBAA}),
        ("JML al", [0x34, 0x12, 0x77], {"pc": 0x1234, "pb": 0x77}),
        ("JML al2", [0x40, 0x20], {"pc": 0xBBAA, "pb": 0x55}),
        ("JSR a", [0x34, 0x12], {"pc": 0x1234, "s": 0x1FFE}),
        ("JSL al", [0x34, 0x12, 0x77], {"pc": 0x1234, "pb": 0x77, "s": 0x1FFD}),
        ("MVN b", [0x34, 0x35], {"a": 0xFFFF, "x": 0x11, "y": 0x21}),
    )
    MEMORY = (
        (0x002040, [0xAA, 0xBB, 0x55]), (0x34BBAA, [0xCC, 0xDD]), (0x34BBCA, [0xEE, 0xFF]),
        (0x55BBAA, [0x11, 0x22]), (0x55BBCA, [0x33, 0x44]))
    BEFORE = {"a": 0, "x": 0x10, "y": 0x20, "d": 0x2000, "s": 0x2000, "db": 0x34, "flags": 0, "e": 0}

    def test_over_the_end_of_a_bank(self):
        for bank in (0x12, 0xFF, 0x00):
            for text, operand, changes in self.PROGRAMS:
                for start in range(0xFFFF - len(operand), 0x10000):
                    self.check(bank, start, text, operand, changes)

    def check(self, bank, start, text, operand, changes):
        asked = {**self.BEFORE, "pb": bank, "pc": (start + 1 + len(operand)) % 65536, **changes}
        left = left_by([first_byte(text)] + operand, at=bank * 65536 + start, memory=self.MEMORY, **self.BEFORE)
        if text.startswith("LD"):
            asked["flags"] = 0x80 if asked[text[2].lower()] >= 0x8000 else 0
        self.assertEqual(left.registers, asked, (text, bank, start))

    def test_narrow_numbers(self):
        for text, name, flags in (("LDA im", "a", M), ("LDX ix", "x", XF), ("LDY ix", "y", XF)):
            left = left_by([first_byte(text), 0x34], at=0x12FFFF, flags=flags)
            self.assertEqual((left.registers[name], left.pc, left.pb), (0x34, 1, 0x12))
            left = left_by([first_byte(text), 0x34], at=0x12FFFE, flags=flags)
            self.assertEqual((left.registers[name], left.pc, left.pb), (0x34, 0, 0x12))

    def test_one_byte_at_the_end(self):
        left = left_by([first_byte("INX"), first_byte("INY")], at=0x12FFFF, steps=2)
        self.assertEqual((left.x, left.y, left.pc, left.pb), (1, 1, 1, 0x12))


if __name__ == "__main__":
    unittest.main()
