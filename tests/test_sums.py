"""ADC and SBC of either width, binary and with D, with C 0 and 1: all of the bytes, and many of the words."""

import unittest

from tests.helper import INSTRUCTIONS, C, DF, M, N, V, Z, joined, left_by, load, look, put_all, run, told_by

FLAGS = N | V | Z | C

WORDS = (
    0x0000, 0x0001, 0x0009, 0x000A, 0x000F, 0x0010, 0x0099, 0x00FF, 0x0100, 0x0999, 0x0F0F, 0x1234, 0x4999, 0x5000,
    0x5555, 0x7FFE, 0x7FFF, 0x8000, 0x8001, 0x8765, 0x9999, 0x9A9A, 0xA5A5, 0xAAAA, 0xF0F0, 0xFFFE, 0xFFFF)


def first_byte(text):
    return INSTRUCTIONS.index(text)


def signed(number, bits):
    return number - 2 ** bits if number >= 2 ** (bits - 1) else number


def binary(name, one, other, carry, bits):
    """What comes out, and the flags, by numbers with a sign and without."""
    if name == "ADC":
        total = one + other + carry
        exact = signed(one, bits) + signed(other, bits) + carry
        c = total >= 2 ** bits
    else:
        total = one - other - (1 - carry)
        exact = signed(one, bits) - signed(other, bits) - (1 - carry)
        c = total >= 0
    out = total % 2 ** bits
    v = not -2 ** (bits - 1) <= exact < 2 ** (bits - 1)
    return out, noted(out, bits) | (V if v else 0) | (C if c else 0)


def decimal(name, one, other, carry, bits):
    """The same digit by digit; V as of the binary numbers."""
    digits = []
    for shift in range(0, bits, 4):
        a, b = one >> shift & 15, other >> shift & 15
        if name == "ADC":
            digit = a + b + carry
            carry = int(digit > 9)
            digits.append((digit + 6 * carry) % 16)
        else:
            digit = a - b - (1 - carry)
            carry = int(digit >= 0)
            digits.append((digit + 10 * (1 - carry)) % 16)
    out = sum(digit << 4 * place for place, digit in enumerate(digits))
    return out, noted(out, bits) | carry


def noted(out, bits):
    return (N if out >> bits - 1 else 0) | (Z if out == 0 else 0)


def asked(name, one, other, carry, bits, with_d):
    out, flags = binary(name, one, other, carry, bits)
    if not with_d:
        return out, flags
    overflow = flags & V
    out, flags = decimal(name, one, other, carry, bits)
    return out, flags | overflow


class WrittenOutTest(unittest.TestCase):
    """Examples with their answers written out."""

    def check(self, name, one, other, flags, out, flags_out):
        left = left_by([first_byte(f"{name} im"), other & 255, other >> 8], a=one, flags=flags)
        self.assertEqual((left.a, left.flags), (out, flags_out | flags & (M | DF)), (name, one, other, flags))

    def test_binary_bytes(self):
        self.check("ADC", 0x1250, 0x10, M, 0x1260, 0)
        self.check("ADC", 0x1250, 0x50, M, 0x12A0, N | V)
        self.check("ADC", 0x1250, 0x90, M, 0x12E0, N)
        self.check("ADC", 0x1250, 0xD0, M, 0x1220, C)
        self.check("ADC", 0x12D0, 0x90, M, 0x1260, V | C)
        self.check("ADC", 0x12FF, 0x00, M | C, 0x1200, Z | C)
        self.check("ADC", 0x127F, 0x00, M | C, 0x1280, N | V)
        self.check("SBC", 0x1250, 0xF0, M | C, 0x1260, 0)
        self.check("SBC", 0x1250, 0xB0, M | C, 0x12A0, N | V)
        self.check("SBC", 0x12D0, 0x70, M | C, 0x1260, V | C)
        self.check("SBC", 0x1250, 0x50, M | C, 0x1200, Z | C)
        self.check("SBC", 0x1250, 0x50, M, 0x12FF, N)
        self.check("SBC", 0x1280, 0x00, M, 0x127F, V | C)

    def test_binary_words(self):
        self.check("ADC", 0x7FFF, 0x0001, 0, 0x8000, N | V)
        self.check("ADC", 0xFFFF, 0x0000, C, 0x0000, Z | C)
        self.check("ADC", 0x8000, 0x8000, 0, 0x0000, Z | V | C)
        self.check("ADC", 0x00FF, 0x0001, 0, 0x0100, 0)
        self.check("SBC", 0x8000, 0x0001, C, 0x7FFF, V | C)
        self.check("SBC", 0x0000, 0x0001, C, 0xFFFF, N)
        self.check("SBC", 0x0100, 0x0001, C, 0x00FF, C)
        self.check("SBC", 0x1234, 0x1234, C, 0x0000, Z | C)
        self.check("SBC", 0x7FFF, 0xFFFF, C, 0x8000, N | V)

    def test_decimal_bytes(self):
        self.check("ADC", 0x1245, 0x38, M | DF, 0x1283, N)
        self.check("ADC", 0x1299, 0x00, M | DF | C, 0x1200, Z | C)
        self.check("ADC", 0x1258, 0x46, M | DF | C, 0x1205, V | C)
        self.check("ADC", 0x1209, 0x01, M | DF, 0x1210, 0)
        self.check("ADC", 0x1280, 0x80, M | DF, 0x1260, V | C)
        self.check("SBC", 0x1246, 0x12, M | DF | C, 0x1234, C)
        self.check("SBC", 0x1240, 0x13, M | DF | C, 0x1227, C)
        self.check("SBC", 0x1232, 0x02, M | DF, 0x1229, C)
        self.check("SBC", 0x1212, 0x21, M | DF | C, 0x1291, N)
        self.check("SBC", 0x1221, 0x34, M | DF | C, 0x1287, N)
        self.check("SBC", 0x1200, 0x00, M | DF, 0x1299, N)

    def test_decimal_digits_above_9(self):
        # F and F and 1: 31, above 9: 37, of which 5 stays; the next digit gets 1, never 2.
        self.check("ADC", 0x120F, 0x0F, M | DF | C, 0x1215, 0)
        self.check("ADC", 0x12FF, 0xFF, M | DF | C, 0x1255, C)
        self.check("ADC", 0x120A, 0x00, M | DF, 0x1210, 0)
        self.check("ADC", 0xFFFF, 0xFFFF, DF | C, 0x5555, C)
        # 0 less F less 1: -16, 10 more: -6, modulo 16: A.
        self.check("SBC", 0x1200, 0x0F, M | DF, 0x129A, N)
        self.check("SBC", 0x1200, 0xFF, M | DF, 0x12AA, N)
        self.check("SBC", 0x120F, 0x01, M | DF | C, 0x120E, C)
        self.check("SBC", 0x0000, 0xFFFF, DF, 0xAAAA, N)

    def test_decimal_words(self):
        self.check("ADC", 0x1999, 0x0001, DF, 0x2000, 0)
        self.check("ADC", 0x9999, 0x0001, DF, 0x0000, Z | C)
        self.check("ADC", 0x1234, 0x8766, DF, 0x0000, Z | C)
        self.check("ADC", 0x4999, 0x3000, DF | C, 0x8000, N)
        self.check("ADC", 0x5000, 0x5000, DF, 0x0000, Z | V | C)
        self.check("SBC", 0x1000, 0x0001, DF | C, 0x0999, C)
        self.check("SBC", 0x0000, 0x0001, DF | C, 0x9999, N)
        self.check("SBC", 0x8000, 0x0001, DF | C, 0x7999, V | C)
        self.check("SBC", 0x2000, 0x2000, DF | C, 0x0000, Z | C)


class EveryByteTest(unittest.TestCase):
    """A program adds every byte to every byte; what comes out and the flags are kept in banks 2 and 3."""

    def program(self, name, carry, with_d):
        texts = (
            ("LDA d", 0x10), ("SEP i8" if carry else "REP i8", C), ("SEP i8" if with_d else "REP i8", DF),
            (f"{name} d", 0x11), ("STA alx", 0, 0, 2), ("PHP",), ("PLA",), ("STA alx", 0, 0, 3), ("INX",),
            ("INC d", 0x11),
        )
        code = joined(*[[first_byte(text[0]), *text[1:]] for text in texts])
        code += [first_byte("BNE r"), -len(code) - 2 & 255, first_byte("INC d"), 0x10]
        code += [first_byte("BNE r"), -len(code) - 2 & 255, first_byte("STP")]
        return code

    def check(self, name, carry, with_d):
        told = told_by(
            put_all(e=0, flags=M, s=0x1FF, pc=0x8000), load(0x8000, self.program(name, carry, with_d)),
            run(2000000), look(0x20000, 65536), look(0x30000, 65536))
        sums, flags = told[-2][1:], told[-1][1:]
        for one in range(256):
            for other in range(256):
                out, flags_out = asked(name, one, other, carry, 8, with_d)
                at = one * 256 + other
                if (sums[at], flags[at] & FLAGS) != (out, flags_out):
                    self.fail(f"{name} {one} {other}, C {carry}, D {with_d}: {sums[at]} {flags[at]}")

    def test_adc(self):
        for carry in (0, 1):
            self.check("ADC", carry, False)
            self.check("ADC", carry, True)

    def test_sbc(self):
        for carry in (0, 1):
            self.check("SBC", carry, False)
            self.check("SBC", carry, True)


class ManyWordsTest(unittest.TestCase):
    """The same for pairs of words that lie in banks 4 and 5."""

    def program(self, name, carry, with_d):
        texts = (
            ("LDA alx", 0, 0, 4), ("SEP i8" if carry else "REP i8", C), ("SEP i8" if with_d else "REP i8", DF),
            # The flags are pushed twice, to be pulled as a word.
            (f"{name} ax", 0, 0), ("STA alx", 0, 0, 2), ("PHP",), ("PHP",), ("PLA",), ("STA alx", 0, 0, 3),
            ("INX",), ("INX",), ("DEY",),
        )
        code = joined(*[[first_byte(text[0]), *text[1:]] for text in texts])
        return code + [first_byte("BNE r"), -len(code) - 2 & 255, first_byte("STP")]

    def check(self, name, carry, with_d):
        pairs = [(one, other) for one in WORDS for other in WORDS]
        ones = joined(*[[one & 255, one >> 8] for one, other in pairs])
        others = joined(*[[other & 255, other >> 8] for one, other in pairs])
        told = told_by(
            put_all(e=0, flags=0, s=0x1FF, pc=0x8000, db=5, y=len(pairs)),
            load(0x8000, self.program(name, carry, with_d)), load(0x40000, ones), load(0x50000, others),
            run(100000), look(0x20000, len(ones)), look(0x30000, len(ones)))
        sums, flags = told[-2][1:], told[-1][1:]
        for number, (one, other) in enumerate(pairs):
            out = sums[2 * number] + 256 * sums[2 * number + 1]
            self.assertEqual(
                (out, flags[2 * number] & FLAGS), asked(name, one, other, carry, 16, with_d),
                (name, one, other, carry, with_d))

    def test_all(self):
        for name in ("ADC", "SBC"):
            for carry in (0, 1):
                self.check(name, carry, False)
                self.check(name, carry, True)


if __name__ == "__main__":
    unittest.main()
