"""Branches, jumps, calls and returns beyond PC's ends; interrupts by instructions, and RTI."""

import unittest

from tests.helper import INSTRUCTIONS, C, DF, I, M, N, V, XF, Z, left_by


def first_byte(text):
    return INSTRUCTIONS.index(text)


class BranchTest(unittest.TestCase):
    CONDITIONS = (
        ("BPL r", N, 0), ("BMI r", N, N), ("BVC r", V, 0), ("BVS r", V, V),
        ("BCC r", C, 0), ("BCS r", C, C), ("BNE r", Z, 0), ("BEQ r", Z, Z))

    def test_by_each_flag(self):
        for text, flag, taken in self.CONDITIONS:
            for flags in range(256):
                left = left_by([first_byte(text), 0x20], flags=flags)
                self.assertEqual(left.pc, 0x8022 if flags & flag == taken else 0x8002, (text, flags))
                self.assertEqual(left.flags, flags)

    def test_always(self):
        for flags in (0, 255):
            self.assertEqual(left_by([first_byte("BRA r"), 0x20], flags=flags).pc, 0x8022)
            self.assertEqual(left_by([first_byte("BRL rl"), 0x20, 0x10], flags=flags).pc, 0x9023)

    def test_how_far(self):
        for byte, pc in ((0, 0x8002), (1, 0x8003), (0x7F, 0x8081), (0x80, 0x7F82), (0xFF, 0x8001), (0xFD, 0x7FFF)):
            for text, flags in (("BRA r", 0), ("BNE r", 0), ("BCS r", C)):
                self.assertEqual(left_by([first_byte(text), byte], flags=flags).pc, pc)

    def test_how_far_with_two_bytes(self):
        for low, high, pc in (
                (0, 0, 0x8003), (0xFF, 0x7F, 0x0002), (0x00, 0x80, 0x0003), (0xFF, 0xFF, 0x8002), (0xFD, 0x7F, 0)):
            left = left_by([first_byte("BRL rl"), low, high])
            self.assertEqual((left.pc, left.pb), (pc, 0x12))

    def test_beyond_the_ends_of_pc(self):
        for start, byte, pc in (
                (0x12FFF0, 0x0E, 0x0000), (0x12FFF0, 0x7F, 0x0071), (0x120000, 0xFD, 0xFFFF), (0x120000, 0x80, 0xFF82),
                (0x12FFFE, 0x00, 0x0000), (0x12FFFF, 0x00, 0x0001), (0x12FFFF, 0xFE, 0xFFFF), (0x12FFFE, 0xFF, 0xFFFF),
                (0xFFFFF0, 0x20, 0x0012), (0x000000, 0x80, 0xFF82)):
            left = left_by([first_byte("BRA r"), byte], at=start)
            self.assertEqual((left.pc, left.pb), (pc, start >> 16))

    def test_not_taken_at_the_end_of_a_bank(self):
        for start, pc in ((0x12FFFD, 0xFFFF), (0x12FFFE, 0), (0x12FFFF, 1)):
            left = left_by([first_byte("BNE r"), 0x20], at=start, flags=Z)
            self.assertEqual((left.pc, left.pb), (pc, 0x12))

    def test_per(self):
        for start, low, high, pushed in (
                (0x128000, 0, 0, [0x03, 0x80]), (0x128000, 0xFF, 0xFF, [0x02, 0x80]), (0x128000, 0xFF, 0x7F, [0x02, 0]),
                (0x12FFFE, 0, 0, [0x01, 0x00]), (0x12FFFD, 0xFF, 0xFF, [0xFF, 0xFF])):
            left = left_by([first_byte("PER rl"), low, high], at=start, s=0x1F00, looks=[(0x1EFF, 2)])
            self.assertEqual(left.memory[0x1EFF], pushed)
            self.assertEqual((left.pc, left.pb, left.flags), ((start + 3) % 65536, 0x12, 0))


class JumpTest(unittest.TestCase):
    def test_ai_reads_in_bank_0(self):
        left = left_by(
            [first_byte("JMP ai"), 0xFF, 0xFF], db=0x34,
            memory=[(0xFFFF, [0x34]), (0, [0x12]), (0x12FFFF, [1]), (0x120000, [2]), (0x010000, [3])])
        self.assertEqual((left.pc, left.pb), (0x1234, 0x12))
        left = left_by([first_byte("JMP ai"), 0xFF, 0x20], memory=[(0x20FF, [0x34, 0x12])], e=1)
        self.assertEqual((left.pc, left.pb), (0x1234, 0x12))

    def test_al2_reads_in_bank_0(self):
        for w, memory in (
                (0xFFFE, [(0xFFFE, [0x34, 0x12]), (0, [0x56])]), (0xFFFF, [(0xFFFF, [0x34]), (0, [0x12, 0x56])])):
            left = left_by([first_byte("JML al2"), w & 255, w >> 8], memory=memory)
            self.assertEqual((left.pc, left.pb), (0x1234, 0x56))

    def test_aix_reads_in_pb(self):
        for text in ("JMP aix", "JSR aix"):
            for w, x, memory in (
                    (0xFFFF, 0, [(0x12FFFF, [0x34]), (0x120000, [0x12])]),
                    (0xFFF0, 0x000F, [(0x12FFFF, [0x34]), (0x120000, [0x12])]),
                    (0xFFFF, 0x0001, [(0x120000, [0x34, 0x12])]),
                    (0xFFFF, 0xFFFF, [(0x12FFFE, [0x34, 0x12])]),
                    (0x0002, 0xFFFE, [(0x120000, [0x34, 0x12])])):
                left = left_by([first_byte(text), w & 255, w >> 8], x=x, s=0x1F00, memory=memory)
                self.assertEqual((left.pc, left.pb), (0x1234, 0x12), (text, w, x))
            left = left_by([first_byte(text), 0xFF, 0xFF], at=0xFF8000, memory=[(0xFFFFFF, [0x34]), (0xFF0000, [0x12])])
            self.assertEqual((left.pc, left.pb), (0x1234, 0xFF))

    def test_to_the_ends(self):
        self.assertEqual(left_by([first_byte("JMP a"), 0xFF, 0xFF]).pc, 0xFFFF)
        left = left_by([first_byte("JML al"), 0xFF, 0xFF, 0xFF])
        self.assertEqual((left.pc, left.pb), (0xFFFF, 0xFF))


class CallTest(unittest.TestCase):
    def test_the_last_byte_at_the_end_of_a_bank(self):
        for start, pushed in ((0x12FFFD, [0xFF, 0xFF]), (0x12FFFE, [0x00, 0x00]), (0x12FFFF, [0x01, 0x00])):
            for text in ("JSR a", "JSR aix"):
                left = left_by([first_byte(text), 0x00, 0x90], at=start, s=0x1F00, looks=[(0x1EFF, 2)])
                self.assertEqual(left.memory[0x1EFF], pushed)
        for start, pushed in ((0x12FFFC, [0xFF, 0xFF, 0x12]), (0x12FFFD, [0, 0, 0x12]), (0x12FFFF, [2, 0, 0x12])):
            left = left_by([first_byte("JSL al"), 0x00, 0x90, 0x13], at=start, s=0x1F00, looks=[(0x1EFE, 3)])
            self.assertEqual(left.memory[0x1EFE], pushed)

    def test_all_is_read_before_anything_is_pushed(self):
        # The stack lies over what is behind the first byte, and over the place that is read.
        left = left_by([first_byte("JSR a"), 0x34, 0x12], at=0x008000, s=0x8002)
        self.assertEqual(left.pc, 0x1234)
        left = left_by([first_byte("JSL al"), 0x34, 0x12, 0x56], at=0x008000, s=0x8003, looks=[(0x8000, 4)])
        self.assertEqual((left.pc, left.pb), (0x1234, 0x56))
        self.assertEqual(left.memory[0x8000], [first_byte("JSL al"), 0x03, 0x80, 0x00])
        left = left_by(
            [first_byte("JSR aix"), 0x00, 0x90], at=0x008000, s=0x9001, memory=[(0x9000, [0x34, 0x12])],
            looks=[(0x9000, 2)])
        self.assertEqual((left.pc, left.memory[0x9000]), (0x1234, [0x02, 0x80]))
        left = left_by([first_byte("JSR aix"), 0x00, 0x90], at=0x008000, s=0x8002, memory=[(0x9000, [0x34, 0x12])])
        self.assertEqual(left.pc, 0x1234)
        left = left_by([first_byte("PEA w"), 0x34, 0x12], at=0x008000, s=0x8002, looks=[(0x8001, 2)])
        self.assertEqual(left.memory[0x8001], [0x34, 0x12])
        left = left_by([first_byte("PEI d"), 0x00], s=0x3000, d=0x2FFF, memory=[(0x2FFF, [1, 2])], looks=[(0x2FFF, 2)])
        self.assertEqual(left.memory[0x2FFF], [1, 2])

    def test_there_and_back(self):
        for e, s in ((0, 0x1F00), (0, 0), (0, 1), (1, 0x1FF), (1, 0x100), (1, 0x101)):
            left = left_by(
                [first_byte("JSR a"), 0x00, 0x90], memory=[(0x129000, [first_byte("RTS")])], steps=2, s=s, e=e)
            self.assertEqual((left.pc, left.pb, left.s), (0x8003, 0x12, s))
            left = left_by(
                [first_byte("JSL al"), 0x00, 0x90, 0x45], memory=[(0x459000, [first_byte("RTL")])], steps=2, s=s, e=e)
            self.assertEqual((left.pc, left.pb, left.s), (0x8004, 0x12, s))

    def test_there_and_back_over_the_end_of_a_bank(self):
        left = left_by(
            [first_byte("JSR a"), 0x00, 0x90], at=0x12FFFD, memory=[(0x129000, [first_byte("RTS")])], steps=2, s=0x1F00)
        self.assertEqual((left.pc, left.pb), (0, 0x12))
        left = left_by(
            [first_byte("JSL al"), 0x00, 0x90, 0x45], at=0x12FFFC, memory=[(0x459000, [first_byte("RTL")])], steps=2,
            s=0x1F00)
        self.assertEqual((left.pc, left.pb), (0, 0x12))


class InterruptTest(unittest.TestCase):
    def test_brk_and_cop_in_emulation(self):
        for text, vector in (("BRK i8", 0xFFFE), ("COP i8", 0xFFF4)):
            left = left_by(
                [first_byte(text), 0x99], memory=[(vector, [0x34, 0x12])], s=0x101, e=1, flags=M | XF | DF | N,
                looks=[(0x100, 2), (0x1FF, 1)], db=0x45, d=0x6789)
            self.assertEqual(left.memory, {0x100: [0x02, 0x80], 0x1FF: [M | XF | DF | N]})
            self.assertEqual(
                (left.s, left.pc, left.pb, left.flags, left.db, left.d),
                (0x1FE, 0x1234, 0, M | XF | I | N, 0x45, 0x6789))

    def test_brk_and_cop_out_of_emulation(self):
        for text, vector in (("BRK i8", 0xFFE6), ("COP i8", 0xFFE4)):
            left = left_by(
                [first_byte(text), 0x99], at=0x12FFFF, memory=[(vector, [0x34, 0x12])], s=0x0002, flags=DF | Z | I,
                looks=[(0, 3), (0xFFFF, 1)])
            self.assertEqual(left.memory, {0: [0x01, 0x00, 0x12], 0xFFFF: [DF | Z | I]})
            self.assertEqual((left.s, left.pc, left.pb, left.flags), (0xFFFE, 0x1234, 0, Z | I))

    def test_the_vector_is_read_behind_the_pushes(self):
        left = left_by([first_byte("BRK i8"), 0], memory=[(0xFFE6, [0x34, 0x12])], s=0xFFE8)
        self.assertEqual((left.pc, left.pb), (0x8002, 0))

    def test_rti(self):
        for flags in range(256):
            left = left_by([first_byte("RTI")], memory=[(0xFFFE, [flags, 0x34]), (0, [0x12, 0x45])], s=0xFFFD, x=0x1234)
            self.assertEqual(
                (left.flags, left.pc, left.pb, left.s, left.x),
                (flags, 0x1234, 0x45, 1, 0x34 if flags & XF else 0x1234))
            left = left_by([first_byte("RTI")], memory=[(0x1FE, [flags, 0x34]), (0x100, [0x12, 0x45])], s=0x1FD, e=1)
            self.assertEqual(
                (left.flags, left.pc, left.pb, left.s, left.e), (flags | M | XF, 0x1234, 0x12, 0x100, 1))

    def test_there_and_back(self):
        for e, vector in ((0, 0xFFE6), (1, 0xFFFE)):
            for flags in (M | XF | DF, M | XF | N | V | I | C):
                left = left_by(
                    [first_byte("BRK i8"), 0x99], memory=[(vector, [0x34, 0x12]), (0x1234, [first_byte("RTI")])],
                    at=0x128000 if e == 0 else 0x008000, steps=2, s=0x180, e=e, flags=flags)
                self.assertEqual((left.pc, left.pb, left.s, left.flags), (0x8002, 0x12 if e == 0 else 0, 0x180, flags))


if __name__ == "__main__":
    unittest.main()
