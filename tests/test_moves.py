"""MVN and MVP: a byte is a step."""

import unittest

from tests.helper import C, M, N, V, XF, Z, ask, joined, left_by, run

MVN, MVP, NOP = 0x54, 0x44, 0xEA


class MoveTest(unittest.TestCase):
    def test_byte_by_byte(self):
        data = [1, 2, 3, 4, 5]
        for steps in range(6):
            left = left_by(
                [MVN, 0x45, 0x67, NOP], memory=[(0x672000, data)], looks=[(0x453000, 6)], steps=steps,
                a=4, x=0x2000, y=0x3000, db=0x11, flags=N | V | Z | C)
            self.assertEqual(left.done, steps)
            self.assertEqual(left.memory[0x453000], data[:steps] + [0] * (6 - steps))
            self.assertEqual((left.x, left.y, left.a), (0x2000 + steps, 0x3000 + steps, (4 - steps) % 65536))
            self.assertEqual((left.pc, left.pb), (0x8003 if steps == 5 else 0x8000, 0x12))
            self.assertEqual((left.db, left.flags), (0x45 if steps else 0x11, N | V | Z | C))

    def test_byte_by_byte_downwards(self):
        data = [1, 2, 3, 4, 5]
        for steps in range(6):
            left = left_by(
                [MVP, 0x45, 0x67, NOP], memory=[(0x672000, data)], looks=[(0x453000, 5)], steps=steps,
                a=4, x=0x2004, y=0x3004, db=0x11)
            self.assertEqual(left.memory[0x453000], [0] * (5 - steps) + data[5 - steps:])
            self.assertEqual((left.x, left.y, left.a), (0x2004 - steps, 0x3004 - steps, (4 - steps) % 65536))
            self.assertEqual((left.pc, left.pb), (0x8003 if steps == 5 else 0x8000, 0x12))
            self.assertEqual(left.db, 0x45 if steps else 0x11)

    def test_on_behind_the_last_byte(self):
        left = left_by([MVN, 0x45, 0x67, NOP, NOP], a=1, steps=4)
        self.assertEqual((left.done, left.pc, left.a), (4, 0x8005, 0xFFFF))

    def test_across_the_ends_of_a_bank(self):
        left = left_by(
            [MVN, 0x45, 0x67], memory=[(0x67FFFF, [7]), (0x670000, [8, 9])], looks=[(0x45FFFE, 3), (0x450000, 2)],
            steps=3, a=2, x=0xFFFF, y=0xFFFE)
        self.assertEqual(left.memory, {0x45FFFE: [7, 8, 0], 0x450000: [9, 0]})
        self.assertEqual((left.x, left.y), (2, 1))
        left = left_by(
            [MVP, 0x45, 0x67], memory=[(0x67FFFE, [9, 8]), (0x670000, [7])],
            looks=[(0x44FFFF, 1), (0x450000, 2), (0x45FFFF, 1)], steps=3, a=2, x=0, y=1)
        self.assertEqual(left.memory, {0x44FFFF: [0], 0x450000: [8, 7], 0x45FFFF: [9]})
        self.assertEqual((left.x, left.y), (0xFFFD, 0xFFFE))

    def test_at_the_end_of_memory(self):
        left = left_by(
            [MVN, 0xFF, 0xFF], memory=[(0xFFFFFF, [7]), (0xFF0000, [8]), (0, [5])], looks=[(0xFF2000, 2), (0, 1)],
            steps=2, a=1, x=0xFFFF, y=0x2000)
        self.assertEqual(left.memory, {0xFF2000: [7, 8], 0: [5]})

    def test_narrow_indexes(self):
        left = left_by(
            [MVN, 0x45, 0x67], memory=[(0x6700FF, [7, 1]), (0x670000, [8])], looks=[(0x4500FE, 3), (0x450000, 1)],
            steps=3, a=2, x=0xFF, y=0xFE, flags=XF)
        self.assertEqual(left.memory, {0x4500FE: [7, 8, 0], 0x450000: [0]})
        self.assertEqual((left.x, left.y, left.a), (2, 1, 0xFFFF))
        left = left_by(
            [MVP, 0x45, 0x67], memory=[(0x670000, [7]), (0x6700FF, [8])], looks=[(0x450000, 2), (0x4500FF, 2)],
            steps=2, a=1, x=0, y=0, flags=XF)
        self.assertEqual(left.memory, {0x450000: [7, 0], 0x4500FF: [8, 0]})
        self.assertEqual((left.x, left.y, left.a), (0xFE, 0xFE, 0xFFFF))

    def test_all_of_a_counts_though_it_is_narrow(self):
        for flags, e in ((M, 0), (M | XF, 0), (M | XF, 1)):
            left = left_by([MVN, 0x45, 0x67], a=0x0100, steps=257, flags=flags, e=e)
            self.assertEqual((left.a, left.pc, left.done), (0xFFFF, 0x8003, 257))
            left = left_by([MVN, 0x45, 0x67], a=0x0100, steps=256, flags=flags, e=e)
            self.assertEqual((left.a, left.pc), (0, 0x8000))

    def test_65536_bytes(self):
        left = left_by(
            [MVN, 0x45, 0x67], memory=[(0x67FFF0, [number + 1 for number in range(16)])], looks=[(0x45FFF0, 16)],
            a=0xFFFF, steps=70000)
        self.assertEqual(left.memory[0x45FFF0], [number + 1 for number in range(16)])
        # The bank's other bytes are 0: BRK goes on from behind the move.
        self.assertEqual(left.done, 70000)
        left = left_by([MVN, 0x45, 0x67], a=0xFFFF, steps=65535)
        self.assertEqual((left.a, left.pc, left.x, left.y), (0, 0x8000, 0xFFFF, 0xFFFF))
        left = left_by([MVN, 0x45, 0x67], a=0xFFFF, steps=65536)
        self.assertEqual((left.a, left.pc, left.x, left.y), (0xFFFF, 0x8003, 0, 0))

    def test_over_each_other(self):
        left = left_by([MVN, 0x45, 0x45], memory=[(0x452000, [9, 1, 2, 3])], looks=[(0x452000, 5)],
                       a=2, x=0x2000, y=0x2001, steps=3)
        self.assertEqual(left.memory[0x452000], [9, 9, 9, 9, 0])
        left = left_by([MVP, 0x45, 0x45], memory=[(0x452000, [9, 1, 2, 3])], looks=[(0x452000, 5)],
                       a=3, x=0x2003, y=0x2004, steps=4)
        self.assertEqual(left.memory[0x452000], [9, 9, 1, 2, 3])

    def test_over_its_own_bytes(self):
        # The second byte moved makes it an MVP, the third one moves to another bank, the fourth from another one.
        left = left_by(
            [MVN, 0x12, 0x67], memory=[(0x672000, [NOP, MVP])], looks=[(0x127FFF, 4)],
            a=3, x=0x2000, y=0x7FFF, steps=2)
        self.assertEqual(left.memory[0x127FFF], [NOP, MVP, 0x12, 0x67])
        self.assertEqual((left.pc, left.x, left.y, left.a), (0x8000, 0x2002, 0x8001, 1))
        left = left_by(
            [MVN, 0x12, 0x67], memory=[(0x672000, [NOP, MVP, 7])], looks=[(0x128000, 3)],
            a=3, x=0x2000, y=0x7FFF, steps=3)
        self.assertEqual((left.pc, left.x, left.y, left.a), (0x8000, 0x2001, 0x8000, 0))
        self.assertEqual(left.memory[0x128000], [MVP, 7, 0x67])
        left = left_by(
            [MVN, 0x12, 0x67], memory=[(0x672000, [0x45, 0x68]), (0x682002, [8])], looks=[(0x128000, 4), (0x458003, 1)],
            a=2, x=0x2000, y=0x8001, steps=2)
        self.assertEqual((left.memory[0x128000], left.db), ([MVN, 0x45, 0x67, 0], 0x45))
        self.assertEqual(left.y, 0x8003)

    def test_over_its_own_first_byte(self):
        left = left_by(
            [MVN, 0x12, 0x67], memory=[(0x672000, [NOP])], looks=[(0x128000, 1)], a=5, x=0x2000, y=0x8000, steps=2)
        self.assertEqual((left.memory[0x128000], left.pc, left.a, left.x), ([NOP], 0x8001, 4, 0x2001))

    def test_at_the_end_of_a_bank(self):
        for start in (0x12FFFD, 0x12FFFE, 0x12FFFF):
            left = left_by([MVN, 0x45, 0x67], at=start, a=1, steps=1, x=0x2000, y=0x2000)
            self.assertEqual((left.pc, left.pb, left.db), (start & 65535, 0x12, 0x45))
            left = left_by([MVN, 0x45, 0x67], at=start, a=1, steps=2, x=0x2000, y=0x2000)
            self.assertEqual((left.pc, left.pb, left.db), ((start + 3) & 65535, 0x12, 0x45))

    def test_an_interrupt_between_two_bytes(self):
        left = left_by(
            [MVN, 0x45, 0x67], memory=[(0xFFEA, [0x34, 0x12]), (0x1234, [0x40]), (0x672000, [1, 2, 3])], a=2,
            x=0x2000, y=0x3000, s=0x1F00, before=[joined(run(1), ask(1))], looks=[(0x1EFD, 4), (0x453000, 4)], steps=4)
        self.assertEqual(left.memory, {0x1EFD: [0, 0x00, 0x80, 0x12], 0x453000: [1, 2, 3, 0]})
        self.assertEqual((left.pc, left.pb, left.a), (0x8003, 0x12, 0xFFFF))


if __name__ == "__main__":
    unittest.main()
