"""Promise 1: cpu_begin."""

import unittest

from sixteenbits.machine import answers
from tests.helper import BEGIN, GET_ALL, MEMORY, WHY, ask, get, load, look, put, put_all, run, same, told_by

# A, X, Y, D, S, PC, PB, DB, flags (M, X, I), emulation.
NEW = [[0], [0], [0], [0], [0x1FF], [0], [0], [0], [32 + 16 + 4], [1]]
NOP, WAI, STP = 0xEA, 0xCB, 0xDB


class BeginTest(unittest.TestCase):
    def test_answers_0(self):
        self.assertEqual(answers(BEGIN), [1, 0])

    def test_memory_is_0(self):
        for at in (0, 1, 255, 256, 65535, 65536, 0xFFFC, MEMORY // 2, MEMORY - 65536):
            n = min(65536, MEMORY - at)
            same(told_by(look(at, n)), [[0] + [0] * n])

    def test_all_of_memory_is_0(self):
        # Two lists, as the answers of one are at most 10000000 numbers.
        for half in (range(128), range(128, 256)):
            told = told_by(*[look(bank * 65536, 65536) for bank in half])
            same(told, [[0] * 65537] * 128)

    def test_registers(self):
        self.assertEqual(told_by(GET_ALL), NEW)

    def test_nothing_is_asked_for(self):
        # BRK's vector is 0; an interrupt from outside would push its flags without bit 16.
        told = told_by(put("flags", 0), load(0, [NOP, NOP]), run(2), get("pc"), get("s"), WHY)
        self.assertEqual(told[2:], [[2], [2], [0x1FF], [0]])


class AnewTest(unittest.TestCase):
    def test_memory(self):
        places = [0, 0xFFFC, 65536, MEMORY - 2]
        loads = [load(at, [7, 9]) for at in places]
        looks = [look(at, 2) for at in places]
        told = told_by(*loads, ask(1), ask(2), ask(0), *looks, BEGIN, *looks)
        self.assertEqual(told, [[0]] * 7 + [[0, 7, 9]] * 4 + [[0]] + [[0, 0, 0]] * 4)

    def test_what_the_program_wrote(self):
        # STA to 45:1234, PHA to 1:FF and so on.
        program = [0xA9, 0x77, 0x8F, 0x34, 0x12, 0x45, 0x48, STP]
        told = told_by(
            load(0, program), run(10), look(0x451234, 1), look(0x1FF, 1), BEGIN,
            look(0x451234, 1), look(0x1FF, 1), look(0, 8))
        self.assertEqual(told[1:], [[4], [0, 0x77], [0, 0x77], [0], [0, 0], [0, 0], [0] * 9])

    def test_registers(self):
        used = put_all(
            e=0, flags=0xCB, a=0x1111, x=0x2222, y=0x3333, d=0x4444, s=0x5555, pc=0x6666, pb=0x77, db=0x88)
        self.assertEqual(told_by(used, BEGIN, GET_ALL)[-10:], NEW)

    def test_what_was_asked_for(self):
        told = told_by(ask(1), ask(2), BEGIN, put("flags", 0), load(0, [NOP, NOP]), run(2), get("pc"), get("s"))
        self.assertEqual(told[-3:], [[2], [2], [0x1FF]])

    def test_waiting_and_stopped(self):
        for first in (WAI, STP):
            told = told_by(load(0, [first]), run(5), BEGIN, load(0, [NOP, NOP]), run(2), get("pc"))
            self.assertEqual(told, [[0], [1], [0], [0], [2], [2]])

    def test_answers_0_each_time(self):
        self.assertEqual(answers(BEGIN * 300), [1, 0] * 300)

    def test_loads_behind_it_are_kept(self):
        told = told_by(load(3, [1, 2, 3]), BEGIN, load(4, [8]), look(2, 5))
        self.assertEqual(told, [[0], [0], [0], [0, 0, 0, 8, 0, 0]])


if __name__ == "__main__":
    unittest.main()
