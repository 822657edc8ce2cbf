"""Promise 3: cpu_ask. What an interrupt that was asked for does is told in test_steps."""

import unittest

from sixteenbits.machine import answers
from tests.helper import BEGIN, GET_ALL, GREATEST, MEMORY, REGISTERS, ask, get, joined, load, look, put, put_all, run
from tests.helper import told_by

NOT_ASKED = (4, 5, 255, 256, 257, 65536, 2 ** 24, 2 ** 31, 2 ** 32 - 4, GREATEST)
NOP, WAI, STP, CLI = 0xEA, 0xCB, 0xDB, 0x58

# A machine out of emulation, with nothing left as cpu_begin made it.
USED = {
    "e": 0, "flags": 128 + 64 + 8 + 2 + 1, "a": 0xABCD, "x": 0x1234, "y": 0x5678, "d": 0x9ABC, "s": 0xDEF0,
    "pc": 0x1111, "pb": 0x22, "db": 0x33}
MAKE_USED = joined(
    put_all(**USED), load(0xFFFB, [0x01, 0x78, 0x56, 0x02]), load(0x22FFFC, [0x44, 0x55]), load(0x33FFFC, [0x66, 0x77]))


def registers(*calls):
    told = told_by(*calls, GET_ALL)[-10:]
    return dict(zip(REGISTERS, [answer[0] for answer in told]))


class AnswerTest(unittest.TestCase):
    def test_known_numbers_answer_0(self):
        self.assertEqual(answers(joined(BEGIN, ask(0), ask(1), ask(2), ask(3))), [1, 0] * 5)

    def test_again_and_in_any_order(self):
        for k in (3, 1, 2, 0):
            self.assertEqual(told_by(ask(k), ask(k)), [[0], [0]])

    def test_others_are_refused(self):
        for k in NOT_ASKED:
            self.assertEqual(answers(joined(BEGIN, ask(k))), [1, 0, 1, -1])

    def test_others_do_nothing(self):
        for k in NOT_ASKED:
            self.assertEqual(registers(MAKE_USED, ask(k)), USED)
            told = told_by(put("flags", 0), load(0, [NOP]), ask(k), run(1), get("pc"), get("s"))
            self.assertEqual(told[2:], [[-1], [1], [1], [0x1FF]])

    def test_memory_stays(self):
        places = (0, 0xFFF8, 65535, MEMORY - 8)
        for k in (0, 1, 2, 3, 4, GREATEST):
            loads = [load(at, [1, 2, 3, 4, 5, 6, 7, 8][:MEMORY - at]) for at in places]
            looks = [look(at, 8) for at in places]
            told = told_by(*loads, *looks, ask(k), *looks)
            self.assertEqual(told[4:8], told[9:])

    def test_asking_for_an_interrupt_changes_no_register(self):
        for k in (1, 2, 3):
            self.assertEqual(registers(MAKE_USED, ask(k)), USED)


class ResetTest(unittest.TestCase):
    def test_registers(self):
        self.assertEqual(registers(MAKE_USED, ask(0)), {
            "e": 1, "flags": 128 + 64 + 32 + 16 + 4 + 2 + 1, "a": 0xABCD, "x": 0x34, "y": 0x78, "d": 0, "s": 0x1F0,
            "pc": 0x5678, "pb": 0, "db": 0})

    def test_only_i_and_d_change_in_emulation(self):
        for flags in range(256):
            now = registers(put("flags", flags), ask(0))
            self.assertEqual(now["flags"], (flags | 32 | 16 | 4) & 0xF7)

    def test_flags_out_of_emulation(self):
        for flags in range(256):
            now = registers(put("e", 0), put("flags", flags), ask(0))
            self.assertEqual((now["flags"], now["e"]), ((flags | 32 | 16 | 4) & 0xF7, 1))

    def test_s_stays_where_it_may_be(self):
        for s in (256, 300, 511):
            self.assertEqual(registers(put("s", s), ask(0))["s"], s)

    def test_s_keeps_its_lower_byte(self):
        for s, asked in ((0, 256), (255, 511), (512, 256), (65535, 511)):
            self.assertEqual(registers(put("e", 0), put("s", s), ask(0))["s"], asked)

    def test_on_at_the_vector_with_the_lower_byte_first(self):
        for low, high in ((0, 0), (1, 0), (0, 1), (255, 255), (0x34, 0x12)):
            self.assertEqual(registers(load(0xFFFC, [low, high]), ask(0))["pc"], low + 256 * high)

    def test_it_runs_on_there(self):
        told = told_by(load(0xFFFC, [0x00, 0x40]), load(0x4000, [0xE8, 0xE8]), ask(0), run(2), get("x"), get("pc"))
        self.assertEqual(told[3:], [[2], [2], [0x4002]])

    def test_not_waiting_and_not_stopped(self):
        for first in (WAI, STP):
            told = told_by(
                load(0xFFFC, [0x00, 0x40]), load(0x4000, [NOP, NOP]), load(0, [first]),
                run(5), ask(0), run(2), get("pc"))
            self.assertEqual(told[3:], [[1], [0], [2], [0x4002]])

    def test_nmi_is_not_asked_for_any_more(self):
        told = told_by(load(0xFFFC, [0x00, 0x40]), load(0x4000, [NOP, NOP]), ask(1), ask(0), run(2), get("pc"))
        self.assertEqual(told[4:], [[2], [0x4002]])

    def test_an_irq_stays_asked_for(self):
        for k, pc in ((2, 0x5000), (3, 0x4002)):
            told = told_by(
                load(0xFFFC, [0x00, 0x40, 0x00, 0x50]), load(0x4000, [CLI, NOP]), ask(k), ask(0), run(2), get("pc"))
            self.assertEqual(told[4:], [[2], [pc]])


if __name__ == "__main__":
    unittest.main()
