"""Promise 3: cpu_ask."""

import unittest

from sixteenbits.cpu import Cpu
from sixteenbits.machine import answers, cpu_ask
from tests.helper import BEGIN, GREATEST, MEMORY, ask, joined, load, look, told_by

NOT_ASKED = (4, 5, 255, 256, 257, 65536, 2 ** 24, 2 ** 31, 2 ** 32 - 4, GREATEST)


def used_cpu():
    """A machine out of emulation, with nothing left as cpu_begin made it."""
    cpu = Cpu()
    cpu.emulation = False
    cpu.a = 0xABCD
    cpu.x = 0x1234
    cpu.y = 0x5678
    cpu.d = 0x9ABC
    cpu.s = 0xDEF0
    cpu.pc = 0x1111
    cpu.pb = 0x22
    cpu.db = 0x33
    cpu.flags = 128 + 64 + 8 + 2 + 1
    cpu.waiting = True
    cpu.stopped = True
    cpu.nmi_asked = True
    cpu.irq_asked = True
    cpu.memory.put_many(0xFFFB, [0x01, 0x78, 0x56, 0x02])
    cpu.memory.put_many(0x22FFFC, [0x44, 0x55])
    return cpu


def state(cpu):
    kept = dict(vars(cpu))
    kept["memory"] = {number: list(page) for number, page in cpu.memory.pages.items()}
    return kept


class AnswerTest(unittest.TestCase):
    def test_known_numbers_answer_0(self):
        self.assertEqual(answers(joined(BEGIN, ask(0), ask(1), ask(2), ask(3))), [1, 0] * 5)

    def test_again_and_in_any_order(self):
        for k in (3, 1, 2, 0):
            self.assertEqual(told_by(ask(k), ask(k)), [[0], [0]])

    def test_others_are_refused(self):
        for k in NOT_ASKED:
            self.assertEqual(answers(joined(BEGIN, ask(k))), [1, 0, 1, -1])

    def test_others_do_nothing(self):
        for k in NOT_ASKED:
            cpu = used_cpu()
            self.assertEqual(cpu_ask(cpu, k), [-1])
            self.assertEqual(state(cpu), state(used_cpu()))

    def test_memory_stays(self):
        places = (0, 0xFFF8, 65535, MEMORY - 8)
        for k in (0, 1, 2, 3, 4, GREATEST):
            loads = [load(at, [1, 2, 3, 4, 5, 6, 7, 8][:MEMORY - at]) for at in places]
            looks = [look(at, 8) for at in places]
            told = told_by(*loads, *looks, ask(k), *looks)
            self.assertEqual(told[4:8], told[9:])


class InterruptTest(unittest.TestCase):
    def changed_by(self, k, **before):
        cpu = used_cpu()
        for name, value in before.items():
            setattr(cpu, name, value)
        was = state(cpu)
        self.assertEqual(cpu_ask(cpu, k), [0])
        now = state(cpu)
        return {name: now[name] for name in now if now[name] != was[name]}

    def test_nmi(self):
        self.assertEqual(self.changed_by(1, nmi_asked=False), {"nmi_asked": True})
        self.assertEqual(self.changed_by(1, nmi_asked=True), {})

    def test_irq(self):
        self.assertEqual(self.changed_by(2, irq_asked=False), {"irq_asked": True})
        self.assertEqual(self.changed_by(2, irq_asked=True), {})

    def test_irq_no_more(self):
        self.assertEqual(self.changed_by(3, irq_asked=True), {"irq_asked": False})
        self.assertEqual(self.changed_by(3, irq_asked=False), {})


class ResetTest(unittest.TestCase):
    def test_state(self):
        cpu = used_cpu()
        self.assertEqual(cpu_ask(cpu, 0), [0])
        asked = state(used_cpu())
        asked.update({
            "emulation": True, "x": 0x34, "y": 0x78, "s": 0x1F0, "d": 0, "db": 0, "pb": 0, "pc": 0x5678,
            "flags": 128 + 64 + 32 + 16 + 4 + 2 + 1,
            "waiting": False, "stopped": False, "nmi_asked": False})
        self.assertEqual(state(cpu), asked)

    def test_only_i_and_d_change_in_emulation(self):
        for flags in range(256):
            cpu = Cpu()
            cpu.flags = flags | 48
            cpu_ask(cpu, 0)
            self.assertEqual(cpu.flags, (flags | 48 | 4) & 0xF7)

    def test_s_stays_where_it_may_be(self):
        for s in (256, 300, 511):
            cpu = Cpu()
            cpu.s = s
            cpu_ask(cpu, 0)
            self.assertEqual(cpu.s, s)

    def test_s_keeps_its_lower_byte(self):
        for s, asked in ((0, 256), (255, 511), (512, 256), (65535, 511)):
            cpu = used_cpu()
            cpu.s = s
            cpu_ask(cpu, 0)
            self.assertEqual(cpu.s, asked)

    def test_an_irq_not_asked_for_stays_so(self):
        cpu = Cpu()
        cpu_ask(cpu, 0)
        self.assertFalse(cpu.irq_asked)

    def test_on_at_the_vector_with_the_lower_byte_first(self):
        for low, high in ((0, 0), (1, 0), (0, 1), (255, 255), (0x34, 0x12)):
            cpu = Cpu()
            cpu.memory.put_many(0xFFFC, [low, high])
            cpu_ask(cpu, 0)
            self.assertEqual(cpu.pc, low + 256 * high)
