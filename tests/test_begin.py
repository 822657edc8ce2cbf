"""Promise 1: cpu_begin."""

import unittest

from sixteenbits.cpu import Cpu
from sixteenbits.machine import answers, cpu_begin
from tests.helper import BEGIN, MEMORY, ask, load, look, same, told_by


def state(cpu):
    kept = dict(vars(cpu))
    del kept["memory"]
    return kept


NEW_STATE = {
    "a": 0, "x": 0, "y": 0, "d": 0, "s": 0x1FF, "pc": 0, "pb": 0, "db": 0,
    "flags": 32 + 16 + 4, "emulation": True, "waiting": False, "stopped": False,
    "nmi_asked": False, "irq_asked": False,
}


class BeginTest(unittest.TestCase):
    def test_answers_0(self):
        self.assertEqual(answers(BEGIN), [1, 0])

    def test_memory_is_0(self):
        for at in (0, 1, 255, 256, 65535, 65536, 0xFFFC, MEMORY // 2, MEMORY - 65536):
            n = min(65536, MEMORY - at)
            same(told_by(look(at, n)), [[0] + [0] * n])

    def test_all_of_memory_is_0(self):
        # Two lists, as the answers of one are at most 10000000 numbers.
        for half in (range(128), range(128, 256)):
            told = told_by(*[look(bank * 65536, 65536) for bank in half])
            same(told, [[0] * 65537] * 128)

    def test_registers(self):
        self.assertEqual(state(Cpu()), NEW_STATE)

    def test_anew_makes_memory_0(self):
        places = [0, 0xFFFC, 65536, MEMORY - 2]
        loads = [load(at, [7, 9]) for at in places]
        looks = [look(at, 2) for at in places]
        told = told_by(*loads, ask(1), ask(2), ask(0), *looks, BEGIN, *looks)
        self.assertEqual(told, [[0]] * 7 + [[0, 7, 9]] * 4 + [[0]] + [[0, 0, 0]] * 4)

    def test_anew_makes_the_state_new(self):
        cpu = Cpu()
        for name in NEW_STATE:
            setattr(cpu, name, 1)
        cpu.emulation = False
        cpu.flags = 0xCB
        cpu.memory.put(5, 5)
        self.assertEqual(cpu_begin(cpu), [0])
        self.assertEqual(state(cpu), NEW_STATE)
        self.assertEqual(cpu.memory.tell(5), 0)

    def test_anew_answers_0_each_time(self):
        self.assertEqual(answers(BEGIN * 300), [1, 0] * 300)

    def test_loads_behind_a_new_begin_are_kept(self):
        told = told_by(load(3, [1, 2, 3]), BEGIN, load(4, [8]), look(2, 5))
        self.assertEqual(told, [[0], [0], [0], [0, 0, 0, 8, 0, 0]])
