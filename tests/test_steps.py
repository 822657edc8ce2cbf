"""Promises 4 and 5: steps, interrupts from outside, waiting and being stopped; cpu_run and cpu_why."""

import unittest

from sixteenbits.machine import answers
from tests.helper import BEGIN, GREATEST, INSTRUCTIONS, WHY, C, DF, I, M, N, XF, Z, ask, get, joined, left_by, load
from tests.helper import look, put, run, split, told_by


def first_byte(text):
    return INSTRUCTIONS.index(text)


NOP, WAI, STP, CLI, SEI, RTI, INX = [first_byte(text) for text in ("NOP", "WAI", "STP", "CLI", "SEI", "RTI", "INX")]
RESET, NMI, IRQ, NO_IRQ = 0, 1, 2, 3
MOST = 10000000

# NMI goes to 0:2000, IRQ to 0:3000, out of emulation; in emulation to 0:2100 and 0:3100.
VECTORS = [
    (0xFFEA, [0x00, 0x20]), (0xFFEE, [0x00, 0x30]), (0xFFFA, [0x00, 0x21]), (0xFFFC, [0x00, 0x40]),
    (0xFFFE, [0x00, 0x31])]


def told_with(program, *calls, **registers):
    """What the calls answer with a program at 0:8000 and vectors, nothing else told; M and X are 1."""
    values = {"e": 0, "flags": M | XF, "s": 0x1F00, "pc": 0x8000, **registers}
    ahead = [put(name, values[name]) for name in ("e", "flags")]
    ahead += [put(name, value) for name, value in values.items() if name not in ("e", "flags")]
    ahead += [load(place, data) for place, data in VECTORS] + [load(0x8000, program)]
    return [answer[0] if len(answer) == 1 else answer[1:] for answer in told_by(*ahead, *calls)[len(ahead):]]


class CountTest(unittest.TestCase):
    def test_all_done(self):
        told = told_with([NOP] * 20, run(0), get("pc"), run(1), get("pc"), run(2), get("pc"), run(10), get("pc"), WHY)
        self.assertEqual(told, [0, 0x8000, 1, 0x8001, 2, 0x8003, 10, 0x800D, 0])

    def test_up_to_stop(self):
        told = told_with([NOP, NOP, STP, NOP], run(10), WHY, get("pc"), run(10), WHY, get("pc"))
        self.assertEqual(told, [3, 2, 0x8003, 0, 2, 0x8003])

    def test_up_to_wait(self):
        told = told_with([NOP, NOP, WAI, NOP], run(10), WHY, get("pc"), run(10), WHY, get("pc"))
        self.assertEqual(told, [3, 1, 0x8003, 0, 1, 0x8003])

    def test_just_as_many_as_there_are(self):
        for last, why in ((WAI, 1), (STP, 2)):
            told = told_with([NOP, last], run(2), WHY, run(1), WHY)
            self.assertEqual(told, [2, 0, 0, why])

    def test_as_first_instruction(self):
        for first, why in ((WAI, 1), (STP, 2)):
            self.assertEqual(told_with([first], run(5), WHY), [1, why])
            self.assertEqual(told_with([first], run(1), WHY), [1, 0])

    def test_run_0_ends_as_all_were_done(self):
        for first, why in ((WAI, 1), (STP, 2)):
            self.assertEqual(told_with([first], run(5), WHY, run(0), WHY, run(5), WHY), [1, why, 0, 0, 0, why])

    def test_interrupts_are_steps(self):
        told = told_with([NOP, NOP], ask(NMI), run(1), get("pc"), WHY)
        self.assertEqual(told, [0, 1, 0x2000, 0])


class WhyTest(unittest.TestCase):
    def test_before_any_run(self):
        self.assertEqual(told_by(WHY), [[0]])
        self.assertEqual(told_with([STP], WHY, ask(RESET), WHY, get(0), WHY), [0, 0, 0, 0, 0])

    def test_of_the_last_run(self):
        told = told_with([WAI, STP], run(5), WHY, WHY, ask(NMI), WHY, run(1), WHY, put("pc", 0x8001), run(5), WHY)
        self.assertEqual(told, [1, 1, 1, 0, 1, 1, 0, 0, 1, 2])

    def test_behind_a_refused_run(self):
        for first, why in ((WAI, 1), (STP, 2)):
            told = told_with([first], run(5), run(MOST + 1), WHY, run(GREATEST), WHY)
            self.assertEqual(told, [1, -1, why, -1, why])
        self.assertEqual(told_with([STP], run(MOST + 1), WHY, run(5), WHY), [-1, 0, 1, 2])

    def test_a_reset_does_not_change_it(self):
        self.assertEqual(told_with([STP], run(5), ask(RESET), WHY, run(0), WHY), [1, 0, 2, 0, 0])

    def test_a_new_machine_has_none(self):
        self.assertEqual(told_with([STP], run(5), WHY, BEGIN, WHY), [1, 2, 0, 0])


class MostTest(unittest.TestCase):
    def test_more_is_refused_and_nothing_done(self):
        for n in (MOST + 1, MOST + 2, 2 ** 24, 2 ** 31, GREATEST):
            told = told_with([INX] * 5, run(n), get("pc"), get("x"), WHY)
            self.assertEqual(told, [-1, 0x8000, 0, 0])

    def test_as_many_as_may_be_in_a_loop(self):
        told = told_with([INX, first_byte("BRA r"), 0xFD], run(MOST), WHY, get("x"), get("pc"), flags=0)
        self.assertEqual(told, [MOST, 0, 5000000 % 65536, 0x8000])

    def test_as_many_as_may_be_in_one_place(self):
        for program, flags in (
                ([first_byte("BRA r"), 0xFE], M | XF), ([first_byte("BRL rl"), 0xFD, 0xFF], M | XF),
                ([first_byte("JMP a"), 0x00, 0x80], M | XF), ([first_byte("BNE r"), 0xFE], N | C),
                ([first_byte("BEQ r"), 0xFE], Z)):
            told = told_with(program, *[run(MOST), WHY] * 20, get("pc"), get("flags"), run(1), get("pc"), flags=flags)
            self.assertEqual(told, [MOST, 0] * 20 + [0x8000, flags, 1, 0x8000])

    def test_what_is_asked_for_is_not_passed_in_one_place(self):
        told = told_with(
            [first_byte("BRA r"), 0xFE], run(MOST), ask(NMI), run(1), get("pc"), put("pc", 0x8000), ask(IRQ),
            run(1000), get("pc"), put("flags", 0), run(1), get("pc"))
        self.assertEqual(told, [MOST, 0, 1, 0x2000, 0, 0, 1000, 0x8000, 0, 1, 0x3000])

    def test_what_moves_or_pushes_is_not_one_place(self):
        left = left_by([first_byte("MVN b"), 1, 2], a=1000, steps=1000)
        self.assertEqual((left.pc, left.a, left.x), (0x8000, 0, 1000))
        told = told_with([first_byte("JSR a"), 0x00, 0x80], run(1000), get("pc"), get("s"), s=0xF000)
        self.assertEqual(told, [1000, 0x8000, 0xF000 - 2000])
        told = told_with(
            [first_byte("BRK i8")], load(0xFFE6, [0x00, 0x80]), run(1000), get("pc"), get("s"), s=0xF000)
        self.assertEqual(told, [0, 1000, 0x8000, 0xF000 - 4000])

    def test_up_to_a_stop_far_away(self):
        # 65536 times 2 instructions, and what is behind them.
        told = told_with([INX, first_byte("BNE r"), 0xFD, STP], run(MOST), WHY, flags=0)
        self.assertEqual(told, [131073, 2])


class InterruptTest(unittest.TestCase):
    def test_nmi(self):
        for flags in (M | XF | DF | N, M | XF | I | C, DF, 0xFF):
            told = told_with(
                [NOP], ask(NMI), run(1), get("pc"), get("pb"), get("s"), get("flags"), look(0x1EFC, 6),
                pb=0x45, pc=0x6789, flags=flags)
            self.assertEqual(told, [
                0, 1, 0x2000, 0, 0x1EFC, (flags | I) & ~DF, [0, flags, 0x89, 0x67, 0x45, 0]])

    def test_nmi_in_emulation(self):
        told = told_with(
            [NOP], ask(NMI), run(1), get("pc"), get("pb"), get("s"), get("flags"), get("e"), look(0x1FF, 1),
            look(0x100, 2), s=0x101, e=1, pb=0x45, pc=0x6789, flags=M | XF | DF | C)
        self.assertEqual(told, [0, 1, 0x2100, 0, 0x1FE, M | XF | I | C, 1, [M | DF | C], [0x89, 0x67]])

    def test_irq(self):
        for flags in (M | XF | DF | N, M | C, DF, 0xFF - I):
            told = told_with(
                [NOP], ask(IRQ), run(1), get("pc"), get("pb"), get("s"), get("flags"), look(0x1EFC, 6),
                pb=0x45, pc=0x6789, flags=flags)
            self.assertEqual(told, [
                0, 1, 0x3000, 0, 0x1EFC, (flags | I) & ~DF, [0, flags, 0x89, 0x67, 0x45, 0]])

    def test_irq_in_emulation(self):
        told = told_with(
            [NOP], ask(IRQ), run(1), get("pc"), get("pb"), get("s"), get("flags"), look(0x1FD, 3),
            s=0x1FF, e=1, pb=0x45, pc=0x6789, flags=M | XF | DF | Z)
        self.assertEqual(told, [0, 1, 0x3100, 0, 0x1FC, M | XF | I | Z, [M | DF | Z, 0x89, 0x67]])

    def test_irq_waits_for_i(self):
        told = told_with([NOP, CLI, NOP], ask(IRQ), *[run(1), get("pc")] * 3, flags=I)
        self.assertEqual(told, [0, 1, 0x8001, 1, 0x8002, 1, 0x3000])

    def test_irq_stays_asked_for(self):
        told = told_with([NOP], load(0x3000, [NOP, CLI, NOP]), ask(IRQ), *[run(1), get("pc")] * 4)
        self.assertEqual(told, [0, 0, 1, 0x3000, 1, 0x3001, 1, 0x3002, 1, 0x3000])

    def test_irq_until_it_is_not_asked_for(self):
        told = told_with(
            [NOP, NOP], load(0x3000, [RTI]), ask(IRQ), *[run(1), get("pc")] * 3, ask(NO_IRQ), *[run(1), get("pc")] * 3)
        self.assertEqual(told, [0, 0, 1, 0x3000, 1, 0x8000, 1, 0x3000, 0, 1, 0x8000, 1, 0x8001, 1, 0x8002])

    def test_irq_not_asked_for_any_more_before_it_came(self):
        self.assertEqual(told_with([NOP], ask(IRQ), ask(NO_IRQ), run(1), get("pc")), [0, 0, 1, 0x8001])

    def test_nmi_once(self):
        told = told_with([NOP, NOP], load(0x2000, [RTI]), ask(NMI), ask(NMI), *[run(1), get("pc")] * 3)
        self.assertEqual(told, [0, 0, 0, 1, 0x2000, 1, 0x8000, 1, 0x8001])

    def test_nmi_before_irq(self):
        told = told_with(
            [NOP], load(0x2000, [RTI]), ask(IRQ), ask(NMI), *[run(1), get("pc")] * 3)
        self.assertEqual(told, [0, 0, 0, 1, 0x2000, 1, 0x8000, 1, 0x3000])

    def test_nmi_is_kept_by_no_irq(self):
        self.assertEqual(told_with([NOP], ask(NMI), ask(NO_IRQ), run(1), get("pc")), [0, 0, 1, 0x2000])

    def test_an_unknown_asking_asks_for_nothing(self):
        for k in (4, 5, 255, 257, GREATEST):
            self.assertEqual(told_with([NOP], ask(k), run(1), get("pc")), [-1, 1, 0x8001])

    def test_asked_for_in_the_midst_of_a_list(self):
        told = told_with([NOP] * 9, load(0x2000, [RTI]), run(3), get("pc"), ask(NMI), run(4), get("pc"))
        self.assertEqual(told, [0, 3, 0x8003, 0, 4, 0x8005])

    def test_the_vectors_are_of_bank_0(self):
        told = told_with([NOP], load(0x45FFEA, [1, 1]), ask(NMI), run(1), get("pc"), pb=0x45, db=0x45)
        self.assertEqual(told, [0, 0, 1, 0x2000])


class WaitTest(unittest.TestCase):
    def test_nothing_ends_it_but_an_interrupt(self):
        told = told_with(
            [WAI, NOP], run(5), WHY, put("a", 5), put("flags", 0), load(0x8001, [INX]), ask(NO_IRQ), run(5), WHY,
            get("pc"))
        self.assertEqual(told, [1, 1, 0, 0, 0, 0, 0, 1, 0x8001])

    def test_nmi_ends_it(self):
        for flags in (0, I):
            told = told_with(
                [WAI, NOP], load(0x2000, [RTI]), run(5), ask(NMI), run(3), WHY, get("pc"), look(0x1EFE, 2),
                flags=M | XF | flags)
            self.assertEqual(told, [0, 1, 0, 3, 0, 0x8002, [0x01, 0x80]])

    def test_irq_ends_it_with_i_0(self):
        told = told_with([WAI, NOP], run(5), ask(IRQ), run(1), WHY, get("pc"), look(0x1EFE, 2))
        self.assertEqual(told, [1, 0, 1, 0, 0x3000, [0x01, 0x80]])

    def test_irq_ends_it_with_i_1_but_is_none(self):
        told = told_with([WAI, INX, NOP], run(5), ask(IRQ), run(1), WHY, get("pc"), get("s"), get("x"), flags=I)
        self.assertEqual(told, [1, 0, 1, 0, 0x8002, 0x1F00, 1])

    def test_no_waiting_behind_that(self):
        told = told_with([WAI, NOP, NOP, NOP], run(5), ask(IRQ), run(1), ask(NO_IRQ), run(2), WHY, get("pc"), flags=I)
        self.assertEqual(told, [1, 0, 1, 0, 2, 0, 0x8004])

    def test_an_irq_taken_back_does_not_end_it(self):
        told = told_with([WAI, NOP], run(5), ask(IRQ), ask(NO_IRQ), run(5), WHY, get("pc"))
        self.assertEqual(told, [1, 0, 0, 0, 1, 0x8001])

    def test_irq_asked_for_already(self):
        told = told_with([WAI, NOP, NOP], ask(IRQ), run(1), run(1), WHY, get("pc"), flags=I)
        self.assertEqual(told, [0, 1, 1, 0, 0x8002])
        told = told_with([WAI, NOP, WAI, WAI, NOP], ask(IRQ), run(5), WHY, get("pc"), flags=I)
        self.assertEqual(told, [0, 5, 0, 0x8005])

    def test_waits_anew(self):
        told = told_with(
            [WAI, WAI, NOP], load(0x2000, [RTI]), run(5), ask(NMI), run(5), WHY, get("pc"), ask(NMI), run(3), WHY,
            get("pc"))
        self.assertEqual(told, [0, 1, 0, 3, 1, 0x8002, 0, 3, 0, 0x8003])

    def test_a_reset_ends_it(self):
        told = told_with([WAI], load(0x4000, [NOP]), run(5), ask(RESET), run(1), WHY, get("pc"))
        self.assertEqual(told, [0, 1, 0, 1, 0, 0x4001])

    def test_a_begin_ends_it(self):
        self.assertEqual(told_with([WAI], run(5), BEGIN, load(0, [NOP]), run(1), get("pc")), [1, 0, 0, 1, 1])

    def test_in_emulation(self):
        told = told_with([WAI, NOP], run(5), WHY, ask(NMI), run(1), get("pc"), look(0x1FD, 3), e=1, s=0x1FF, flags=0xFB)
        self.assertEqual(told, [1, 1, 0, 1, 0x2100, [0xEB, 0x01, 0x80]])


class StopTest(unittest.TestCase):
    def test_nothing_ends_it_but_a_reset(self):
        told = told_with(
            [STP, NOP], run(5), WHY, ask(NMI), run(5), WHY, ask(IRQ), run(5), WHY, put("pc", 0x8001),
            put("flags", 0), run(5), WHY, get("pc"), get("s"))
        self.assertEqual(told, [1, 2, 0, 0, 2, 0, 0, 2, 0, 0, 0, 2, 0x8001, 0x1F00])

    def test_a_reset_ends_it(self):
        told = told_with([STP], load(0x4000, [NOP, NOP]), run(5), ask(RESET), run(2), WHY, get("pc"))
        self.assertEqual(told, [0, 1, 0, 2, 0, 0x4002])

    def test_a_begin_ends_it(self):
        self.assertEqual(told_with([STP], run(5), BEGIN, load(0, [NOP]), run(1), get("pc")), [1, 0, 0, 1, 1])

    def test_nmi_asked_for_meanwhile_is_gone_with_a_reset(self):
        told = told_with([STP], load(0x4000, [NOP, NOP]), run(5), ask(NMI), ask(RESET), run(1), get("pc"))
        self.assertEqual(told, [0, 1, 0, 0, 1, 0x4001])

    def test_irq_asked_for_meanwhile_is_not(self):
        told = told_with([STP], load(0x4000, [CLI, NOP]), run(5), ask(IRQ), ask(RESET), run(2), get("pc"))
        self.assertEqual(told, [0, 1, 0, 0, 2, 0x3100])


class LongListTest(unittest.TestCase):
    def test_300_calls(self):
        calls = joined(BEGIN, put("pc", 0x8000), load(0x8000, [INX] * 300), *[run(1)] * 296, get("x"))
        told = split(answers(calls))
        self.assertEqual(len(told), 300)
        self.assertEqual(told[3:], [[1]] * 296 + [[296 % 256]])

    def test_300_runs_of_many_steps(self):
        calls = joined(BEGIN, load(0, [first_byte("JMP a"), 0, 0]), *[run(MOST)] * 298)
        self.assertEqual(split(answers(calls))[2:], [[MOST]] * 298)

    def test_empty_memory(self):
        # BRK at 0:0 goes to 0:0: a step pushes three bytes in emulation.
        told = told_by(run(200000), get("pc"), get("s"), get("flags"), look(0x100, 4))
        self.assertEqual(told[:4], [[200000], [0], [0x100 + (0xFF - 600000) % 256], [M | XF | I]])


if __name__ == "__main__":
    unittest.main()
