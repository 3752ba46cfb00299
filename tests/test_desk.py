"""Point 25: the desk and its lines."""

import random
import unittest
from unittest import mock

from brimful.desk import Desk
from brimful.errors import BadLine
from brimful.programs import Program
from brimful.sources import format_source
from brimful.three import compile_source
from tests.samples import GREATEST, all_sources, cost_of, inputs_of, source_of_cost, value_of

PRODUCT = "$0; $1; #0 * #1; #2 + #0"
# All that a line may show of a desk with the modulus 10, the memory 1,2,3 and this source.
STATE = (("cost", "5"), ("run 4,7", "2 memory 1,2,3"), ("stop 5 4,7", "3,2,3 then 1,2,3"), ("judge", "unknown"))


def desk_with(*lines):
    desk = Desk()
    for line in lines:
        desk.do(line)
    return desk


def full_desk():
    return desk_with("modulus 10", "memory 1,2,3", f"source {PRODUCT}")


class DeskTest(unittest.TestCase):
    def check_state(self, desk):
        for line, told in STATE:
            self.assertEqual(desk.do(line), told)

    def reject(self, desk, *lines):
        for line in lines:
            with self.subTest(line=line), self.assertRaises(BadLine):
                desk.do(line)

    def reject_all(self, *lines):
        """No line of these is followed, and none changes anything."""
        desk = full_desk()
        for line in lines:
            self.reject(desk, line)
            self.check_state(desk)


class AnswersTest(DeskTest):
    def test_each_line(self):
        desk = Desk()
        for line, told in (("modulus 10", "ok"), ("memory 1,2,3", "ok"), (f"source {PRODUCT}", "ok"), ("cost", "5"),
                           ("run 4,7", "2 memory 1,2,3"), ("run 0,0", "0 memory 1,2,3"), ("stop 0 4,7", "1,2,3 then 1,2,3"),
                           ("stop 5 4,7", "3,2,3 then 1,2,3"), ("judge", "unknown"), ("memory 9,9,9", "ok"),
                           ("run 9,9", "0 memory 9,9,9"), ("stop 5 9,8", "0,9,9 then 9,9,9"), ("modulus 2", "ok"),
                           ("source $0; #0 * #0", "ok"), ("cost", "4"), ("judge", "clean"), ("memory 0,1,1", "ok"),
                           ("run 1", "1 memory 0,1,1")):
            with self.subTest(line):
                found = desk.do(line)
                self.assertEqual(found, told)
                self.assertIs(type(found), str)

    def test_kinds_of_nodes(self):
        for text, given, told in (("7", "-", "7"), ("123456789", "-", "789"), ("$0", "5", "5"), ("$1", "5,6", "6"),
                                  ("$0; 5 * #0", "7", "35"), ("$0; $1; $2; #0 ? #1 : #2", "1,2,3", "2"),
                                  ("$0; $1; $2; #0 ? #1 : #2", "0,2,3", "3"), ("$0; #0 + #0", "700", "400")):
            desk = desk_with("modulus 1000", "memory 999,5,6", f"source {text}")
            self.assertEqual(desk.do(f"run {given}"), f"{told} memory 999,5,6")

    def test_sources(self):
        for at, source in enumerate(all_sources()):
            chance = random.Random(at)
            for modulus in (2, 10, 10 ** 9):
                desk = desk_with(f"modulus {modulus}", f"source {format_source(source)}")
                self.assertEqual(desk.do("cost"), str(cost_of(source)))
                memory = [chance.randrange(modulus) for _ in range(3)]
                given = [chance.randrange(modulus) for _ in range(inputs_of(source))]
                cells, inputs = ",".join(map(str, memory)), ",".join(map(str, given)) or "-"
                self.assertEqual(desk.do(f"memory {cells}"), "ok")
                self.assertEqual(desk.do(f"run {inputs}"), f"{value_of(source, modulus, given)} memory {cells}")
                program = compile_source(source, modulus)
                for n in {0, 1, len(program) // 2, len(program)}:
                    middle = ",".join(map(str, program.part(n).run(memory, given)))
                    self.assertEqual(desk.do(f"stop {n} {inputs}"), f"{middle} then {cells}")
                self.assertEqual(desk.do(f"run {inputs}"), f"{value_of(source, modulus, given)} memory {cells}")

    def test_judge(self):
        for modulus, text, told in ((2, "$0; $1; #0 * #1", "clean"), (3, "$0; #0 * #0; #1 * #0", "clean"), (5, "7", "clean"),
                                    (53, "7", "clean"), (53, "$0", "unknown"), (59, "7", "unknown"), (4, "7", "unknown"),
                                    (10 ** 9, "7", "unknown"), (999999937, "7", "unknown"), (2, "$12", "clean"),
                                    (2, "$16", "unknown")):
            with self.subTest(modulus=modulus, text=text):
                self.assertEqual(desk_with(f"modulus {modulus}", f"source {text}").do("judge"), told)

    def test_judge_of_programs_that_are_not_clean(self):
        # No source has such a program: this one stands in the place of the compiled one.
        for steps, told in (([("swap", 1, 2)], "spoilt"), ([("scale", 0, 2)], "leaky"), ([("add", 0, 1, ())], "clean")):
            with mock.patch("brimful.desk.compile_source", return_value=Program(3, 3, 0, steps)):
                desk = desk_with("modulus 3", "source 5")
            self.assertEqual(desk.do("judge"), told)

    def test_the_greatest_cost(self):
        desk = desk_with("modulus 10", "memory 1,2,3", f"source {format_source(source_of_cost(20000))}")
        self.assertEqual(desk.do("cost"), "20000")
        self.assertEqual(desk.do("stop 20000 7"), "1,2,3 then 1,2,3")
        self.assertEqual(desk.do("stop 19999 7"), "4,2,3 then 1,2,3")
        self.assertEqual(desk.do("run 9"), "0 memory 1,2,3")
        self.reject(desk, "stop 20001 7", f"source {format_source(source_of_cost(20001))}")
        self.assertEqual(desk.do("cost"), "20000")

    def test_two_desks(self):
        one, other = full_desk(), Desk()
        self.reject(other, "cost", "run 4,7")
        other.do("modulus 5")
        self.check_state(one)


class OrderTest(DeskTest):
    def test_without_a_modulus(self):
        self.reject(Desk(), "memory 1,2,3", "memory 0,0,0", "source 5", "cost", "run -", "run 1,2", "stop 0 -", "judge")

    def test_without_a_source(self):
        for desk in (desk_with("modulus 10"), desk_with("modulus 10", "memory 1,2,3")):
            self.reject(desk, "cost", "run -", "run 1,2", "stop 0 -", "judge")
            self.assertEqual(desk.do("source 5"), "ok")

    def test_without_a_memory(self):
        desk = desk_with("modulus 10", f"source {PRODUCT}")
        self.reject(desk, "run 4,7", "stop 0 4,7", "stop 5 4,7")
        self.assertEqual((desk.do("cost"), desk.do("judge")), ("5", "unknown"))
        desk.do("memory 1,2,3")
        self.check_state(desk)

    def test_modulus_forgets_memory_and_source(self):
        for modulus in (10, 11):
            desk = full_desk()
            desk.do(f"modulus {modulus}")
            self.reject(desk, "cost", "run 4,7", "stop 0 4,7", "judge")
            desk.do(f"source {PRODUCT}")
            self.reject(desk, "run 4,7", "stop 0 4,7")
            desk.do("memory 1,2,3")
            self.assertEqual(desk.do("run 4,7"), f"{32 % modulus} memory 1,2,3")

    def test_the_memory_stays_for_another_source_and_the_other_way_round(self):
        desk = full_desk()
        desk.do("source 6")
        self.assertEqual(desk.do("run -"), "6 memory 1,2,3")
        desk.do("memory 7,8,9")
        self.assertEqual((desk.do("cost"), desk.do("run -")), ("1", "6 memory 7,8,9"))

    def test_memory_and_source_in_either_order(self):
        self.check_state(desk_with("modulus 10", f"source {PRODUCT}", "memory 1,2,3"))
        self.check_state(desk_with("modulus 10", "memory 1,2,3", f"source {PRODUCT}"))


class NumbersTest(DeskTest):
    def test_moduli(self):
        for modulus in (2, 3, 10 ** 9):
            self.assertEqual(Desk().do(f"modulus {modulus}"), "ok")
        self.reject_all("modulus 0", "modulus 1", "modulus 1000000001", "modulus -5", "modulus +5", "modulus 05", "modulus 5.0",
                        "modulus 5,", "modulus -", "modulus five", "modulus 0x5", "modulus 1_0", "modulus True", "modulus #5")

    def test_memories(self):
        desk = full_desk()
        for memory in ("0,0,0", "9,9,9", "0,5,2"):
            self.assertEqual(desk.do(f"memory {memory}"), "ok")
            self.assertEqual(desk.do("run 1,1"), f"2 memory {memory}")
        self.reject_all("memory -", "memory 1", "memory 1,2", "memory 1,2,3,4", "memory 1,2,10", "memory 10,2,3", "memory 1,-2,3",
                        "memory 1,+2,3", "memory 01,2,3", "memory 1,2,00", "memory 1,2,", "memory ,1,2", "memory 1,,2",
                        "memory 1,2,3,", "memory ,1,2,3", "memory ,,", "memory 1,2,x", "memory 1;2;3", "memory 1, 2, 3",
                        "memory 1 2 3", "memory 1,2, 3", "memory [1,2,3]", "memory -,-,-", "memory 1,-,3")

    def test_inputs(self):
        self.reject_all("run -", "run 4", "run 4,7,1", "run 4,10", "run 10,4", "run 4,", "run ,4", "run 4,7,", "run ,4,7",
                        "run 4,,7", "run 04,7", "run 4,07", "run -4,7", "run +4,7", "run 4, 7", "run 4 7", "run x,7", "run 4;7",
                        "run -,-", "run (4,7)", "run --")
        for line in ("-", "4", "4,7,1", "4,10", "04,7", "4,", "4, 7", "4 7", "-4,7", "+4,7"):
            self.reject_all(f"stop 0 {line}", f"stop 5 {line}")
        desk = desk_with("modulus 10", "memory 1,2,3", "source 5")
        self.assertEqual(desk.do("run -"), "5 memory 1,2,3")
        self.assertEqual(desk.do("stop 1 -"), "6,2,3 then 1,2,3")
        self.reject(desk, "run 0", "run", "run --", "run 0,0", "stop 1 0", "stop 1", "stop -")
        desk.do("source $0")
        self.assertEqual(desk.do("run 0"), "0 memory 1,2,3")
        self.assertEqual(desk.do("run 9"), "9 memory 1,2,3")
        self.reject(desk, "run -", "run 00", "run 10", "run 0,", "run 0,0")

    def test_numbers_of_steps(self):
        desk = full_desk()
        for n in range(6):
            self.assertTrue(desk.do(f"stop {n} 4,7").endswith(" then 1,2,3"))
        self.reject_all("stop 6 4,7", "stop 20000 4,7", "stop -1 4,7", "stop +1 4,7", "stop 01 4,7", "stop 00 4,7", "stop 1, 4,7",
                        "stop - 4,7", "stop x 4,7", "stop 4,7", "stop 4,7 1", "stop 1.0 4,7", f"stop {10 ** 20} 4,7")

    def test_numbers_of_many_figures(self):
        for figures in (10, 39, 40, 41, 100, 5000):
            for number in ("1" * figures, "0" * figures, "0" * (figures - 1) + "5"):
                self.reject_all(f"modulus {number}", f"memory 1,2,{number}", f"memory {number},2,3", f"run 4,{number}",
                                f"stop {number} 4,7", f"stop 0 {number},7", f"source {number}", f"source 5; {number} * #0",
                                f"source ${number}", f"source 5; #{number} + #0")

    def test_figures_of_other_scripts(self):
        for five in ("\u0665", "\uff15", "\u00b2", "\u2464"):
            self.reject_all(f"modulus {five}", f"memory 1,2,{five}", f"run 4,{five}", f"stop {five} 4,7", f"source {five}")


class LinesTest(DeskTest):
    def test_unknown_words(self):
        self.reject_all("", "-", "5", "ok", "Modulus 5", "MODULUS 5", "mod 5", "moduli 5", "memory: 1,2,3", "sources 5", "Cost",
                        "costs", "Run 4,7", "runs 4,7", "halt 0 4,7", "judges", "clean", "quit", "do cost", "memory", "modulus5")

    def test_words_too_many_or_too_few(self):
        self.reject_all("modulus", "modulus 5 5", "modulus 5 -", "memory", "memory 1,2,3 4", "memory 1,2,3 -", "source", "cost 5",
                        "cost -", "run", "run 4,7 -", "run 4,7 1", "run 0 4,7", "stop", "stop 0", "stop 0 4,7 -", "stop 4,7",
                        "stop 0 0 4,7", "judge 0", "judge -", "judge clean", "modulus 10 memory 1,2,3", "cost judge")

    def test_blanks(self):
        lines = ("modulus 10", "memory 1,2,3", f"source {PRODUCT}", "source 5", "cost", "run 4,7", "stop 0 4,7", "judge")
        for line in lines:
            self.reject_all(f" {line}", f"{line} ", f"  {line}", f"{line}  ", f" {line} ", line + "\n", "\n" + line, line + "\t",
                            "\t" + line, line + "\r", line + "\u00a0", line.replace(" ", "\t", 1) + "\t")
            for at, sign in enumerate(line):
                if sign == " ":
                    self.reject_all(line[:at] + " " + line[at:], line[:at] + "\t" + line[at + 1:], line[:at] + "\n" + line[at + 1:])
        self.reject_all(" ", "  ", "\n", "\t")

    def test_source_texts(self):
        self.reject_all("source x", "source -", "source -5", "source +5", "source 05", "source 1000000000", "source $60",
                        "source $-1", "source #0", "source #0 + #0", "source 5; #0 + #1", "source 5; #1 * #0", "source 5;#0 + #0",
                        "source 5; #0+#0", "source 5;  #0 + #0", "source 5 ; #0 + #0", "source 5; ", "source 5;", "source ; 5",
                        "source 5; #0 - #0", "source 5; #0 ? #0", "source 5; #0 * 5", "source 5 5", "source source 5",
                        "source " + "; ".join(["5"] * 201))
        self.assertEqual(full_desk().do("source " + "; ".join(["5"] * 200)), "ok")
        self.assertEqual(full_desk().do(f"source {GREATEST}; {GREATEST} * #0"), "ok")

    def test_no_strings(self):
        for line in (None, 0, True, b"cost", ["cost"], ("cost",), {"cost": 1}, ["modulus", "10"], 1.0):
            self.reject_all(line)

    def test_a_new_desk_is_not_changed_either(self):
        desk = Desk()
        self.reject(desk, "modulus 1", "modulus 10 ", "memory 1,2,3")
        self.reject(desk, "source 5", "cost")
        desk.do("modulus 10")
        self.reject(desk, "memory 1,2", "memory 1,2,10", "source", "source x")
        self.reject(desk, "cost", "run -", "judge")
        desk.do("source 5")
        self.reject(desk, "run -", "stop 0 -")

    def test_interface(self):
        self.assertIn("do", vars(Desk))
        self.assertEqual(Desk.__module__, "brimful.desk")


if __name__ == "__main__":
    unittest.main()
