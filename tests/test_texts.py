"""Point 9: the textual form of sources, there and back."""

import copy
import random
import unittest

from brimful.errors import BadText
from brimful.sources import format_source, parse_source
from tests.samples import GREATEST, all_sources, squares

# The text of each kind of node, with nodes before it to which it can refer.
PAIRS = (
    ("0", (("const", 0),)),
    ("7", (("const", 7),)),
    ("999999999", (("const", GREATEST),)),
    ("$0", (("input", 0),)),
    ("$59", (("input", 59),)),
    ("1; 2; #0 + #1", (("const", 1), ("const", 2), ("sum", 0, 1))),
    ("1; 2; #1 * #0", (("const", 1), ("const", 2), ("product", 1, 0))),
    ("1; 12 * #0", (("const", 1), ("scaled", 12, 0))),
    ("1; 0 * #0", (("const", 1), ("scaled", 0, 0))),
    ("1; 999999999 * #0", (("const", 1), ("scaled", GREATEST, 0))),
    ("1; 2; 3; #2 ? #0 : #1", (("const", 1), ("const", 2), ("const", 3), ("choose", 2, 0, 1))),
    ("$3; 10; #0 + #1; #2 * #2; 5 * #3; #4 ? #3 : #2",
     (("input", 3), ("const", 10), ("sum", 0, 1), ("product", 2, 2), ("scaled", 5, 3), ("choose", 4, 3, 2))),
)
WHOLE = PAIRS[-1][0]


class FormatTest(unittest.TestCase):
    def test_each_kind_of_node(self):
        for text, source in PAIRS:
            with self.subTest(text):
                self.assertEqual(format_source(source), text)

    def test_there_and_back(self):
        for source in all_sources():
            with self.subTest(source):
                self.assertEqual(parse_source(format_source(source)), source)

    def test_long_sources(self):
        source = squares(200)
        text = format_source(source)
        self.assertTrue(text.startswith("$0; #0 * #0; #1 * #1; "))
        self.assertTrue(text.endswith("; #198 * #198"))
        self.assertEqual(parse_source(text), source)

    def test_the_source_stays(self):
        source = PAIRS[-1][1]
        before = copy.deepcopy(source)
        format_source(source)
        self.assertEqual(source, before)


class ParseTest(unittest.TestCase):
    def reject(self, *texts):
        for text in texts:
            with self.subTest(text=repr(text)[:90]), self.assertRaises(BadText):
                parse_source(text)

    def test_each_kind_of_node(self):
        for text, source in PAIRS:
            with self.subTest(text):
                self.assertEqual(parse_source(text), source)

    def test_the_kinds_of_what_is_returned(self):
        source = parse_source(WHOLE)
        self.assertIs(type(source), tuple)
        for node in source:
            self.assertIs(type(node), tuple)
            self.assertIs(type(node[0]), str)
            self.assertEqual([type(part) for part in node[1:]], [int] * (len(node) - 1))

    def test_leading_zeros(self):
        self.reject("00", "01", "007", "$00", "$01", "1; 01 * #0", "1; 00 * #0", "1; 2 * #00", "1; 2; #0 + #01",
                    "1; #00 + #0", "1; #0 * #00", "1; #00 * #0", "1; #00 ? #0 : #0", "1; #0 ? #00 : #0",
                    "1; #0 ? #0 : #00")

    def test_signs(self):
        self.reject("-1", "+1", "-0", "+0", "$-1", "$+1", "-$1", "1; -2 * #0", "1; +2 * #0", "1; 2 * #-0", "1; 2 * #+0",
                    "1; #+0 + #0", "1; #-0 + #0", "1; #0 + -#0", "1; #0 * -0", "1; #-1 * #0")

    def test_blanks(self):
        for at in range(len(WHOLE) + 1):
            self.reject(WHOLE[:at] + " " + WHOLE[at:])
            if at < len(WHOLE) and WHOLE[at] == " ":
                self.reject(WHOLE[:at] + WHOLE[at + 1:])
        self.reject(" ", "  ", " 7", "7 ", "$ 0", "$0 ", "1;2", "1 ; 2", "1;  2", "1; 2 ", "1; # 0 + #0")

    def test_other_white_space(self):
        for white in ("\t", "\n", "\r", "\r\n", "\v", "\f", "\u00a0", "\u2003", "\x00", "\x1c"):
            for at in range(len(WHOLE) + 1):
                self.reject(WHOLE[:at] + white + WHOLE[at:])
                if at < len(WHOLE) and WHOLE[at] == " ":
                    self.reject(WHOLE[:at] + white + WHOLE[at + 1:])

    def test_empty_texts_and_empty_nodes(self):
        self.reject("", ";", "; ", "; 7", "7;", "7; ", "7; ; 7", "7; ; ", "$", "#", "1; #", "1;  * #0", "1; 2 * #",
                    "1; # + #0", "1; #0 ?  : #0")

    def test_what_is_no_text(self):
        self.reject(None, True, False, 0, 7, 1.0, b"7", b"", [], ["7"], (), ("7",), {}, (("const", 7),))

    def test_other_digits(self):
        for digit in ("\u0663", "\u00b2", "\u2460", "\uff17", "\u0967", "\u2167", "\U0001d7d7", "x", "a", "_"):
            self.reject(digit, "1" + digit, digit + "1", "$" + digit, "1; 2; #" + digit + " + #0", "1; 2" + digit + " * #0")
        self.reject("0x1", "1_0", "1e3", "1.0", "1,0", "0b1", "ten", "1L", "$1_0")

    def test_integers_beyond_the_bounds(self):
        self.reject("1000000000", "9999999999", "1" + "0" * 40, "9" * 5000, "$60", "$100", "$1000000000", "$" + "1" * 5000,
                    "1; 1000000000 * #0", "1; " + "3" * 5000 + " * #0", "1; 2 * #" + "1" * 5000, "1; #0 + #" + "2" * 5000)

    def test_references_to_the_node_itself_or_a_later_one(self):
        for at in ("1", "2", "3", "199", "200", "1000"):
            for node in ("#A + #0", "#0 + #A", "#A * #0", "#0 * #A", "5 * #A", "#A ? #0 : #0", "#0 ? #A : #0",
                         "#0 ? #0 : #A"):
                text = "1; " + node.replace("A", at)
                self.reject(text, text + "; 3; 4")
        self.reject("#0 + #0", "#0 * #0", "1 * #0", "#0 ? #0 : #0")

    def test_number_of_nodes(self):
        self.assertEqual(parse_source("; ".join(["3"] * 200)), (("const", 3),) * 200)
        self.reject("; ".join(["3"] * 201), "; ".join(["3"] * 5000))

    def test_other_signs(self):
        self.reject("$0; $0 + $0", "1; 2 * 3", "1; 2 + #0", "1; #0 + 2", "1; #0 * 2", "1; #0 - #0", "1; #0 / #0",
                    "1; #0 ? #0 ; #0", "1; #0 : #0 ? #0", "1; #0 ? #0", "1; #0 ? #0 : #0 : #0", "1; #0 + #0 + #0", "1; #0",
                    "1; $0 * #0", "1; 2 * $0", "1; #0 ? 1 : #0", "1; #0? #0 : #0", "1; #0+#0", "1, 2", "1; 2.", "(1)",
                    "const 1", "1; ##0 + #0", "$$0", "1; #$0 + #0", "1; #0 + #0;", "1; #0 ** #0", "1; 2 + 3", "None",
                    "#None", "1; #0 + #None", "True", "1; +", "1; * *", "* * *", "? ? ? : :")

    def test_every_text_that_is_accepted_is_the_form_of_its_source(self):
        chance = random.Random(9)
        accepted = 0
        for _ in range(20000):
            text = list(chance.choice(PAIRS)[0])
            for _ in range(chance.randint(1, 2)):
                at = chance.randrange(len(text) + 1)
                text[at:at + chance.randrange(3)] = chance.choice(("", " ", "; ", "0", "1", "2", "9", "#", "$", "#0", "+"))
            text = "".join(text)
            try:
                source = parse_source(text)
            except BadText:
                continue
            accepted += 1
            self.assertEqual(format_source(source), text)
        self.assertGreater(accepted, 1000)


class InterfaceTest(unittest.TestCase):
    def test_functions_are_defined_in_their_file(self):
        for function in (format_source, parse_source):
            self.assertEqual(function.__module__, "brimful.sources")


if __name__ == "__main__":
    unittest.main()
