import inspect
import itertools
import unittest

from gatebook import lines
from gatebook.errors import GateError, NoLine, NoPlace, Ring

LETTERS = "abcdefghijklmnopqrstuvwxyz"
PAIRS = (
    (("give", "ann", "see", 3), "give see at 3 to ann"),
    (("bar", "guild", "turn", 0), "bar turn at 0 to guild"),
    (("give", "a", "z", 1), "give z at 1 to a"),
    (("bar", LETTERS, LETTERS, 1234567890), f"bar {LETTERS} at 1234567890 to {LETTERS}"),
    (("give", "ann", "see", 100), "give see at 100 to ann"),
    (("bar", "ann", "see", 10 ** 30), "bar see at 1" + "0" * 30 + " to ann"),
    (("give", "at", "to", 7), "give to at 7 to at"),
    (("give", "give", "bar", 7), "give bar at 7 to give"),
    (("bar", "to", "at", 7), "bar at at 7 to to"),
    (("bar", "bar", "give", 7), "bar give at 7 to bar"),
)
# Letters and figures for Python's own tests, but not of a line.
OTHER_LETTERS = ("\u00e9", "\u00df", "\u03b1", "\u0430", "\u017f", "\uff41", "\U0001d41a", "\u00aa", "e\u0301")
OTHER_FIGURES = ("\u0663", "\u00b2", "\uff13", "\u2460", "\u00bd", "\u4e09", "\u096a", "\U0001d7d8")
OTHER_BLANKS = ("\t", "\n", "\r", "\x0b", "\x0c", "\x1c", "\x85", "\u00a0", "\u2003", "\u2028", "\u3000", "\u200b")


class LinesCase(unittest.TestCase):
    def assert_refused(self, line):
        with self.subTest(line=line):
            with self.assertRaises(NoLine):
                lines.read(line)
            with self.assertRaises(NoLine):
                lines.read_all(["give see at 3 to ann", line, "bar see at 3 to ann"])

    def assert_read(self, line, rule):
        self.assertEqual(repr(lines.read(line)), repr(rule))

    def assert_not_shown(self, rule):
        with self.subTest(rule=rule[:3]):
            with self.assertRaises(NoLine):
                lines.shown(rule)


class ShownTest(LinesCase):
    def test_the_line_of_a_rule(self):
        for rule, line in PAIRS:
            self.assertEqual(lines.shown(rule), line)
            self.assertIs(type(lines.shown(rule)), str)

    def test_there_and_back(self):
        for word, who, right in itertools.product(("give", "bar"), ("a", "ann", "to"), ("z", "see", "at")):
            for place in (0, 1, 9, 10, 11, 99, 100, 101, 199, 200, 1000, 10 ** 18 + 7):
                rule = (word, who, right, place)
                self.assert_read(lines.shown(rule), rule)

    def test_a_place_of_very_many_figures(self):
        for many in (300, 900, 4299, 4300, 4301, 6000):
            for place in (10 ** many, 10 ** many - 1, 10 ** many + 1):
                rule = ("give", "ann", "see", place)
                line = lines.shown(rule)
                self.assertTrue(lines.read(line) == rule)
        self.assertEqual(lines.shown(("bar", "ann", "see", 10 ** 5000)), "bar see at 1" + "0" * 5000 + " to ann")
        self.assertTrue(lines.read("bar see at " + "9" * 5000 + " to ann")[3] == 10 ** 5000 - 1)

    def test_a_rule_that_is_written_as_no_line(self):
        for text in ("", "Ann", "ann lee", "ann ", " ", "ann\n", "a1", "a_b", "at 3 to") + OTHER_LETTERS:
            self.assert_not_shown(("give", text, "see", 3))
            self.assert_not_shown(("give", "ann", text, 3))
        for place in (-1, -30, -10 ** 5000):
            self.assert_not_shown(("give", "ann", "see", place))
        self.assert_not_shown(("lift", "ann", "see", 3))


class ReadTest(LinesCase):
    def test_the_rule_of_a_line(self):
        for rule, line in PAIRS:
            self.assert_read(line, rule)
            self.assertIs(type(lines.read(line)), tuple)
            self.assertIs(type(lines.read(line)[3]), int)

    def test_each_letter(self):
        for letter in LETTERS:
            self.assert_read(f"give {letter} at 3 to ann", ("give", "ann", letter, 3))
            self.assert_read(f"give see at 3 to {letter}", ("give", letter, "see", 3))

    def test_each_figure(self):
        for figure in range(10):
            self.assert_read(f"bar see at {figure} to ann", ("bar", "ann", "see", figure))
            self.assert_read(f"bar see at 1{figure}{figure} to ann", ("bar", "ann", "see", 100 + 11 * figure))

    def test_another_word(self):
        for word in ("", "gives", "giv", "Give", "GIVE", "Bar", "bars", "lift", "ask", "given", "barred", "g\u00efve"):
            self.assert_refused(f"{word} see at 3 to ann")

    def test_other_words_in_the_places_of_at_and_to(self):
        for other in ("", "in", "At", "AT", "a", "att", "to"):
            self.assert_refused(f"give see {other} 3 to ann")
        for other in ("", "for", "To", "TO", "t", "too", "at"):
            self.assert_refused(f"give see at 3 {other} ann")

    def test_other_signs_in_right_and_who(self):
        signs = [sign for sign in map(chr, range(128)) if sign not in LETTERS and sign != " "]
        self.assertEqual(len(signs), 101)
        for sign in signs + list(OTHER_LETTERS + OTHER_FIGURES + OTHER_BLANKS):
            for text in (sign, "a" + sign, sign + "a", "a" + sign + "a"):
                self.assert_refused(f"give {text} at 3 to ann")
                self.assert_refused(f"give see at 3 to {text}")

    def test_an_empty_right_or_who(self):
        for line in ("give  at 3 to ann", "give at 3 to ann", "give see at 3 to ", "give see at 3 to"):
            self.assert_refused(line)

    def test_a_nought_ahead_of_other_figures(self):
        for figures in ("00", "03", "000", "0010", "01", "0" * 30 + "3"):
            self.assert_refused(f"give see at {figures} to ann")

    def test_a_sign_and_what_python_would_take_for_a_number_too(self):
        for figures in ("+3", "-3", "-0", "+0", "--3", "3-", "1_000", "0x3", "3.0", "3.", "1e3", "3\n", "\t3", "3,0", ""):
            self.assert_refused(f"give see at {figures} to ann")

    def test_other_signs_among_the_figures(self):
        signs = tuple(sign for sign in map(chr, range(128)) if sign not in "0123456789 ")
        self.assertEqual(len(signs), 117)
        for sign in signs + OTHER_FIGURES + OTHER_LETTERS + OTHER_BLANKS + ("three", "None", "nought"):
            for figures in (sign, "1" + sign, sign + "1", "1" + sign + "1"):
                self.assert_refused(f"give see at {figures} to ann")

    def test_blanks(self):
        parts = "give see at 3 to ann".split()
        for at in range(1, 6):
            for between in ("  ", "   ", "") + OTHER_BLANKS + tuple(" " + blank for blank in OTHER_BLANKS):
                self.assert_refused(" ".join(parts[:at]) + between + " ".join(parts[at:]))
        for blank in (" ", "  ") + OTHER_BLANKS:
            self.assert_refused(blank + "give see at 3 to ann")
            self.assert_refused("give see at 3 to ann" + blank)

    def test_a_rows_end(self):
        for end in ("\n", "\r\n", "\r", "\n\n"):
            self.assert_refused("give see at 3 to ann" + end)
            self.assert_refused(end + "give see at 3 to ann")
        self.assert_refused("give see at 3 to ann\nbar see at 3 to ann")

    def test_parts_missing(self):
        parts = "give see at 3 to ann".split()
        for many in range(6):
            for chosen in itertools.combinations(parts, many):
                self.assert_refused(" ".join(chosen))

    def test_parts_too_many(self):
        parts = "give see at 3 to ann".split()
        for at in range(7):
            for more in ("ann", "give", "at", "to", "3", "see"):
                self.assert_refused(" ".join(parts[:at] + [more] + parts[at:]))
        self.assert_refused("give see at 3 to ann give see at 3 to ann")

    def test_parts_in_another_order(self):
        parts = "give see at 3 to ann".split()
        read = 0
        for order in itertools.permutations(parts):
            line = " ".join(order)
            if order[0] == "give" and order[2:5] == ("at", "3", "to"):
                self.assert_read(line, ("give", order[5], order[1], 3))
                read += 1
            else:
                self.assert_refused(line)
        self.assertEqual(read, 2)

    def test_the_empty_text_and_other_texts(self):
        for line in ("", " ", "     ", "\n", "give", "at", "ann may see at 3", "('give', 'ann', 'see', 3)", "#"):
            self.assert_refused(line)

    def test_great_letters(self):
        line = "give see at 3 to ann"
        for at, sign in enumerate(line):
            if sign.upper() != sign:
                self.assert_refused(line[:at] + sign.upper() + line[at + 1:])
        self.assert_refused(line.upper())

    def test_every_text_that_is_one_change_away(self):
        """Whatever is read there is written back as the very same text; so no second text is read to a rule."""
        line = "give b at 10 to a"
        taken = 0
        for at in range(len(line) + 1):
            for sign in [""] + list(" 0189abeivz_-+\t\nA\u0663"):
                for changed in (line[:at] + sign + line[at:], line[:at] + sign + line[at + 1:]):
                    try:
                        rule = lines.read(changed)
                    except NoLine:
                        continue
                    taken += 1
                    self.assertEqual(lines.shown(rule), changed)
        self.assertGreater(taken, 50)

    def test_refused_with_no_line_which_is_a_gate_error_and_a_value_error(self):
        for error in (NoLine, GateError, ValueError):
            with self.assertRaises(error):
                lines.read("give see at 03 to ann")
            with self.assertRaises(error):
                lines.read_all(["give see at 03 to ann"])
        for other in (NoPlace, Ring):
            self.assertFalse(issubclass(NoLine, other))


class ReadAllTest(LinesCase):
    def read_all(self, told):
        before = list(told)
        found = lines.read_all(told)
        self.assertEqual(told, before)
        return found

    def test_the_rules_in_the_order_of_the_lines(self):
        rules = [rule for rule, line in PAIRS]
        told = [line for rule, line in PAIRS]
        self.assertEqual(self.read_all(told), rules)
        self.assertEqual(self.read_all(told[::-1]), rules[::-1])
        self.assertIs(type(self.read_all(told)), list)

    def test_each_rule_just_once_where_it_comes_first(self):
        a, b, c = "give see at 1 to zed", "give see at 1 to ann", "bar see at 1 to ann"
        rules = [("give", "zed", "see", 1), ("give", "ann", "see", 1), ("bar", "ann", "see", 1)]
        self.assertEqual(self.read_all([a, b, a, c, b, a, c]), rules)
        self.assertEqual(self.read_all([a, a, a]), rules[:1])
        self.assertEqual(self.read_all([c, a, c, b, b]), [rules[2], rules[0], rules[1]])

    def test_one_bad_line_refuses_all(self):
        good = ["give see at 1 to ann", "bar see at 1 to ann", "give see at 1 to ann"]
        for at in range(4):
            for bad in ("", "give see at 01 to ann", "give see at 1 to ann ", "Give see at 1 to ann"):
                told = good[:at] + [bad] + good[at:]
                before = list(told)
                with self.assertRaises(NoLine):
                    lines.read_all(told)
                self.assertEqual(told, before)

    def test_the_empty_list(self):
        self.assertEqual(self.read_all([]), [])

    def test_two_hundred_lines_and_somewhat_more_of_more_names_than_a_house_has(self):
        for many in (200, 201, 1000):
            names = ["".join(LETTERS[number // 26 ** power % 26] for power in range(3)) for number in range(many)]
            told = [f"give see at {number} to {name}" for number, name in enumerate(names)]
            rules = [("give", name, "see", number) for number, name in enumerate(names)]
            self.assertEqual(self.read_all(told + told[::-1]), rules)

    def test_the_answer_is_the_callers_own(self):
        told = ["give see at 1 to ann"]
        self.read_all(told).append("more")
        self.assertEqual(told, ["give see at 1 to ann"])
        self.assertEqual(self.read_all(told), [("give", "ann", "see", 1)])


class InterfaceTest(unittest.TestCase):
    def test_names_of_the_arguments(self):
        self.assertEqual(list(inspect.signature(lines.shown).parameters), ["rule"])
        self.assertEqual(list(inspect.signature(lines.read).parameters), ["line"])
        self.assertEqual(list(inspect.signature(lines.read_all).parameters), ["lines"])


if __name__ == "__main__":
    unittest.main()
