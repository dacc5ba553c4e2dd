"""[6], [7] and [8]: texts of programs."""

import random
import unittest

from sevenpoints.errors import BadText
from sevenpoints.programs import Program, size
from sevenpoints.texts import program_of, program_text
from tests.checks import Case
from tests.samples import STEPS, programs

A = ("is", "a", 1)
B = ("below", "b", 2)
C = ("most", 3, "c")
D = ("is", "d", -4)


def conditioned(condition):
    """A program with this condition."""
    return Program("p", (), (("while", condition, ()),))


def words_in(text):
    """The words of each line that has some."""
    return [row for row in [[word for word in line.split(" ") if word] for line in text.split("\n")] if row]


class Writing(unittest.TestCase):

    def test_sign_by_sign(self):
        program = Program("all0", ("b", "a"), (
            ("set", "x", ("as", -3)), ("set", "x", ("plus", "x", 0)), ("set", "y", ("less", -1, "x")),
            ("set", "y", ("times", "y", -999)), ("skip",),
            ("if", ("below", "a", "b"), (("give", "x"),), (("loop", (("break",),)), ("skip",))),
            ("if", ("most", "a", 5), (), ()),
            ("if", ("is", "a", 5), (), (("skip",),)),
            ("while", ("is", 1, 1), (("if", ("not", ("is", "a", "b")), (("next",),), ()), ("loop", ()))),
            ("give", -999999999)))
        text = (
            "program all0 of b a\n"
            "  x = -3\n"
            "  x = x plus 0\n"
            "  y = -1 less x\n"
            "  y = y times -999\n"
            "  skip\n"
            "  if a below b\n"
            "    give x\n"
            "  else\n"
            "    loop\n"
            "      break\n"
            "    end\n"
            "    skip\n"
            "  end\n"
            "  if a most 5\n"
            "  end\n"
            "  if a is 5\n"
            "  else\n"
            "    skip\n"
            "  end\n"
            "  while 1 is 1\n"
            "    if not a is b\n"
            "      next\n"
            "    end\n"
            "    loop\n"
            "    end\n"
            "  end\n"
            "  give -999999999\n"
            "end\n")
        self.assertEqual(program_text(program), text)
        self.assertEqual(program_of(text), program)

    def test_the_shortest_text(self):
        self.assertEqual(program_text(Program("p", (), ())), "program p\nend\n")
        self.assertEqual(program_text(Program("p", ("p",), ())), "program p of p\nend\n")

    def test_parentheses(self):
        for condition, text in (
                (A, "a is 1"),
                (("not", A), "not a is 1"),
                (("not", ("not", A)), "not not a is 1"),
                (("not", ("and", A, B)), "not ( a is 1 and b below 2 )"),
                (("not", ("or", A, B)), "not ( a is 1 or b below 2 )"),
                (("not", ("not", ("or", A, B))), "not not ( a is 1 or b below 2 )"),
                (("and", ("not", A), B), "not a is 1 and b below 2"),
                (("and", A, ("not", B)), "a is 1 and not b below 2"),
                (("or", ("not", A), ("not", B)), "not a is 1 or not b below 2"),
                (("and", ("and", A, B), C), "a is 1 and b below 2 and 3 most c"),
                (("and", A, ("and", B, C)), "a is 1 and ( b below 2 and 3 most c )"),
                (("or", ("or", A, B), C), "a is 1 or b below 2 or 3 most c"),
                (("or", A, ("or", B, C)), "a is 1 or ( b below 2 or 3 most c )"),
                (("and", ("or", A, B), C), "( a is 1 or b below 2 ) and 3 most c"),
                (("and", A, ("or", B, C)), "a is 1 and ( b below 2 or 3 most c )"),
                (("or", ("and", A, B), C), "a is 1 and b below 2 or 3 most c"),
                (("or", A, ("and", B, C)), "a is 1 or b below 2 and 3 most c"),
                (("or", ("and", A, B), ("and", C, D)), "a is 1 and b below 2 or 3 most c and d is -4"),
                (("and", ("or", A, B), ("or", C, D)), "( a is 1 or b below 2 ) and ( 3 most c or d is -4 )"),
                (("and", A, ("not", ("and", B, C))), "a is 1 and not ( b below 2 and 3 most c )"),
                (("or", A, ("or", B, ("and", C, ("and", A, ("or", A, B))))),
                 "a is 1 or ( b below 2 or 3 most c and ( a is 1 and ( a is 1 or b below 2 ) ) )")):
            program = conditioned(condition)
            self.assertEqual(program_text(program), f"program p\n  while {text}\n  end\nend\n")
            self.assertEqual(program_of(program_text(program)), program)

    def test_texts_read_back(self):
        for seed in range(5):
            for program in programs(seed, 100):
                text = program_text(program)
                self.assertEqual(program_of(text), program)
                self.assertEqual(program_text(program_of(text)), text)
                self.assertTrue(text.endswith("end\n") and "  \n" not in text and "\n\n" not in text)

    def test_greatest_programs_read_back(self):
        block = (("while", ("not", A), ()),)
        for _ in range(39):
            block = (("if", A, (), block),)
        program = Program("p", (), block)
        self.assertEqual(program_of(program_text(program)), program)
        condition = ("and", A, ("and", A, ("and", A, ("and", A, ("and", A, A)))))
        for _ in range(9):
            condition = ("not", condition)
        self.assertEqual(program_of(program_text(conditioned(condition))), conditioned(condition))


class RightTexts(unittest.TestCase):

    def tells(self, text, *block):
        self.assertEqual(program_of(text), Program("p", (), block))

    def test_line_feeds_spaces_and_lines_without_words(self):
        for text in ("program p\nend\n", "program p\nend", "  program   p  \n   \n\n end   ", "\n\nprogram p\n\n\nend\n\n \n",
                     "program p\nend\n\n\n", "   \nprogram p\nend\n   "):
            self.tells(text)

    def test_the_head(self):
        self.assertEqual(program_of("program q of b a d c\nend"), Program("q", ("b", "a", "d", "c"), ()))
        self.assertEqual(program_of("program q of q\nend"), Program("q", ("q",), ()))

    def test_else_may_stand_or_lack(self):
        for text in ("program p\nif 1 is 1\nskip\nelse\nend\nend", "program p\nif 1 is 1\nskip\nend\nend"):
            self.tells(text, ("if", ("is", 1, 1), (("skip",),), ()))
        for text in ("program p\nif 1 is 1\nelse\nend\nend", "program p\nif 1 is 1\nend\nend"):
            self.tells(text, ("if", ("is", 1, 1), (), ()))
        self.tells("program p\nif 1 is 1\nelse\nskip\nend\nend", ("if", ("is", 1, 1), (), (("skip",),)))
        self.tells("program p\nif 1 is 1\nif 2 is 2\nelse\ngive 1\nend\nelse\ngive 2\nend\nend",
                   ("if", ("is", 1, 1), (("if", ("is", 2, 2), (), (("give", 1),)),), (("give", 2),)))

    def test_more_parentheses(self):
        for text in ("a is 1", "( a is 1 )", "( ( ( ( ( ( ( ( a is 1 ) ) ) ) ) ) ) )"):
            self.tells(f"program p\nwhile {text}\nend\nend", ("while", A, ()))
        for text in ("a is 1 and b below 2 and 3 most c", "( a is 1 and b below 2 ) and 3 most c",
                     "( ( a is 1 ) and ( b below 2 ) and ( 3 most c ) )"):
            self.tells(f"program p\nwhile {text}\nend\nend", ("while", ("and", ("and", A, B), C), ()))
        for text in ("a is 1 or b below 2 and 3 most c", "a is 1 or ( b below 2 and 3 most c )"):
            self.tells(f"program p\nwhile {text}\nend\nend", ("while", ("or", A, ("and", B, C)), ()))
        for text in ("not a is 1 and b below 2", "( not a is 1 ) and b below 2", "not ( a is 1 ) and b below 2"):
            self.tells(f"program p\nwhile {text}\nend\nend", ("while", ("and", ("not", A), B), ()))
        self.tells("program p\nwhile not ( not ( a is 1 or b below 2 ) )\nend\nend",
                   ("while", ("not", ("not", ("or", A, B))), ()))

    def test_integers(self):
        self.tells("program p\nx = 0\nx = -1\nx = 999999999\nx = 1 plus -999999999\nx = 5 times -999\nx = x times 0\nend",
                   ("set", "x", ("as", 0)), ("set", "x", ("as", -1)), ("set", "x", ("as", 999999999)),
                   ("set", "x", ("plus", 1, -999999999)), ("set", "x", ("times", 5, -999)), ("set", "x", ("times", "x", 0)))

    def test_names_that_are_words_elsewhere(self):
        self.tells("program p\nset = as\nas = set plus test\nend",
                   ("set", "set", ("as", "as")), ("set", "as", ("plus", "set", "test")))

    def test_a_text_told_back_differs_only_in_what_is_free(self):
        dice = random.Random(5)
        for program in programs(6, 100):
            rows = []
            for row in words_in(program_text(program)):
                if row[0] in ("if", "while") and dice.random() < 0.5:
                    row = [row[0], "(", "("] + row[1:] + [")", ")"]
                rows.append((" " * dice.randint(1, 3)).join(row) + " " * dice.randint(0, 2))
                rows.extend([" " * dice.randint(0, 2)] * dice.randint(0, 1))
            text = "\n".join(rows) + dice.choice(("", "\n", "\n\n", "\n  "))
            self.assertEqual(program_of(text), program)


class WrongTexts(Case):

    def wrong(self, line, column, text):
        self.refused(BadText, {"line": line, "column": column}, program_of, text)

    def within(self, line, column, text):
        """The line and column are wrong in these lines of a block, with and without more lines behind them."""
        self.wrong(line + 1, column, "program p of a\n" + text + "\nend\n")
        self.wrong(line + 3, column, "\nprogram p of a\n  \n" + text)
        self.wrong(line + 1, column, "program p of a\n" + text + "\nend of\n???")

    def test_what_is_no_string(self):
        for text in (None, 0, True, b"program p\nend", ["program p", "end"], ("program p\nend",), {}, 1.5):
            self.wrong(0, 0, text)

    def test_what_lacks_behind_all_lines(self):
        for line, text in ((1, ""), (2, " "), (2, "\n"), (3, "\n\n"), (2, "program p"), (2, "program p\n"),
                           (3, "program p\n\n"), (3, "program p\n "), (3, "program p\nloop\n"), (4, "program p\nloop\nend"),
                           (4, "program p\nif 1 is 1\nelse\n"), (4, "\n\nprogram p")):
            self.wrong(line, 1, text)

    def test_the_head(self):
        for column, text in ((1, "end"), (1, "p"), (1, "programs"), (1, "program\tp"), (2, "program"), (2, "program of"),
                             (2, "program P"), (2, "program p\t"), (2, "program abcdefghi"), (2, "program 1"),
                             (3, "program p a"), (3, "program p end"), (4, "program p of"), (4, "program p of 1"),
                             (4, "program p of of"), (5, "program p of a a"), (6, "program p of b a b"),
                             (8, "program p of a b c d e"), (8, "program p of a b c d a"), (5, "program p of a ,"),
                             (5, "program p of a of")):
            self.wrong(1, column, text)
            self.wrong(3, column, "\n \n" + text + "\nend\n")
            self.wrong(1, column, "  " + text.replace(" ", "   ") + "  \n")

    def test_what_stands_behind_the_last_end(self):
        self.wrong(3, 1, "program p\nend\nend\n")
        self.wrong(5, 1, "program p\nend\n\n \nskip")
        self.wrong(3, 1, "program p\nend\n\t\n")
        self.wrong(3, 1, "program p\nend\nprogram p\nend\n")
        self.wrong(2, 2, "program p\nend end\n")
        self.wrong(2, 2, "program p\nend of\n")

    def test_first_words(self):
        for word in ("A", "1", "of", "is", "plus", "=", "program", "?", "\t", "abcdefghi", "(", "not", "-1", "Skip", "else"):
            self.within(1, 1, word)
            self.within(2, 1, "loop\n" + word)
            self.within(1, 1, word + " x y z")
        self.within(1, 1, "break")
        self.within(1, 1, "next")
        self.within(2, 1, "if 1 is 1\nbreak\nend")
        self.within(4, 1, "while 1 is 1\nbreak\nend\nnext")
        self.within(2, 1, "loop\nelse\nend")
        self.within(2, 1, "while 1 is 1\nelse\nend")
        self.within(3, 1, "if 1 is 1\nelse\nelse\nend")
        self.within(3, 1, "if 1 is 1\nloop\nelse\nend\nend")

    def test_words_too_many(self):
        for text in ("skip skip", "loop loop", "end end"):
            self.within(1, 2, text)
        self.within(2, 2, "loop\nbreak 1")
        self.within(2, 2, "loop\nnext x")
        self.within(2, 2, "if 1 is 1\nelse if")
        self.within(2, 2, "loop\nend loop")
        self.within(1, 3, "give 1 1")
        self.within(1, 4, "x = 1 1")
        self.within(1, 6, "x = 1 plus 1 plus")
        self.within(1, 6, "x = 1 times 1 times 1")
        self.within(1, 5, "while 1 is 1 1")
        self.within(1, 5, "if 1 is 1 then")

    def test_ends_of_lines(self):
        for text in ("x", "x =", "x = 1 plus", "x = a less", "x = 1 times", "give", "if", "while", "while not", "while 1",
                     "while 1 is", "while 1 is 1 and", "while 1 is 1 or", "while (", "while ( 1 is 1", "while 1 is 1 or (",
                     "while ( ( 1 is 1 )", "if not ( not", "if not ( not 1 below", "if ( 1 is 1 and ( 2 is 2 ) or 3 is 3"):
            self.within(1, len(text.split(" ")) + 1, text)
            self.within(1, len(text.split(" ")) + 1, "  " + text.replace(" ", "  ") + "   ")

    def test_words_within_lines(self):
        for column, text in ((2, "x + 1"), (2, "x as 1"), (2, "x == 1"), (3, "x = X"), (3, "x = plus 1"), (3, "x = ( 1 )"),
                             (4, "x = 1 + 1"), (4, "x = 1 is 1"), (5, "x = 1 plus less"), (5, "x = 1 times a"),
                             (5, "x = 1 times 1000"), (5, "x = a times -1000"), (5, "x = 1 times 0999"), (3, "x = 1000000000"),
                             (3, "x = -1000000000"), (5, "x = a plus 1000000000"), (3, "x = 01"), (3, "x = -0"),
                             (3, "x = 00"), (3, "x = +1"), (3, "x = -"), (3, "x = --1"), (3, "x = 1."), (3, "x = 1_0"),
                             (3, "x = 1e3"), (3, "x = " + "9" * 4400), (3, "x = -" + "0" * 4400), (2, "give give"),
                             (2, "give 1\t"), (2, "if skip"), (2, "if and"), (2, "if )"), (2, "if ()"), (3, "if ( )"),
                             (3, "if a = 1"), (3, "if a not is 1"), (3, "if a and b is 1"), (3, "if ( and"), (4, "if a is is"),
                             (4, "if a is not b is 1"), (4, "if a is ( b )"), (5, "if a is b )"), (5, "if a is b is c"),
                             (5, "if a is 1 ( b is 1 )"), (7, "if ( a is b ) )"), (7, "if ( a is b ) not"),
                             (6, "if a is b and or"), (6, "if a is b and and c is d"), (3, "if not and a is 1"),
                             (6, "if ( a is b c"), (2, "if (a is b )"), (5, "while ( 1 is 1) or 1 is 1")):
            self.within(1, column, text)

    def test_the_41st_statement(self):
        lines = ["program p"] + ["skip"] * 39
        self.assertEqual(size(program_of("\n".join(lines + ["x = 1", "end"]))), 40)
        for word in ("skip", "x = 1", "loop", "if 1 is 1", "give 1", "while", "x", "?"):
            self.wrong(42, 1, "\n".join(lines + ["skip", word, "end"]))
        self.wrong(81, 1, "program p\n" + "loop\n" * 40 + "end\n" * 39 + "skip\nend")
        self.wrong(42, 1, "program p\n" + "loop\n" * 40 + "break")
        self.wrong(42, 1, "program p\n" + "if 1 is 1\n" * 41)
        self.assertEqual(size(program_of("program p\n" + "if 1 is 1\nelse\n" * 40 + "end\n" * 41)), 40)
        self.wrong(42, 2, "program p\n" + "loop\n" * 40 + "end x")
        self.wrong(83, 1, "program p\n" + "if 1 is 1\n" * 40 + "end\n" * 41 + "end")

    def test_the_ninth_name(self):
        head = "program p of a b c d\ne = f plus g\nwhile h is a\nend\n"
        self.assertEqual(len(program_of(head + "h = h\nend").names()), 8)
        for column, text in ((1, "i = 1"), (3, "a = i"), (5, "a = b less i"), (2, "give i"), (2, "if i is 1"), (4, "if a is i"),
                             (8, "while not ( a is b or i is 1"), (1, "p = 1"), (1, "i"), (3, "a = i plus j")):
            self.wrong(5, column, head + text + "\nend\n")
        text = "program p\n" + "".join(f"n{k} = 0\n" for k in range(8))
        self.wrong(10, 1, text + "n8 = n9\n")
        self.wrong(10, 3, text + "n7 = n9\n")
        self.assertEqual(len(program_of(text + "end").names()), 8)

    def test_pairs(self):
        for word in ("and", "or"):
            six = "if " + f" {word} ".join(["1 is 1"] * 6)
            program_of("program p\n" + six + "\nend\nend")
            for more in ("and", "or"):
                self.within(1, 25, six + " " + more)
                self.within(1, 25, six + f" {more} 1 is 1")
            self.within(3, 25, "if 1 is 1 or 1 is 1\nend\n" + six + " or x")
        self.within(1, 27, "if ( 1 is 1 and 1 is 1 and 1 is 1 and 1 is 1 and 1 is 1 and 1 is 1 ) or 1 is 1")
        self.within(1, 27, "if not " + " and not ".join(["1 is 1"] * 2) + " or 1 is 1" * 4 + " or 1 is 1")
        two = "program p\n" + ("while " + " or ".join(["1 is 1"] * 6) + "\nend\n") * 2 + "end"
        self.assertEqual(size(program_of(two)), 2)

    def test_parts(self):
        program_of("program p\nwhile " + "not " * 19 + "1 is 1\nend\nend")
        self.within(1, 21, "while " + "not " * 20 + "1 is 1")
        self.within(1, 21, "while " + "not " * 20)
        self.within(1, 21, "while " + "not " * 19 + "of")
        # 18 nots and a pair are 19 parts: the and with its pair would be the 21st one.
        self.within(1, 23, "while " + "not " * 18 + "1 is 1 and 1 is 1")
        self.within(1, 23, "while " + "not " * 18 + "1 is 1 or 1 is 1")
        self.within(1, 24, "while " + "not " * 19 + "1 is 1 or")
        program_of("program p\nwhile " + "not " * 17 + "1 is 1 and 1 is 1\nend\nend")
        self.within(1, 23, "while " + "not " * 17 + "1 is 1 and not 1 is 1")
        self.within(1, 26, "while " + "not " * 17 + "1 is 1 and 1 is 1 or 1 is 1")
        nine = "not not not " + "not ( " * 6 + "1 is 1"
        program_of("program p\nif " + nine + " ) ) ) ) ) )" + " and 1 is 1" * 5 + "\nend\nend")
        self.within(1, 43, "if " + nine + " ) ) ) ) ) )" + " and 1 is 1" * 4 + " and not 1 is 1")

    def test_parentheses_within_one_another(self):
        eight = "( " * 8 + "1 is 1" + " )" * 8
        program_of(f"program p\nwhile {eight} and {eight}\nend\nend")
        program_of("program p\nwhile " + "( not " * 8 + "1 is 1" + " )" * 8 + "\nend\nend")
        self.within(1, 10, "while " + "( " * 9 + "1 is 1" + " )" * 9)
        self.within(1, 10, "while " + "( " * 9)
        self.within(1, 18, "while " + "( not " * 8 + "(")
        self.within(1, 14, "while " + "( " * 8 + "1 is 1 or (")
        program_of("program p\nwhile " + "( " * 7 + "( 1 is 1 ) or ( 2 is 2 )" + " )" * 7 + "\nend\nend")

    def test_what_stands_ahead_of_the_wrong_word_begins_a_right_text(self):
        dice = random.Random(9)
        words = ("program p of end if else while loop break next give skip plus less times below most is not and or = ( ) a "
                 "b q 1 -5 1000 x9 \n").split(" ")
        for program in programs(8, 60):
            signs = program_text(program).replace("\n", " \n ").split(" ")
            at = dice.randrange(len(signs))
            signs[at:at + dice.randint(0, 1)] = [dice.choice(words)]
            text = " ".join(signs)
            try:
                program_of(text)
            except BadText as error:
                begun = begun_ahead_of(text, error.line, error.column)
                self.assertIsNotNone(completed(begun), begun)
            else:
                self.assertEqual(program_of(program_text(program_of(text))), program_of(text))


def begun_ahead_of(text, line, column):
    """What stands ahead of a word, or of the end of a line, of a text."""
    lines = text.split("\n")[:line]
    if len(lines) < line:
        lines.append("")
    lines[-1] = " ".join([word for word in lines[-1].split(" ") if word][:column - 1])
    return "\n".join(lines)


def completed(begun):
    """A right text that begins so, None if none is found by the shortest ends of lines and texts."""
    for rest in ("", "1", " = 1", "= 1", "is 1", "1 is 1", " is 1", "program p", "p", "p of a", "a", "x"):
        for closing in range(9):
            for ends in range(42):
                text = begun + " " + rest + " )" * closing + "\n" + "end\n" * ends
                try:
                    program_of(text)
                except BadText as error:
                    if error.line <= text.count("\n") - ends:
                        break
                else:
                    return text
    return None


if __name__ == "__main__":
    unittest.main()
