"""Points 17 to 19: the song language."""

import random
import unittest

from sungbyturns.books import reachable_refrains
from sungbyturns.compiler import compile_source
from sungbyturns.errors import BadProgram, BadSource
from tests.plain_compiler import Wrong, plain_compile, syntax_error, write_out
from tests.sample_programs import random_program

SIGNS = "=/;(),#*[]<>?:+-"
REASONS = {
    "duplicate", "parameters", "verses", "undefined", "arguments", "mismatch",
    "overflow", "nesting", "repeat", "length", "refrains", "recursion",
}


def place_of(marked):
    """A source without its mark @, and the (row, column) of the mark."""
    source = marked.replace("@", "")
    before = marked[:marked.index("@")]
    return source, before.count("\n"), len(before.split("\n")[-1])


def nested(names, inner):
    """Calls of names around an item."""
    for name in reversed(names):
        inner = f"{name}({inner})"
    return inner


class CompilerCase(unittest.TestCase):
    def check_source(self, source, row, column):
        with self.subTest(source=source), self.assertRaises(BadSource) as caught:
            compile_source(source)
        self.assertEqual(vars(caught.exception), {"row": row, "column": column})

    def check_misfit(self, marked):
        """The mark @ stands before the place where the source breaks the grammar."""
        self.check_source(*place_of(marked))

    def check_end(self, source):
        self.check_source(source, source.count("\n") + 1, 0)

    def check_reason(self, reason, marked):
        source, row, column = place_of(marked)
        with self.subTest(source=source), self.assertRaises(BadProgram) as caught:
            compile_source(source)
        self.assertEqual(vars(caught.exception), {"reason": reason, "row": row, "column": column})

    def check_book(self, source, book):
        with self.subTest(source=source):
            self.assertEqual(compile_source(source), book)


class TokensTest(CompilerCase):
    def test_words_names_and_numbers_without_gaps(self):
        self.check_book("A=laB/lo;B=aC/b;C=abcdefgh;", ((("la", 1), ("lo",)), (("a", 2), ("b",)), (("abcdefgh",),)))
        self.check_book("Abcdefgh=BaBbBa;Ba=x;Bb=y;", (((1, 2, 1),), (("x",),), (("y",),)))
        self.check_book("A=R(#1)R(#1);R(#n)=[#n=1?x:y];", (((1, 1),), (("x",),)))
        # A name goes on with the small letters behind it.
        self.check_reason("undefined", "A=@Blo;B=b;")
        self.check_book("A=BC;B=x;C=y;", (((1, 2),), (("x",),), (("y",),)))

    def test_gaps(self):
        book = ((("la", 1), ("lo",)), (("a", "a"), ("b",)))
        self.check_book("Song=laR(#2)/lo;R(#n)=#n*a/b;", book)
        self.check_book("\n\n  Song \n = la\n\nR ( # 2\n) / lo ; R\n(\n#\nn\n)\n=\n#\nn\n*\na\n/\nb\n;\n\n ", book)
        self.check_book("Song = [ # 1 < 2 ? la : ] [ # 1 + 1 > 2 ? : R ] / lo ; R = a a / b ;", book)

    def test_longest_tokens(self):
        self.check_book("Abcdefgh = abcdefgh;", ((("abcdefgh",),),))
        self.check_misfit("A = @abcdefghi;")
        self.check_misfit("@Abcdefghi = a;")
        self.check_misfit("A = a @Abcdefghi;")
        self.check_book("A = [#999999 > 999998 ? a : b];", ((("a",),),))
        self.check_misfit("A = #@1000000 * a;")
        self.check_misfit("A = #@1234567890123 * a;")
        # A capital letter begins a new token.
        self.check_book("A = abcdefghAbcdefgh; Abcdefgh = x;", ((("abcdefgh", 1),), (("x",),)))

    def test_leading_zeros(self):
        self.check_book("A = #0 * a b;", ((("b",),),))
        for number in ("00", "01", "000001", "0000000", "007"):
            self.check_misfit(f"A = #1 + @{number} * a;")
        self.check_book("A = #10 - 9 * a;", ((("a",),),))

    def test_numbers_and_words_need_no_gap(self):
        # The number ends where the word begins; a sum goes on only behind a sign.
        self.check_misfit("A = #2@a * b;")
        self.check_misfit("A(#n) = #n@2 * b;")

    def test_characters_that_begin_no_token(self):
        for code in list(range(32)) + list(range(33, 127)) + [127, 228, 8364]:
            letter = chr(code)
            if letter == "\n" or letter.isascii() and letter.isalnum() or letter in SIGNS or letter == "@":
                continue
            self.check_source(f"A = a;\n B {letter}= c;", 1, 3)
            self.check_source(f"A = a;\n B = c;{letter}", 1, 7)
            self.check_source(letter, 0, 0)
        self.check_source("A = a@;", 0, 5)

    def test_tokens_come_before_the_grammar(self):
        self.check_misfit("A = ) \n @! ;")
        self.check_misfit("= = = \n\n a @01")
        self.check_misfit("A\n= @abcdefghijkl")
        self.check_misfit(";;;@~;;;&")

    def test_rows_and_columns(self):
        self.check_source("\n\n  A = a;\n   )", 3, 3)
        self.check_source("\n" * 500 + " " * 70 + "!", 500, 70)


class GrammarTest(CompilerCase):
    def test_ends_too_early(self):
        whole = "Song = la R(#2 + 1, a, B(c)) #2 * [#1 < 2 ? a : b] / lo; R(#n, X, Y) = a;"
        ends = 0
        for size in range(len(whole)):
            source = whole[:size]
            if source.rstrip() in ("Song = la R(#2 + 1, a, B(c)) #2 * [#1 < 2 ? a : b] / lo;",):
                continue
            ends += 1
            self.check_end(source)
            self.check_end(source + "\n")
            self.check_end("\n" + source + " \n \n")
        self.assertGreater(ends, 70)
        self.check_end("")
        self.check_end(" ")
        self.check_end("\n")

    def test_first_token_that_does_not_fit(self):
        for marked in (
            "@a = a;", "@= a;", "@1", "@;", "A @a;", "A @;", "A (@) = a;", "A (X @X) = a;", "A (X, @) = a;",
            "A (#@X) = a;", "A (#@1) = a;", "A (# n @+) = a;", "A (@n) = a;", "A (@) = a;",
            "A = @;", "A = @/ a;", "A = a / @;", "A = a / @/ b;", "A = a; @b = c;", "A = a;@;",
            "A = a @= b;", "A = a @, b;", "A = a @) ;", "A = a @] ;", "A = a @? ;", "A = a @: b;", "A = a @* b;",
            "A = @1 a;", "A = a @1;", "A = a @< b;", "A = a @+ b;", "A = a @- b;", "A = @(a);", "A = a@(b);",
            "A = #@* a;", "A = #@X * a;", "A = #1 @a;", "A = #1 @= a;", "A = #1 + @* a;", "A = #1 @1 * a;",
            "A = #1 * @;", "A = #1 * @/ a;", "A = #@-1 * a;", "A = #@+1 * a;", "A = #1 + @-1 * a;", "A = #1 * @* a;",
            "A = [@1 < 2 ? a : b];", "A = [#1 @? a : b];", "A = [#1 < @? a : b];", "A = [#1 < @#2 ? a : b];",
            "A = [#1 < 2 @: a];", "A = [#1 < 2 ? a @];", "A = [#1 < 2 ? a : b @;", "A = [#1 < 2 ? a @/ b : c];",
            "A = [#1 < 2 ? a : b @/ c];", "A = [#1 < 2 @< 3 ? a : b];", "A = [#1 @* 2 ? a : b];", "A = [@];",
            "A = [#1 < 2 ? : @: ];", "A = B(@);", "A = B(a @b);", "A = B(a, @);", "A = B(@[#1 < 2 ? a : b]);",
            "A = B(#2 @* a);", "A = B(@1);", "A = B(#@);", "A = B(a@;", "A = B(a)@(b);", "A = B(C(a) @b);",
            "A = B@]", "A(X, @, Y) = a;", "A = a;\n\nB\n= b;\n  @) C",
        ):
            self.check_misfit(marked)

    def test_grammar_comes_before_the_program(self):
        self.check_misfit("A(X) = B; A = a / b / c / d / e; C = @)")
        self.check_end("A(X) = B; A = a / b / c / d / e;C")

    def test_against_all_derivations(self):
        chance = random.Random(17)
        broken = 0
        for _ in range(700):
            source = write_out(chance, random_program(chance, 0.02))
            for _ in range(chance.randint(0, 2)):
                source = self.damaged(chance, source)
            expected = syntax_error(source)
            try:
                compile_source(source)
                found = None
            except BadProgram:
                found = None
            except BadSource as error:
                found = (error.row, error.column)
            self.assertEqual(found, expected, source)
            broken += expected is not None
        self.assertGreater(broken, 250)

    def damaged(self, chance, source):
        at = chance.randint(0, len(source))
        piece = chance.choice((" ", "\n", "a", "Zz", "7", "0", "!", "") + tuple(SIGNS))
        return source[:at] + piece + source[at + chance.choice((0, 1, 1, 2, 10)):]

    def test_nesting_of_items_and_calls(self):
        names = ["R"] * 5
        self.check_book(
            "A = " + nested(names, "a") + "; R(X) = X;", ((((1,),),) + (((2,),), ((3,),), ((4,),), ((5,),), (("a",),))),
        )
        self.check_book("A = " + "#1 * " * 20 + "a;", ((("a",),),))
        self.check_book("A = " + "[#1 = 1 ? a " * 5 + "[#1 = 2 ? : b ]" + " : c ]" * 5 + ";", ((("a",) * 5 + ("b",),),))
        self.check_book("A = " + "[#1 = 2 ? a : " * 20 + "b" + "]" * 20 + ";", ((("b",),),))
        self.check_reason("nesting", "A = " + nested(["R"] * 13 + ["@R"] + ["R"] * 6, "a") + "; R(X) = X;")

    def test_long_sources(self):
        letters = "abcdefghijklmnopqrst"
        definitions = [f"R{letter}{other} = x;" for letter in letters for other in letters]
        text = "A = Rab Rcd;\n" + "\n".join(definitions) + "\n"
        self.check_book(text, (((1, 2),), (("x",),), (("x",),)))
        total = "+ 1 - 1 " * 20000
        self.check_book(f"A = [#1 {total} = 1 ? a : b];", ((("a",),),))
        self.check_book("A = [#1 = 2 ? " + "a B " * 20000 + ": c ]; B = x;", ((("c",),),))
        self.check_reason("length", "A = @" + "a " * 50000 + ";")
        self.check_source("A = a; " + " \n" * 30000 + " )", 30000, 1)


class FirstPassTest(CompilerCase):
    def test_duplicate_definitions(self):
        self.check_reason("duplicate", "A = a; @A = b;")
        self.check_reason("duplicate", "A = a; B = b; C = c;\n @B(X, X) = c / c / c / c / c; A = a;")
        self.check_reason("duplicate", "A = B;\nB = b;\n@A(X) = Q;")

    def test_duplicate_parameters(self):
        self.check_reason("duplicate", "A = a; B(X, @X) = b;")
        self.check_reason("duplicate", "A = a; B(#n, X, @#n, X) = b;")
        self.check_reason("duplicate", "A = a; B(# n, @#\nn) = b;")
        self.check_reason("duplicate", "A = a; B(X, Y, #n, @Y, X) = b;")
        # A word and a name, and parameters of two definitions, are no duplicates.
        self.check_book("A = a; B(#x, X, A, B) = b; C(#x, X) = c;", ((("a",),),))

    def test_parameters(self):
        self.check_reason("parameters", "A(@X) = a;")
        self.check_reason("parameters", "A(@#n, X, X) = a;")
        self.check_reason("parameters", "A = a; B(#n, #m, #o, #p, @#q) = b;")
        self.check_reason("parameters", "A = a; B(#n, X, #o, Y, @Z, #s) = b;")
        # The fifth parameter is also a duplicate.
        self.check_reason("parameters", "A = a; B(#n, X, #o, Y, @X) = b;")
        self.check_reason("parameters", "A = a; B(#n, #m, #o, #p, @#n) = b;")
        self.check_reason("duplicate", "A = a; B(#n, X, #o, @X, Z) = b;")
        self.check_book("A = B(#1, x, #2, y); B(#n, X, #m, Y) = #n * X #m * Y;", (((1,),), (("x", "y", "y"),)))

    def test_verses(self):
        self.check_book("A = a / b / c / d;", ((("a",), ("b",), ("c",), ("d",)),))
        self.check_reason("verses", "A = a / b / c / d / @e;")
        self.check_reason("verses", "A = a / b / c / d / @#7 * e / f;")
        self.check_reason("verses", "A = a / b / c / d / @[#1 < 2 ? : ]; B(X, X) = a;")
        self.check_reason("verses", "A = a;\nB = a / b / c / d /\n @Q / f; A = b;")

    def test_source_order(self):
        self.check_reason("duplicate", "A = a; B(X, @X) = a / a / a / a / a;")
        self.check_reason("parameters", "A(@X) = a / a / a / a / a; A = b;")
        self.check_reason("verses", "A = a / a / a / a / @a; A(X, X) = b;")
        # Nothing of the second pass is told before all of the first one.
        self.check_reason("verses", "A = Q B(c) #n * a; B = a; C = a / a / a / a / @a;")
        self.check_reason("duplicate", "A = Q; @A = b;")


class SecondPassTest(CompilerCase):
    def test_undefined(self):
        self.check_reason("undefined", "A = @B;")
        self.check_reason("undefined", "A = a / b @B(c);")
        self.check_reason("undefined", "A = #@n * a;")
        self.check_reason("undefined", "A = #2 + @n * a;")
        self.check_reason("undefined", "A = a; B(#n, X) = #n - @x * X;")
        self.check_reason("undefined", "A = a; B(#n) = [#n < 1 - @m ? a : b];")
        self.check_reason("undefined", "A = a; B(#n) = [#@m < 1 ? Q : b];")
        self.check_reason("undefined", "A = a; B(#n) = [#1 < 1 ? a : @Q];")
        self.check_reason("undefined", "A = B(a); B(X) = X; C = @X;")
        self.check_reason("undefined", "A = B(@X); B(X) = X;")
        self.check_reason("undefined", "A = B(#1 + @n); B(#n) = #n * a;")

    def test_parts_that_are_not_evaluated_are_checked(self):
        self.check_reason("undefined", "A = [#1 < 2 ? a : @Q];")
        self.check_reason("undefined", "A = #0 * @Q a;")
        self.check_reason("undefined", "A = a; B = @Q;")
        self.check_reason("arguments", "A = a; B = [#1 < 2 ? c : #0 * @A(x)];")

    def test_arguments(self):
        self.check_reason("arguments", "A = @B; B(X) = X;")
        self.check_reason("arguments", "A = @B(a, b); B(X) = X;")
        self.check_reason("arguments", "A = @B(a); B = b;")
        self.check_reason("arguments", "A = B; B = @A(#1);")
        self.check_reason("arguments", "A = B(a); B(X) = @X(b);")
        self.check_reason("arguments", "A = C(@B); B(X) = X; C(X) = X;")
        # Before its arguments are checked.
        self.check_reason("arguments", "A = @B(Q, #n); B(X) = X;")
        self.check_reason("arguments", "A = @B(#1, #n); B(X) = X;")
        self.check_reason("arguments", "A = B(a); B(X) = @X(Q);")

    def test_mismatch(self):
        self.check_reason("mismatch", "A = B(@#1); B(X) = X;")
        self.check_reason("mismatch", "A = B(@#n); B(X) = X;")
        self.check_reason("mismatch", "A = B(@a); B(#n) = b;")
        self.check_reason("mismatch", "A = B(@B(#1)); B(#n) = b;")
        self.check_reason("mismatch", "A = B(#1, @#2); B(#n, X) = X;")
        self.check_reason("mismatch", "A = B(#1, C(@a), #2); B(#n, X, Y) = X; C(#n) = c;")
        self.check_reason("mismatch", "A = B(x); B(X) = C(@X); C(#n) = c;")

    def test_source_order(self):
        self.check_reason("undefined", "A = B(@Q, #1); B(X, Y) = X;")
        self.check_reason("undefined", "A = B(#@n, #1); B(#n, Y) = Y;")
        self.check_reason("mismatch", "A = B(@#n, Q); B(X, Y) = X;")
        self.check_reason("undefined", "A = a / @Q / B(#1); B(X) = X(a);")
        self.check_reason("arguments", "A = a; B = [#1 < 2 ? @A(a) : Q];")

    def test_parameters_hide_definitions(self):
        self.check_book("A = B(x) C; B(C) = C; C = c;", (((1, 2),), (("x",),), (("c",),)))
        self.check_book("A = B(C); B(A) = A; C = c;", (((1,),), ((2,),), (("c",),)))
        self.check_book("A = B(x); B(B) = B;", (((1,),), (("x",),)))
        self.check_reason("arguments", "A = B(x) C(y); B(C) = @C(z); C(X) = X;")
        # A parameter # word hides no word and no name.
        self.check_book("A = N(#2); N(#n) = #n * n;", (((1,),), (("n", "n"),)))


class EvaluationTest(CompilerCase):
    def test_equal_calls_are_one_refrain(self):
        self.check_book(
            "A = R(#1 + 1, x) R(#2, x) R(#3 - 1, X) R(#2, y); R(#n, Y) = #n * Y; X = x;",
            (((1, 1, 2, 3),), (("x", "x"),), ((4, 4),), (("y", "y"),), (("x",),)),
        )
        self.check_book(
            "A = R(S(#1)) R(S(#2 - 1)) / R(S(#2)); R(X) = X; S(#n) = #n * a;",
            (((1, 1), (2,)), ((3,),), ((4,),), (("a",),), (("a", "a"),)),
        )

    def test_parameters(self):
        self.check_book("A = R(x, B); R(X, Y) = X Y X; B = b;", (((1,),), (("x", 2, "x"),), (("b",),)))
        self.check_book(
            "A = R(S(T(x))); R(X) = X; S(X) = X X; T(X) = X X X;",
            (((1,),), ((2,),), ((3, 3),), (("x", "x", "x"),)),
        )
        self.check_book(
            "A = R(#3); R(#n) = #n * x [#n > 1 ? R(#n - 1) : ];",
            (((1,),), (("x", "x", "x", 2),), (("x", "x", 3),), (("x",),)),
        )

    def test_choices(self):
        for left, sign, right, word in (
            ("1", "<", "2", "yes"), ("2", "<", "2", "no"), ("3", "<", "2", "no"),
            ("1", "=", "2", "no"), ("2", "=", "2", "yes"), ("3", "=", "2", "no"),
            ("1", ">", "2", "no"), ("2", ">", "2", "no"), ("3", ">", "2", "yes"),
            ("1 - 3", "<", "0 - 1", "yes"), ("1 + 2 - 3", "=", "0", "yes"),
        ):
            self.check_book(f"A = [#{left} {sign} {right} ? yes : no];", (((word,),),))
        self.check_book("A = [#1 < 2 ? : x] y [#1 > 2 ? z : ];", ((("y",),),))
        self.check_book("A = [#1 < 2 ? [#1 = 1 ? a : b] c : d];", ((("a", "c"),),))

    def test_parts_that_are_not_chosen_are_not_evaluated(self):
        self.check_book("A = [#1 < 2 ? a : B #7 * b A]; B = B;", ((("a",),),))
        self.check_book("A = [#1 > 2 ? #0 - 1 * a : b];", ((("b",),),))
        self.check_book("A = a #0 * B; B = B;", ((("a",),),))
        self.check_book("A = a #0 * #7 * a; B = #9 * b;", ((("a",),),))
        # A refrain that no evaluated call reaches may be as wrong as it likes.
        self.check_book("A = R(B); R(X) = a; B = #7 * b [#1 < 2 ? : ];", (((1,),), (("a",),)))

    def test_repeats(self):
        self.check_book("A = #0 * a b;", ((("b",),),))
        self.check_book("A = #6 * a;", ((("a",) * 6,),))
        self.check_book("A = #2 * #3 * a;", ((("a",) * 6,),))
        self.check_book("A = #2 * [#1 < 2 ? a B : ]; B = b;", ((("a", 1, "a", 1),), (("b",),)))
        self.check_reason("repeat", "A = #@7 * a;")
        self.check_reason("repeat", "A = #@0 - 1 * a;")
        self.check_reason("repeat", "A = a / b #@3 + 4 * c;")
        self.check_reason("repeat", "A = R(#7); R(#n) = b #@n * a;")
        self.check_reason("repeat", "A = #@7 * #0 - 1 * Q(#999999 + 2); Q(#n) = a;")
        self.check_reason("repeat", "A = #2 * #@0 - 1 * a;")

    def test_length(self):
        self.check_book("A = a b c d e f;", ((tuple("abcdef"),),))
        self.check_reason("length", "A = @a b c d e f g;")
        self.check_reason("length", "A = @#6 * a b;")
        self.check_reason("length", "A = @#2 * #4 * a;")
        self.check_reason("length", "A = @#0 * a;")
        self.check_reason("length", "A = a / b / @[#1 > 2 ? a : ] #0 * b / c;")
        self.check_reason("length", "A = B; B = c /\n @[#1 < 2 ? : a];")
        self.check_reason("length", "A = @" + "#6 * " * 20 + "a;")
        # All items of the verse are evaluated first.
        self.check_reason("repeat", "A = a b c d e f g #@7 * h;")
        self.check_reason("overflow", "A = #6 * a #2 * a R(#@999999 + 2); R(#n) = b;")
        # The verse that comes first counts, and the refrain that is reached first.
        self.check_reason("length", "A = @#0 * a / #7 * a;")
        self.check_reason("length", "A = B / @#0 * a; B = #7 * b;")
        self.check_reason("repeat", "A = B C; C = #0 * c; B = #@7 * b;")

    def test_overflow(self):
        self.check_book("A = [#999999 + 1 > 999999 ? a : b];", ((("a",),),))
        self.check_book("A = [#0 - 999999 - 1 < 0 ? a : b];", ((("a",),),))
        self.check_reason("overflow", "A = [#@999999 + 2 > 999999 ? a : b];")
        self.check_reason("overflow", "A = [#@0 - 999999 - 2 < 0 ? a : b];")
        self.check_reason("overflow", "A = [#1 < @999999 + 2 ? a : b];")
        # On the way, though the whole sum is within the range.
        self.check_reason("overflow", "A = [#@999999 + 2 - 999999 = 2 ? a : b];")
        self.check_reason("overflow", "A = #@999999 + 1 + 1 - 999999 * a;")
        self.check_book("A = #999999 + 1 - 999999 * a;", ((("a",),),))
        self.check_reason("overflow", "A = R(#@999999 + 2, #7); R(#n, #m) = a;")
        self.check_reason("overflow", "A = R(#1, S(#@0 - 999999 - 2)); R(#n, X) = a; S(#n) = b;")
        self.check_reason("overflow", "A = R(#999999 + 1); R(#big) = R(#@big + 1);")
        self.check_book("A = R(#999999 + 1); R(#big) = #big - 999999 * a;", (((1,),), (("a",),)))

    def test_nesting(self):
        definitions = " R(X) = X X; S(#n) = #n * a;"
        book = compile_source("A = " + nested(["R"] * 5, "S(#2)") + ";" + definitions)
        self.assertEqual(book, (((1,),), ((2, 2),), ((3, 3),), ((4, 4),), ((5, 5),), ((6, 6),), (("a", "a"),)))
        self.check_reason("nesting", "A = @" + nested(["R"] * 6, "S(#2)") + ";" + definitions)
        self.check_reason("nesting", "A = a " + nested(["R"] * 3 + ["@R"] + ["R"] * 5, "S(#2)") + ";" + definitions)
        # A word is no refrain, and neither is a number.
        self.check_book("A = " + nested(["R"] * 6, "a") + ";" + definitions,
                        (((1,),), ((2, 2),), ((3, 3),), ((4, 4),), ((5, 5),), ((6, 6),), (("a", "a"),)))
        self.check_reason("nesting", "A = @" + nested(["R"] * 7, "a") + ";" + definitions)
        # By a parameter that grows.
        self.check_reason("nesting", "A = R(x); R(X) = a [#1 < 2 ? @R(S(X)) : ]; S(X) = X;")
        self.check_reason("nesting", "A = R(x); R(X) = @R(S(S(S(X)))); S(X) = X;")
        self.check_reason("nesting", "A = R(x); R(X) = R(S(@S(S(S(X))))); S(X) = X;")

    def test_nesting_counts_the_deepest_argument(self):
        text = "A = {}; R(X, Y, Z) = X Y Z; S(X) = X;"
        deep = nested(["S"] * 5, "a")
        self.assertEqual(len(compile_source(text.format(f"R(b, {deep}, S(c))"))), 8)
        self.check_reason("nesting", text.format(f"@R(b, S({deep}), S(c))"))
        # The argument's own sums and calls come before.
        self.check_reason("overflow", text.format(f"R(S({deep}), b, T(#@999999 + 2))") + " T(#n) = a;")
        self.check_reason("nesting", text.format(f"R(@S(S({deep})), b, T(#999999 + 2))") + " T(#n) = a;")

    def test_refrains(self):
        for last, expected in (("57", 60), ("58", None)):
            # The song, R(58) .. R(0).
            source = f"A = R(#{last}); R(#n) = a [#n > 0 ? R(#n - 1) : B]; B = b;"
            if expected:
                self.assertEqual(len(compile_source(source)), expected)
            else:
                self.check_reason("refrains", source.replace(": B", ": @B"))
        self.check_reason("refrains", "A = R(#0);\nR(#n) = a @R(#n + 1);")
        self.check_reason("refrains", "A = R(#59); R(#n) = a / [#n > 0 ? @R(#n - 1) : ];")

    def test_arguments_are_reached_where_they_are_sung(self):
        # 58 refrains R, the song, and one of B and C.
        text = "A = R(#57, B, C); R(#n, X, Y) = a [#n > 0 ? R(#n - 1, X, Y) : {}]; B = b; C = c;"
        self.assertEqual(len(compile_source(text.format("X"))), 60)
        self.assertEqual(len(compile_source(text.format("Y Y"))), 60)
        self.check_reason("refrains", text.format("X @Y"))
        self.check_reason("refrains", text.format("Y @X X"))
        self.check_reason("refrains", text.format("X X @Y B"))

    def test_first_reason_in_the_order_of_evaluation(self):
        self.check_reason("repeat", "A = B #@7 * a / #0 * b; B = #8 * a;")
        self.check_reason("repeat", "A = C B; B = #8 * a; C = #@9 * a;")
        self.check_reason("nesting", "A = @" + nested(["R"] * 7, "a") + " #7 * a; R(X) = X;")
        self.check_reason("overflow", "A = #@999999 + 9 * #7 * a;")
        self.check_reason("length", "A = A / @#0 * a;")

    def test_recursion(self):
        self.check_reason("recursion", "A = @A;")
        self.check_reason("recursion", "A = a / b @A;")
        self.check_reason("recursion", "A = B; B = b @B;")
        self.check_reason("recursion", "A = @B; B = A;")
        self.check_reason("recursion", "A = B; B = @C; C = B;")
        self.check_reason("recursion", "A = B C; B = b; C = D; D = B @E; E = D;")
        self.check_reason("recursion", "A = C B; B = B; C = a / @C;")
        self.check_reason("recursion", "A = @R(A); R(X) = X;")
        self.check_reason("recursion", "A = R(#1); R(#n) = [#n = 0 ? R(#1) : @R(#0)];")
        self.check_reason("recursion", "A = a #3 * @B; B = b A;")

    def test_recursion_comes_last(self):
        self.check_reason("length", "A = A B; B = b / @#0 * a;")
        self.check_reason("refrains", "A = A R(#0); R(#n) = @R(#n + 1);")
        self.check_reason("overflow", "A = A B; B = [#1 < @999999 + 2 ? a : b];")

    def test_no_recursion(self):
        self.check_book("A = B C; B = D; C = D; D = d;", (((1, 2),), ((3,),), ((3,),), (("d",),)))
        self.check_book("A = R(#2); R(#n) = [#n > 0 ? R(#n - 1) : a];", (((1,),), ((2,),), ((3,),), (("a",),)))

    def test_numbers(self):
        # C is reached before B, but B has the earlier definition.
        self.check_book("A = C B; B = b; C = c;", (((2, 1),), (("b",),), (("c",),)))
        # B is called by C, so C is the only one that can be next.
        self.check_book("A = B C; B = b; C = c B;", (((2, 1),), (("c", 2),), (("b",),)))
        # Of one definition, the refrain that is reached first.
        self.check_book("A = R(y) R(x); R(X) = X;", (((1, 2),), (("y",),), (("x",),)))
        self.check_book("A = C R(x); R(X) = X; C = R(y);", (((2, 1),), (("x",),), ((3,),), (("y",),)))
        self.check_book(
            "A = E D; B = b; C = B c; D = C d; E = B e;",
            (((3, 1),), ((2, "d"),), ((4, "c"),), ((4, "e"),), (("b",),)),
        )

    def test_definitions_in_another_order(self):
        definitions = ["B = b C;", "C = c;", "D = C d B;"]
        self.check_book("A = B C D;" + "".join(definitions), (((2, 3, 1),), ((3, "d", 2),), (("b", 3),), (("c",),)))
        self.check_book("A = B C D;" + "".join(reversed(definitions)),
                        (((2, 3, 1),), ((3, "d", 2),), (("b", 3),), (("c",),)))


class ProgramsTest(CompilerCase):
    """Against an evaluation of trees."""

    def test_random_programs(self):
        chance = random.Random(19)
        seen = set()
        books = 0
        for _ in range(5000):
            program = random_program(chance, chance.choice((0, 0, 0.01, 0.03)))
            source = write_out(chance, program)
            try:
                expected = plain_compile(program)
            except Wrong as wrong:
                seen.add(wrong.reason)
                with self.assertRaises(BadProgram, msg=source) as caught:
                    compile_source(source)
                error = caught.exception
                self.assertEqual((error.reason, (error.row, error.column)), (wrong.reason, wrong.place), source)
                continue
            books += 1
            book = compile_source(source)
            self.assertEqual(book, expected, source)
            self.assertEqual(reachable_refrains(book), list(range(len(book))))
        self.assertEqual(seen, REASONS)
        self.assertGreater(books, 800)

    def test_other_gaps_give_the_same_book(self):
        chance = random.Random(20)
        for _ in range(300):
            program = random_program(chance, 0)
            try:
                plain_compile(program)
            except (Wrong, AttributeError):
                pass
            results = set()
            for _ in range(4):
                try:
                    results.add(compile_source(write_out(chance, program)))
                except BadProgram as error:
                    results.add(error.reason)
            self.assertEqual(len(results), 1)


if __name__ == "__main__":
    unittest.main()
