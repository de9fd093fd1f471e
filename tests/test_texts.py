"""[19]: the texts of steps, pairs, sizes and runs."""

import re
from itertools import combinations, permutations, product

from seatsahead import errors, texts
from seatsahead.errors import BadText
from seatsahead.texts import (
    pairs_from, pairs_text, run_from, run_text, sizes_from, sizes_text, steps_from, steps_text)
from tests.cases import Case

EXAMPLES = '''
    >>> steps_text(("load", "mix")), pairs_text((("load", "mix"), ("load", "save"))), sizes_text((3, 0, 10)), run_text((("begin", "load"), ("end", "load"))), steps_text(())
    ('load mix', 'load mix; load save', '3 0 10', '+load -load', '-')
    >>> steps_from("load mix"), pairs_from("load mix; load save"), sizes_from("3 0 10"), run_from("+load -load"), run_from("-")
    (('load', 'mix'), (('load', 'mix'), ('load', 'save')), (3, 0, 10), (('begin', 'load'), ('end', 'load')), ())
    >>> steps_from("mix load")
    raises BadText(piece=1)
    >>> run_from("+load load")
    raises BadText(piece=1)
'''
NAME = "[a-z]{1,8}"
UNLIKE = r"([a-z]{1,8}) (?!\1\Z)[a-z]{1,8}"
FORTY = 1234567890123456789012345678901234567890
LETTERS = "abcdefghijklmnopqrstuvwxyz"
STRANGE_LETTERS = ("A", "Z", "\u00e9", "\u00df", "\uff41", "`", "{", "a1", "1", "_", "a-b", "a.b", "\t", "a\u00a0")
STRANGE_DIGITS = ("\u00b2", "\u0663", "\uff11", "\u2460", "a", "0x1", "1e3", "1.0", "1_0", "+1", "-1", "--1")


class TestWriting(Case):

    def test_the_examples(self):
        self.examples(EXAMPLES, {**vars(errors), **vars(texts)})

    def test_steps(self):
        self.gives(steps_text, ["steps"], [("a",)], "a")
        self.gives(steps_text, ["steps"], [("a", "abcdefgh", "b")], "a abcdefgh b")
        self.gives(steps_text, ["steps"], [()], "-")

    def test_pairs(self):
        self.gives(pairs_text, ["pairs"], [(("b", "a"),)], "b a")
        self.gives(pairs_text, ["pairs"], [(("a", "b"), ("a", "c"), ("b", "a"))], "a b; a c; b a")
        self.gives(pairs_text, ["pairs"], [()], "-")

    def test_sizes(self):
        self.gives(sizes_text, ["sizes"], [(0,)], "0")
        self.gives(sizes_text, ["sizes"], [(7, 7, 10, 0)], "7 7 10 0")
        self.gives(sizes_text, ["sizes"], [(FORTY, 1)], f"{FORTY} 1")
        self.gives(sizes_text, ["sizes"], [()], "-")

    def test_runs(self):
        run = (("begin", "b"), ("begin", "a"), ("end", "b"), ("end", "a"))
        self.gives(run_text, ["run"], [run], "+b +a -b -a")
        self.gives(run_text, ["run"], [(("end", "a"), ("end", "a"))], "-a -a")
        self.gives(run_text, ["run"], [()], "-")


class TestReading(Case):

    def test_steps(self):
        self.gives(steps_from, ["text"], ["a"], ("a",))
        self.gives(steps_from, ["text"], ["a aa abcdefgh b"], ("a", "aa", "abcdefgh", "b"))
        self.gives(steps_from, ["text"], ["-"], ())
        self.gives(steps_from, ["text"], [" ".join(LETTERS)], tuple(LETTERS))

    def test_pairs(self):
        self.gives(pairs_from, ["text"], ["b a"], (("b", "a"),))
        self.gives(pairs_from, ["text"], ["a b; a c; b a"], (("a", "b"), ("a", "c"), ("b", "a")))
        self.gives(pairs_from, ["text"], ["a abcdefgh; aa b"], (("a", "abcdefgh"), ("aa", "b")))
        self.gives(pairs_from, ["text"], ["-"], ())

    def test_sizes(self):
        self.gives(sizes_from, ["text"], ["0"], (0,))
        self.gives(sizes_from, ["text"], ["10 9 9 0 0 100"], (10, 9, 9, 0, 0, 100))
        self.gives(sizes_from, ["text"], [f"1 {FORTY}"], (1, FORTY))
        self.gives(sizes_from, ["text"], ["-"], ())

    def test_runs(self):
        self.gives(run_from, ["text"], ["-a +b"], (("end", "a"), ("begin", "b")))
        self.gives(run_from, ["text"], ["+a +a -a -a"],
                   (("begin", "a"), ("begin", "a"), ("end", "a"), ("end", "a")))
        self.gives(run_from, ["text"], ["+abcdefgh"], (("begin", "abcdefgh"),))
        self.gives(run_from, ["text"], ["-"], ())

    def wrong(self, call, table):
        for text, piece in table.items():
            self.never_gives(call, ["text"], [text], BadText, {"piece": piece})

    def test_wrong_steps(self):
        self.wrong(steps_from, {
            "": 0, " ": 0, " a": 0, "a ": 1, "a  b": 1, "a b  c": 2, "a b ": 2,
            "--": 0, "- a": 0, "a -": 1, "- -": 0, "-a": 0, "a - b": 1,
            "abcdefghi": 0, "a abcdefghi": 1, "A": 0, "a B": 1, "a,b": 0, "a;": 0,
            "a\n": 0, "\na": 0, "a\nb": 0, "a b\n": 1, "-\n": 0, "a\tb": 0,
            "a a": 1, "b a": 1, "a c b d": 2, "a b c c": 3, "aa a": 1, "b a A": 1, "a A a": 1,
            "a b1 c": 1, "a 0": 1, "+a": 0,
        })

    def test_wrong_pairs(self):
        self.wrong(pairs_from, {
            "": 0, " ": 0, "a": 0, "a b c": 0, "a b; c": 1, "a b; a b c": 1, "a a": 0, "a b; c c": 1,
            " a b": 0, "a b ": 0, "a  b": 0, "a b;  a c": 1, "a b ; a c": 0, "a b; a c ": 1,
            "a b;": 0, "a b; ": 1, "; a b": 0, "a b; ; a c": 1, "a b;a c": 0, "a b, a c": 0,
            "-; a b": 0, "a b; -": 1, "- -": 0, "--": 0, "a -": 0, "- ": 0,
            "a b; a b": 1, "a c; a b": 1, "b a; a b": 1, "a b; b a; a c": 2, "a b; a a": 1,
            "abcdefghi b": 0, "a abcdefghi": 0, "A b": 0, "a B": 0, "a b; a C": 1, "a 1": 0,
            "a b\n": 0, "a\nb": 0, "a b;\na c": 0, "a b; a c\n": 1, "-\n": 0, "+a b": 0,
        })

    def test_wrong_sizes(self):
        self.wrong(sizes_from, {
            "": 0, " ": 0, " 1": 0, "1 ": 1, "1  2": 1, "1 2  3": 2,
            "01": 0, "00": 0, "1 02": 1, "0 00": 1, "000 1": 0, "1 2 0003": 2,
            "--": 0, "- 1": 0, "1 -": 1, "- -": 0, "1,2": 0, "1;": 0,
            "1\n": 0, "\n1": 0, "1\n2": 0, "1 2\n": 1, "-\n": 0, "1 2 x 03": 2, "1\t2": 0,
        })

    def test_wrong_runs(self):
        self.wrong(run_from, {
            "": 0, " ": 0, " +a": 0, "+a ": 1, "+a  -a": 1, "+a -a ": 2,
            "a": 0, "+a a": 1, "+": 0, "+a -": 1, "+a +": 1, "- +a": 0, "- -": 0, "--": 0,
            "++a": 0, "+-a": 0, "-+a": 0, "--a": 0, "+ a": 0, "a+": 0, "+a+b": 0, "+a,-a": 0,
            "+abcdefghi": 0, "+a -abcdefghi": 1, "+A": 0, "+a -A": 1, "+1": 0, "*a": 0,
            "+a\n": 0, "\n+a": 0, "+a\n-a": 0, "+a -a\n": 1, "-\n": 0, "begin a": 0,
        })

    def test_strange_signs(self):
        for sign in STRANGE_LETTERS:
            with self.subTest(sign=sign):
                self.refuses(BadText, {"piece": 1}, steps_from, f"a {sign}")
                self.refuses(BadText, {"piece": 1}, pairs_from, f"a b; b {sign}")
                self.refuses(BadText, {"piece": 1}, pairs_from, f"a b; {sign} b")
                self.refuses(BadText, {"piece": 1}, run_from, f"+a +{sign}")
        for sign in STRANGE_DIGITS:
            with self.subTest(sign=sign):
                self.refuses(BadText, {"piece": 1}, sizes_from, f"1 {sign}")
                self.refuses(BadText, {"piece": 0}, sizes_from, f"{sign} 1")


class TestThereAndBack(Case):

    def test_steps(self):
        for count in range(4):
            for steps in combinations(("a", "ab", "b", "zzzzzzzz"), count):
                self.same(steps_from(steps_text(steps)), steps)

    def test_pairs(self):
        for count in range(4):
            for pairs in combinations(sorted(permutations(("a", "ab", "b"), 2)), count):
                self.same(pairs_from(pairs_text(pairs)), pairs)

    def test_sizes(self):
        for count in range(4):
            for sizes in product((0, 1, 10, 9, FORTY), repeat=count):
                self.same(sizes_from(sizes_text(sizes)), sizes)

    def test_runs(self):
        deeds = sorted(product(("begin", "end"), ("a", "zzzzzzzz")))
        for count in range(4):
            for run in product(deeds, repeat=count):
                self.same(run_from(run_text(run)), run)

    def test_each_short_text(self):
        kinds = (
            (steps_from, steps_text, "ab -", 7, " ", NAME, True),
            (pairs_from, pairs_text, "ab ;", 8, "; ", UNLIKE, True),
            (sizes_from, sizes_text, "01 -", 6, " ", "0|[1-9][0-9]*", False),
            (run_from, run_text, "a +-", 6, " ", f"[+-]{NAME}", False),
        )
        for read, write, signs, longest, between, form, rising in kinds:
            with self.subTest(read=read.__name__):
                for count in range(longest + 1):
                    for text in map("".join, product(signs, repeat=count)):
                        wrong = first_wrong(text, between, re.compile(form), rising)
                        self.assertEqual(outcome(read, write, text), (text, wrong))


def first_wrong(text, between, form, rising):
    """The number of the first wrong piece, or None, found without the program."""
    pieces = text.split(between)
    for piece, word in enumerate(pieces):
        if text != "-" and not form.fullmatch(word):
            return piece
        if rising and piece > 0 and word.split(" ") <= pieces[piece - 1].split(" "):
            return piece
    return None


def outcome(read, write, text):
    """The text of what is read, or the text itself with the piece that is told."""
    try:
        return write(read(text)), None
    except BadText as error:
        return text, error.piece
