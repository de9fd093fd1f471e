"""[21], and what [2] and [3] say of it: lines of requests and their answers."""

import random

from seatsahead import desk as module, errors
from seatsahead.board import Board
from seatsahead.desk import answers
from seatsahead.errors import BadLine, BadPair, Known, NoProgram, NoStep, NothingDone, OtherSteps
from seatsahead.lines import two_lines
from seatsahead.places import fewest_places
from seatsahead.programs import Program
from seatsahead.sizes import least_peak
from tests.cases import Case

EXAMPLES = r'''
    >>> answers("program house a b c d | a b; a c; b d; c d | - | -\ntext house\nmeet house a d\nmeet house b d\nroom house 1 2 3 4\nleast house 1 2 3 4\nplaces house\nlines house\nhold house a\nplaces house\nmeet house a d\nprogram line a b c d | - | a b; b c; c d | -\nfactor house line\nfactor line house\nnever line house\nnever house line\nrun line b c\nplaces line\nnames\nundo\nplaces line")
    ['done', 'a b c d | a b; a c; b d; c d | - | -', 'no', 'yes', '9 9', '9', '3', 'yes', 'done', '4', 'yes', 'done', '4', '1', 'yes', 'no', 'done', '2', 'house line', 'done', '1']
    >>> answers("undo\nnames\nprogram x - | - | - | -\nroom x -\nplaces x\nprogram x a | - | - | -\nmeet x a a\nwait x a a\nroom x 1\ndrop y\nrename x y\nprogram z a b | a b | - | b\nwait z b a\nwait z a a\nmeet z a b\nleast z 1 2\nleast z 1\nfactor z y\nhold z c\nnames")
    ['refused NothingDone', '-', 'done', '0 0', '0', 'refused Known', 'refused NoStep', 'refused NoStep', 'refused OtherSteps', 'refused NoProgram', 'done', 'done', 'refused BadPair', 'refused BadPair', 'yes', '3', 'refused OtherSteps', 'refused OtherSteps', 'refused NoStep', 'y z']
    >>> answers("")
    []
    >>> answers("names\nprogram x a b | b a | a b | -")
    raises BadLine(number=1)
    >>> answers("names\n")
    raises BadLine(number=1)
'''
HOUSE = "program h a b c d | a b; a c; b d; c d | - | -"
TEXTS = ("a b c | - | - | -", "a b c | - | a b; b c | -", "a b c | a b; b c | - | c", "a b c | a c; b c | a b | -", "- | - | - | -",
         "a b | a b | - | -", "a b c x y z | - | a y; a z; b x; b z; c x; c y | -")
# What is not written as a line must be, whatever is on the Board.
BAD = """
program@program h@program h @program  h a | - | - | -@program h a | - | - | - @program h  a | - | - | -@program H a | - | - | -
program h a | - | -@program h a | - | - | - | -@program h b a | - | - | -@program h a a | - | - | -@program h a b | b b | - | -
program h a b | a b | b a | -@program h a | - | - | b@program h a b | b a; a b | - | -@program h a  b | - | - | -@program h
program abcdefghi a | - | - | -@program h a |- | - | -@program - a | - | - | -@program h1 a | - | - | -@program a | - | - | -
drop@drop @drop  h@drop h @drop h h@drop H@drop -@drop abcdefghi@drop 1@ drop h@Drop h@dropp h@drop\th@drop h\r@drop h;
rename@rename h@rename h @rename h h h@rename h  i@rename h I@rename H i@rename h -@rename h i @rename  h i
undo @undo h@undo -@ undo@UNDO@undo undo@undos@wait@wait h@wait h a@wait h a @wait h a b c@wait h a  b@wait h a b @wait h A b
wait h a -@wait H a b@run@run h a@run h a b c@run h a b @run h a 1@run  h a b@hold@hold h@hold h a b@hold h a @hold h  a@hold h -
names @names h@names -@ names@Names@text@text @text h h@text h @text -@meet@meet h@meet h a@meet h a b c@meet h a b @meet h a B
room@room h@room h @room h 01@room h +1@room h -1@room h 1,2@room h 1  2@room h 1 2 @room h  1 2@room h a@room h - 1@room h 1 -
room h --@room 1 2@room h 1.5@room h 00@room h 1 2 03@room H 1@room - 1@least@least h@least h @least h 01@least h x@least h 1 2 @least h -0
places@places @places h h@places h @places -@lines@lines h @lines h h@factor@factor h@factor h h h@factor h @factor h  h@factor h H
never@never h@never h h h@never h h @never  h h@never h 1@ | h@-@?@answers@hello h@help@done@program h 1 | - | - | -@board@put h a | - | - | -
"""


def bad_lines():
    return [line for row in BAD.strip("\n").split("\n") for line in row.split("@")]


def by_board(board, line):
    """The answer to a line that is written right, from what the Board and the Programs tell."""
    word, *values = line.split(" ")
    try:
        if word == "program":
            board.put(values[0], Program.of(" ".join(values[1:])))
        elif word in ("drop", "rename", "undo", "hold"):
            getattr(board, word)(*values)
        elif word in ("wait", "run"):
            getattr(board, "let_" + word)(*values)
        else:
            return told_by(board, word, values)
    except (NoProgram, Known, NoStep, BadPair, OtherSteps, NothingDone) as error:
        return "refused " + error.__class__.__name__
    return "done"


def told_by(board, word, values):
    if word == "names":
        return " ".join(board.names) or "-"
    program = board[values[0]]
    if word == "text":
        return program.text
    if word == "meet":
        return "yes" if board.can_meet(*values) else "no"
    if word in ("room", "least"):
        sizes = [int(value) for value in values[1:] if value != "-"]
        room = board.room_for(values[0], sizes)
        return " ".join(map(str, room)) if word == "room" else str(least_peak(program, sizes))
    if word == "places":
        return str(fewest_places(program))
    if word == "lines":
        return "no" if two_lines(program) is None else "yes"
    if word == "factor":
        return str(board.lot_factor(*values))
    return "yes" if board.never_worse(*values) else "no"


def drawn_line(draw):
    names, steps = ("h", "i", "j"), "abcz"
    word = draw.choice("program program drop rename undo wait run hold names text meet room least places lines factor never".split())
    first = draw.choice(names)
    told = {
        "program": [first, draw.choice(TEXTS)], "rename": [first, draw.choice(names)], "undo": [], "names": [],
        "wait": [first, draw.choice(steps), draw.choice(steps)], "run": [first, draw.choice(steps), draw.choice(steps)],
        "hold": [first, draw.choice(steps)], "meet": [first, draw.choice(steps), draw.choice(steps)],
        "factor": [first, draw.choice(names)], "never": [first, draw.choice(names)],
    }
    sizes = " ".join(str(draw.choice((0, 1, 2, 30))) for _ in range(draw.choice((0, 2, 3, 3, 6)))) or "-"
    return " ".join([word, *(told[word] if word in told else [first, sizes] if word in ("room", "least") else [first])])


class TestAnswers(Case):

    def test_the_examples(self):
        self.examples(EXAMPLES, {**vars(errors), **vars(module)})

    def told(self, want, *lines):
        for _ in range(2):
            got = answers("\n".join(lines))
            self.same(got, want)
            got.append("done")
        self.same(answers(text="\n".join(lines)), want)

    def test_each_request(self):
        for line, want in {
                "text h": "a b c d | a b; a c; b d; c d | - | -", "meet h a d": "no", "meet h b d": "yes", "meet h a a": "yes",
                "room h 1 2 3 4": "9 9", "least h 1 2 3 4": "9", "places h": "3", "lines h": "yes", "names": "h",
                "factor h h": "1", "never h h": "yes", "drop h": "done", "rename h i": "done", "wait h b c": "done",
                "run h b c": "done", "hold h a": "done", "undo": "done", "program i - | - | - | -": "done",
                "room h 0 0 0 0": "0 0", f"room h {10 ** 29} 0 0 1": f"{10 ** 29} {10 ** 29}", f"least h 0 0 0 {10 ** 30}": str(10 ** 30)}.items():
            self.told(["done", want], HOUSE, line)

    def test_what_the_deeds_do(self):
        self.told(["done", "done", "-", "refused NoProgram"], HOUSE, "drop h", "names", "text h")
        self.told(["done", "done", "i", "refused NoProgram", "yes"], HOUSE, "rename h i", "names", "text h", "lines i")
        self.told(["done", "done", "a b c d | a b; a c; b d; c d | b c | -", "done", "a b c d | a b; a c; b d; c d | - | -"],
                  HOUSE, "wait h b c", "text h", "run h b c", "text h")
        self.told(["done", "done", "a b c d | a b; a c; b d; c d | - | a", "yes", "10 10"],
                  HOUSE, "hold h a", "text h", "meet h a d", "room h 1 2 3 4")
        self.told(["done", "done", "done", "no", "done", "-", "refused NothingDone"],
                  HOUSE, "hold h a", "undo", "meet h a d", "undo", "names", "undo")
        self.told(["done", "done", "done", "h i z"], "program z - | - | - | -", "program h a | - | - | -", "program i - | - | - | -",
                  "names")

    def test_room_and_least_can_be_unlike(self):
        self.told(["done", "19 19", "10"], "program two a b c d | a b; c d | - | -", "room two 9 1 8 1", "least two 9 1 8 1")
        self.told(["done", "2 3", "1"], "program x r s v x y | v r; v s | r x; s y | -", "room x 0 0 1 1 1", "least x 0 0 1 1 1")

    def test_lines_and_factors(self):
        self.told(["done", "no"], "program t " + TEXTS[6], "lines t")
        self.told(["done", "done", "3", "1", "yes", "no"], "program f " + TEXTS[0], "program l " + TEXTS[1], "factor f l",
                  "factor l f", "never l f", "never f l")

    def test_each_refusal_changes_nothing(self):
        for line, error in {
                HOUSE: "Known", "program h - | - | - | -": "Known", "drop i": "NoProgram", "rename i h": "NoProgram",
                "rename h h": "Known", "rename i i": "NoProgram", "wait i z z": "NoProgram", "wait h z a": "NoStep",
                "wait h a z": "NoStep", "wait h d a": "BadPair", "wait h a a": "BadPair", "run i z z": "NoProgram",
                "run h a z": "NoStep", "run h z z": "NoStep", "hold i z": "NoProgram", "hold h z": "NoStep", "text i": "NoProgram",
                "meet i z z": "NoProgram", "meet h a z": "NoStep", "room i 1": "NoProgram", "room h 1": "OtherSteps",
                "room h -": "OtherSteps", "room h 1 2 3 4 5": "OtherSteps", "least i 1": "NoProgram", "least h 1": "OtherSteps",
                "least h -": "OtherSteps", "places i": "NoProgram", "lines i": "NoProgram", "factor i j": "NoProgram",
                "factor h i": "NoProgram", "never i h": "NoProgram", "never h i": "NoProgram", "factor h k": "OtherSteps",
                "never k h": "OtherSteps"}.items():
            ahead = [HOUSE, "program k a | - | - | -", "hold h b"]
            self.told(["done"] * 3 + ["refused " + error, "h k", "a b c d | a b; a c; b d; c d | - | b", "done", "done", "h"],
                      *ahead, line, "names", "text h", "undo", "undo", "names")
        self.told(["refused NothingDone", "-"], "undo", "names")

    def test_no_steps(self):
        self.told(["done", "- | - | - | -", "0 0", "0", "0", "yes", "0", "yes", "refused OtherSteps", "refused NoStep"],
                  "program x - | - | - | -", "text x", "room x -", "least x -", "places x", "lines x", "factor x x", "never x x",
                  "least x 0", "hold x x")

    def test_the_text_without_signs(self):
        self.told([])

    def test_against_the_board(self):
        for seed in range(60):
            draw = random.Random(seed)
            lines = [drawn_line(draw) for _ in range(draw.choice((1, 20, 60)))]
            board = Board()
            self.told([by_board(board, line) for line in lines], *lines)

    def test_all_kinds_of_answers_were_drawn(self):
        told = {answer.rstrip("0123456789 ") for seed in range(60) for answer in answers(
            "\n".join(drawn_line(random.Random(1000 * seed + number)) for number in range(60)))}
        names = ("NoProgram", "Known", "NoStep", "BadPair", "OtherSteps", "NothingDone")
        self.assertLessEqual({"done", "yes", "no", "", *["refused " + name for name in names]}, told)

    def test_60_lines(self):
        lines = ["program " + letter + " a b c d e f g h | a b; c d | b c; f g | h" for letter in "abcdefghijkl"]
        lines += [f"hold {letter} {value}" for value in "abcd" for letter in "abcdefghijkl"]
        self.told(["done"] * 60, *lines)


class TestBadLines(Case):

    def test_each_bad_line(self):
        self.assertGreater(len(bad_lines()), 140)
        for line in bad_lines():
            self.assertNotIn("\n", line)
            for ahead, behind in (((), ()), ((HOUSE, "names"), ()), ((HOUSE, "undo", "text h"), ("names", "drop")),
                                  ((HOUSE,) * 2, ("",))):
                text = "\n".join([*ahead, line, *behind])
                if text:
                    self.refuses(BadLine, {"number": len(ahead)}, answers, text)
                    self.refuses(BadLine, {"number": len(ahead)}, answers, text=text)

    def test_empty_lines(self):
        for text, number in (("\n", 0), ("names\n", 1), ("\nnames", 0), ("names\n\nnames", 1), ("names\nnames\n\n", 2), (" ", 0),
                             ("names\n ", 1), ("\n\n", 0), ("undo\n", 1)):
            self.refuses(BadLine, {"number": number}, answers, text)

    def test_the_first_of_several(self):
        self.refuses(BadLine, {"number": 2}, answers, "names\nundo\nname\n\nnames ")
        self.refuses(BadLine, {"number": 59}, answers, "\n".join(["names"] * 59 + ["room h 01"]))

    def test_names_as_long_as_can_be(self):
        self.same(answers("program abcdefgh abcdefgh | - | - | -\nhold abcdefgh abcdefgh\nplaces abcdefgh"), ["done", "done", "1"])
        self.refuses(BadLine, {"number": 1}, answers, "names\nhold abcdefgh abcdefghi")

    def test_requests_may_be_names(self):
        self.same(answers("program names undo | - | - | -\nhold names undo\nnames\ntext names"),
                  ["done", "done", "names", "undo | - | - | undo"])
