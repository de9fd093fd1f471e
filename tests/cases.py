"""What the tests have in common."""

import inspect
import re
import unittest

from tests.strange import STRANGE, bent

RAISES = re.compile(r"raises (\w+)\((.*)\)")


class Case(unittest.TestCase):
    """A test case with the checks that all promises need."""

    def same(self, got, want):
        """Compares kinds too, at any depth: no list for a tuple, no 1 for True."""
        self.assertEqual(shown(got), shown(want))

    def refuses(self, error, told, call, *places, **names):
        """The call raises just this error, with just these attributes."""
        with self.assertRaises(error) as caught:
            call(*places, **names)
        self.assertIs(caught.exception.__class__, error)
        for name, value in told.items():
            self.same(getattr(caught.exception, name), value)

    def gives(self, call, names, values, want):
        """The call gives this with tuples and with lists, by place and by name, and again."""
        for place, name in ways(names, values):
            with self.subTest(call=call.__name__, place=place, name=name):
                self.each_time_unchanged(lambda: self.same(call(*place, **name), want), place, name)

    def never_gives(self, call, names, values, error, told):
        """The call raises this with tuples and with lists, by place and by name, and again."""
        for place, name in ways(names, values):
            with self.subTest(call=call.__name__, place=place, name=name):
                self.each_time_unchanged(
                    lambda: self.refuses(error, told, call, *place, **name), place, name)

    def asked(self, call, *values):
        """What the call gives, which is the same in each way, and whatever becomes of a list it gave."""
        names = list(inspect.signature(call).parameters)
        want = shown(call(*values))
        for place, name in ways(names, values):
            ahead = shown((place, name))
            for _ in range(2):
                got = call(*place, **name)
                self.assertEqual(shown(got), want, (call.__name__, values))
                if isinstance(got, list):
                    got.reverse()
                    got.append("z")
            self.assertEqual(shown((place, name)), ahead)
        return call(*values)

    def answers(self, want, call, *values):
        """The call gives this, in each way."""
        self.same(self.asked(call, *values), want)

    def never(self, error, told, call, *values):
        """The call raises this, in each way."""
        self.never_gives(call, list(inspect.signature(call).parameters), values, error, told)

    def tells(self, call, values, rights, others=()):
        """The call says True of the right things alone: of these, of others, of bent and of strange ones."""
        right = {shown(thing) for thing in rights}
        for thing, sight in SIGHTS:
            self.says(call, values, thing, sight in right)
        every = max(1, len(rights) // 4)
        for place, thing in enumerate(rights):
            self.says(call, values, thing, True)
            if place % every == 0:
                self.by_names(call, values, thing)
                for other in bent(thing):
                    sight = shown(other)
                    self.says(call, values, other, sight in right)
                    self.assertEqual(shown(other), sight)
        for thing in others:
            self.says(call, values, thing, shown(thing) in right)

    def says(self, call, values, thing, want):
        got = call(*values, thing)
        if got is not want:
            self.fail(f"{call.__name__}{(*shown(values), thing)}: {got}")

    def by_names(self, call, values, thing):
        """The other arguments may be told by names, and as lists; thing may not be a list."""
        names = list(inspect.signature(call).parameters)
        self.assertEqual(names[-1], "thing")
        lists = dict(zip(names, [with_lists(value) for value in values]))
        self.assertIs(call(**lists, thing=thing), True)
        self.assertIs(call(**dict(zip(names, values)), thing=with_lists(thing)), False)

    def each_time_unchanged(self, check, place, name):
        ahead = shown((place, name))
        check()
        check()
        self.assertEqual(shown((place, name)), ahead)

    def examples(self, text, names):
        """Runs the lines behind >>> as the document has them, with what it prints below."""
        lines = text.strip().splitlines()
        known = dict(names)
        at = 0
        while at < len(lines):
            code = lines[at].strip().removeprefix(">>> ")
            at += 1
            told = ""
            if at < len(lines) and not lines[at].strip().startswith(">>>"):
                told = lines[at].strip()
                at += 1
            with self.subTest(code=code):
                self.example(code, told, known)

    def example(self, code, told, known):
        raised = RAISES.fullmatch(told)
        if told == "":
            exec(code, known)
        elif raised is None:
            self.same(eval(code, known), eval(told, known))
        else:
            attributes = eval(f"dict({raised.group(2)})")
            self.refuses(known[raised.group(1)], attributes, lambda: eval(code, known))


def shown(thing):
    if isinstance(thing, (tuple, list)):
        return f"{thing.__class__.__name__}({', '.join([shown(item) for item in thing])})"
    if isinstance(thing, dict):
        return f"dict({', '.join([f'{key!r}: {shown(item)}' for key, item in thing.items()])})"
    if hasattr(thing, "text"):
        return f"{thing.__class__.__name__}({thing.text!r})"
    if isinstance(thing, int) and thing.bit_length() > 1000:
        # Python does not write numbers of so many digits.
        return hex(thing)
    return repr(thing)


def with_lists(thing):
    """The same with lists for tuples, at any depth."""
    if isinstance(thing, (tuple, list)):
        return [with_lists(item) for item in thing]
    return thing


def ways(names, values):
    """The ways in which the same call can be written: pairs of places and names."""
    lists = [with_lists(value) for value in values]
    yield tuple(values), {}
    yield tuple(lists), {}
    yield (), dict(zip(names, values))
    yield (), dict(zip(names, lists))
    yield tuple(values[:1]), dict(list(zip(names, lists))[1:])


SIGHTS = [(thing, shown(thing)) for thing in STRANGE]
