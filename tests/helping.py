"""What several files of tests need: nets, texts as bytes, and the tests that every call must pass."""

import builtins
import io
import itertools
import sys
from contextlib import redirect_stderr, redirect_stdout
from fractions import Fraction
from unittest import mock

RAIN = (
    "thing rain : yes no\n"
    "1 4\n"
    "thing sprinkler : on off from rain\n"
    "1 99\n"
    "40 60\n"
    "thing grass : wet dry from rain sprinkler\n"
    "99 1\n"
    "80 20\n"
    "90 10\n"
    "0 100\n"
)

MOST = 2147483647


def codes(text):
    return list(text.encode("latin-1"))


def told(text):
    """The answer that gives this text: how many bytes, then these."""
    return [len(text)] + codes(text)


def chain(counts):
    """A net of things without `from`, with as many values each as counts says."""
    lines = []
    for place, count in enumerate(counts):
        lines.append(f"thing t{place} : " + " ".join(f"v{k}" for k in range(count)))
        lines.append(" ".join(["1"] * count))
    return "\n".join(lines) + "\n"


def child(counts, rows, width=2):
    """A net whose last thing comes from all the others, with this many lines of weights."""
    values = " ".join(f"v{k}" for k in range(width))
    sources = " ".join(f"t{place}" for place in range(len(counts)))
    row = " ".join(["1"] * width) + "\n"
    return chain(counts) + f"thing last : {values} from {sources}\n" + row * rows


def padded(text, size):
    """The net with a remark behind it, so that it has just this many bytes."""
    return text + "#" * (size - len(text))


def wide(text, size):
    """What's asked with blanks behind it, so that it has just this many bytes."""
    return text + " " * (size - len(text))


class Model:
    """A net as plain lists, made by a source of chance, with its answers worked out straight from the document."""

    def __init__(self, chance, counts, most_sources=4, most_weight=9):
        self.counts = counts
        self.sources = []
        self.rows = []
        for place, count in enumerate(counts):
            several = chance.randint(0, min(place, most_sources))
            self.sources.append(chance.sample(range(place), several))
            height = 1
            for source in self.sources[place]:
                height *= counts[source]
            total = chance.randint(1, most_weight)
            self.rows.append([self.split(chance, total, count) for _ in range(height)])

    @staticmethod
    def split(chance, total, count):
        cuts = sorted(chance.randint(0, total) for _ in range(count - 1))
        return [end - start for start, end in zip([0] + cuts, cuts + [total])]

    def text(self):
        lines = []
        for place, count in enumerate(self.counts):
            head = f"thing t{place} : " + " ".join(f"v{k}" for k in range(count))
            if self.sources[place]:
                head += " from " + " ".join(f"t{source}" for source in self.sources[place])
            lines.append(head)
            lines.extend(" ".join(str(weight) for weight in row) for row in self.rows[place])
        return "\n".join(lines) + "\n"

    def line(self, place, values):
        """The line of weights for the values of the thing's Ps, found by going through all ways in order."""
        ways = itertools.product(*[range(self.counts[source]) for source in self.sources[place]])
        wanted = tuple(values[source] for source in self.sources[place])
        return self.rows[place][list(ways).index(wanted)]

    def states(self):
        return itertools.product(*[range(count) for count in self.counts])

    def likely(self, state, done=()):
        chance = Fraction(1)
        for place, value in enumerate(state):
            if place in done:
                chance *= 1 if done[place] == value else 0
            else:
                row = self.line(place, state)
                chance *= Fraction(row[value], sum(row))
        return chance


class Frozen(list):
    """A list that can't be changed."""

    def refuse(self, *args, **kwargs):
        raise AssertionError("what was handed in is changed")

    append = clear = extend = insert = pop = remove = reverse = sort = refuse
    __setitem__ = __delitem__ = __iadd__ = __imul__ = refuse


def given(value, kind=list):
    """An argument of a call: a text becomes a new list of its bytes."""
    if isinstance(value, str):
        return kind(codes(value))
    return kind(value) if isinstance(value, list) else value


def depth_here():
    depth = 0
    frame = sys._getframe()
    while frame is not None:
        depth += 1
        frame = frame.f_back
    return depth


class Keeping:
    """Tests of what every call must keep to; calls: pairs of a function and its arguments."""

    calls = []

    def answers(self, kind=list):
        return [call(*[given(value, kind) for value in values]) for call, values in self.calls]

    def test_answers_are_lists_of_whole_numbers(self):
        for answer in self.answers():
            self.assertIs(type(answer), list)
            self.assertEqual({type(number) for number in answer}, {int})
            if answer[0] < 0:
                self.assertEqual(len(answer), 1)

    def test_what_was_handed_in_stays(self):
        for call, values in self.calls:
            handed = [given(value) for value in values]
            call(*handed)
            self.assertEqual(handed, [given(value) for value in values])

    def test_it_is_not_changed_for_a_while_either(self):
        self.assertEqual(self.answers(Frozen), self.answers())

    def test_the_same_call_twice(self):
        first = self.answers()
        self.assertEqual(self.answers(), first)
        again = [call(*[given(value) for value in values]) for call, values in reversed(self.calls)]
        self.assertEqual(again, first[::-1])
        for call, values in self.calls:
            handed = [given(value) for value in values]
            self.assertEqual(call(*handed), call(*handed))

    def test_an_answer_that_is_changed_changes_no_other(self):
        for call, values in self.calls:
            answer = call(*[given(value) for value in values])
            kept = list(answer)
            answer.append(7)
            answer[0] = 99
            self.assertEqual(call(*[given(value) for value in values]), kept)

    def test_it_prints_reads_and_imports_nothing(self):
        def refuse(*args, **kwargs):
            raise AssertionError("not to be called")

        handed = [(call, [given(value) for value in values]) for call, values in self.calls]
        shown = io.StringIO()
        with redirect_stdout(shown), redirect_stderr(shown):
            with mock.patch.object(builtins, "__import__", refuse), mock.patch.object(builtins, "open", refuse), \
                    mock.patch.object(builtins, "input", refuse):
                for call, values in handed:
                    call(*values)
        self.assertEqual(shown.getvalue(), "")

    def test_it_needs_no_deep_calls(self):
        expected = self.answers()
        before = sys.getrecursionlimit()
        sys.setrecursionlimit(depth_here() + 40)
        try:
            answers = self.answers()
        finally:
            sys.setrecursionlimit(before)
        self.assertEqual(answers, expected)
