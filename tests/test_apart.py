"""bn_apart: whether every way between two things is shut by the names."""

import itertools
import random
import unittest

from chancenet.nets import bn_apart
from helping import RAIN, Keeping, chain, codes, padded, wide

APART = [1]
TIED = [0]
ARGUMENTS = [-2]
NET = [-3]
ASKED = [-4]


def net_of(text):
    """A net from words like `a b c:ab`: each thing's name, and behind : those that it comes of."""
    lines = []
    for word in text.split():
        name, _, sources = word.partition(":")
        lines.append(f"thing {name} : x y" + (" from " + " ".join(sources) if sources else ""))
        lines.extend(["1 1"] * 2 ** len(sources))
    return "\n".join(lines) + "\n"


def apart(text, net):
    return bn_apart(codes(net), codes(text))


class Cases(unittest.TestCase):
    def hold(self, answer, texts, net=RAIN):
        for text in texts:
            with self.subTest(text=text[:200], net=net[:200]):
                self.assertEqual(apart(text, net), answer)

    def both(self, answer, form, texts):
        """Holds with the two names in either order."""
        net = net_of(form)
        for text in texts:
            words = text.split(" ")
            self.hold(answer, [text, " ".join([words[1], words[0]] + words[2:])], net)


class NoWay(Cases):
    def test_two_things_by_themselves(self):
        self.both(APART, "a b", ["a b"])
        self.both(APART, "a b c", ["a b", "a b | c", "a c | b", "b c | a"])

    def test_two_groups(self):
        self.both(APART, "a b c:a d:b e:cd f g:f", ["a f", "e g", "e g | a b c d f", "c f | g"])


class Neighbours(Cases):
    def test_never_apart(self):
        self.both(TIED, "a b:a", ["a b"])
        form = "a b c:ab d:c e:ac"
        others = {"a": "c", "b": "c", "c": "a", "d": "c", "e": "a"}
        for one, other in others.items():
            rest = [name for name in "abcde" if name not in (one, other)]
            self.both(TIED, form, [f"{one} {other}"])
            for several in (1, 2, 3):
                for names in itertools.combinations(rest, several):
                    self.both(TIED, form, [f"{one} {other} | {' '.join(names)}"])


class WaysOfThree(Cases):
    def test_the_middle_comes_of_one_end_and_gives_the_other(self):
        self.both(TIED, "a b:a c:b", ["a c"])
        self.both(APART, "a b:a c:b", ["a c | b"])

    def test_the_middle_with_a_name_that_is_not_on_the_way(self):
        self.both(TIED, "a b:a c:b d:b e", ["a c | d", "a c | e", "a c | d e"])
        self.both(APART, "a b:a c:b d:b e", ["a c | b d", "a c | e b"])

    def test_both_ends_come_of_the_middle(self):
        self.both(TIED, "b a:b c:b", ["a c"])
        self.both(APART, "b a:b c:b", ["a c | b"])
        self.both(TIED, "b a:b c:b d:a", ["a c | d"])

    def test_the_middle_comes_of_both_ends(self):
        form = "a c b:ac d:b e:d f:e g h:a i:gb"
        self.both(APART, form, ["a c"])
        self.both(TIED, form, ["a c | b"])
        self.both(TIED, form, ["a c | d", "a c | e", "a c | f", "a c | i"])
        self.both(APART, form, ["a c | g", "a c | h", "a c | g h"])
        self.both(TIED, form, ["a c | b d", "a c | g f", "a c | h e", "a c | f g h i"])

    def test_what_the_ends_come_of_does_not_count_for_the_middle(self):
        self.both(APART, "g a:g c b:ac", ["a c | g"])
        self.both(APART, "g a c b:ac h:g", ["a c | h", "a c | g"])


class LongerWays(Cases):
    def test_in_one_row(self):
        form = "a b:a c:b d:c e:d"
        self.both(TIED, form, ["a d", "a e", "b e"])
        self.both(APART, form, ["a e | b", "a e | c", "a e | d", "a e | b d", "a d | c", "a d | b"])
        self.both(TIED, form, ["a d | e", "b d | a e"])

    def test_with_one_that_comes_of_both_sides(self):
        # a -> b -> c <- d <- e, and f of c.
        form = "a b:a e d:e c:bd f:c"
        self.both(APART, form, ["a e", "a d", "b e", "b d", "a e | b", "a e | b d"])
        self.both(TIED, form, ["a e | c", "a e | f", "b d | f", "a d | c f"])
        self.both(APART, form, ["a e | c b", "a e | f d", "a e | b c d"])

    def test_two_that_come_of_both_sides(self):
        # a -> b <- c -> d <- e: both must be told of.
        form = "a c e b:ac d:ce"
        self.both(APART, form, ["a e", "a e | b", "a e | d", "a e | c", "a e | b c d"])
        self.both(TIED, form, ["a e | b d"])

    def test_one_told_of_by_what_comes_of_it_later(self):
        form = "a c e b:ac d:ce f:b g:d h:fg"
        self.both(TIED, form, ["a e | h", "a e | f g", "a e | b g"])
        self.both(TIED, form, ["a c | h", "c e | f g"])
        self.both(APART, form, ["a e | f", "a e | g", "a e | c", "a e | b c d f g"])
        # With c named a-b-c-d-e is shut, but a-b-f-h-g-d-e is not.
        self.both(TIED, form, ["a e | h c"])


class SeveralWays(Cases):
    def test_some_shut_and_some_not(self):
        form = "a b:a c:a d:bc"
        self.both(TIED, form, ["a d", "a d | b", "a d | c", "b c"])
        self.both(APART, form, ["a d | b c", "b c | a"])
        self.both(TIED, form, ["b c | d", "b c | a d"])

    def test_one_in_two_parts_on_two_ways(self):
        # c comes of a and b, and gives d: it is the middle of a-c-b and of a-c-d.
        form = "a b c:ab d:c e:bd"
        self.both(APART, form, ["a b"])
        self.both(TIED, form, ["a b | c", "a b | d", "a b | e", "a d", "a e"])
        self.both(APART, form, ["a d | c b", "a e | b c", "a e | d b"])
        # With c alone a-c-d is shut, but a-c-b-e is not.
        self.both(TIED, form, ["a e | c", "a e | d"])
        self.both(APART, form, ["a d | c"])
        self.both(TIED, form, ["a d | c e"])

    def test_a_way_over_a_thing_twice_does_not_count(self):
        # Going a-m-d-m-b would turn round in d; the ways a-m-b are what counts, and d opens m.
        self.both(TIED, "a b m:ab d:m", ["a b | d"])
        # Here m is only passed through: named, it shuts, and what is behind it opens nothing.
        self.both(APART, "a m:a b:m d:m", ["a b | m d"])
        # To go from a to b, m would be passed, left towards d and passed again.
        self.both(APART, "a m:a d:m e:d b:m", ["a b | m d e", "a b | m e"])
        self.both(APART, "m a:m b:m c:m d:c", ["a b | m c d"])

    def test_a_round_through_others(self):
        form = "a b:a c:b d:c e:ad"
        self.both(TIED, form, ["a d | e", "a d", "a d | c e"])
        self.both(APART, form, ["a d | b", "a d | c", "b d | c", "b e | a c"])
        self.both(TIED, form, ["b e | c", "b e | a", "b d | c e"])

    def test_rain(self):
        self.hold(TIED, ["rain grass", "rain grass | sprinkler", "sprinkler grass | rain", "rain sprinkler | grass"])


class NineThings(Cases):
    def test_a_row(self):
        form = "a b:a c:b d:c e:d f:e g:f h:g i:h"
        self.both(TIED, form, ["a i"])
        self.both(APART, form, [f"a i | {name}" for name in "bcdefgh"])
        self.both(APART, form, ["a i | b c d e f g h"])

    def test_a_comb(self):
        form = "a c e g i b:ac d:ce f:eg h:gi"
        self.both(APART, form, ["a i", "a i | b d f", "a i | d f h", "a i | b d f h e"])
        self.both(TIED, form, ["a i | b d f h"])

    def test_as_many_froms_as_can_be(self):
        form = "a b:a c:ab d:abc e:abcd f:bcde g:cdef h:defg i:efgh"
        self.both(TIED, form, ["a i", "a f", "a i | b c d", "a i | f g h"])
        self.both(APART, form, ["a i | e f g h", "a f | b c d e", "a i | b c d e", "a f | b c d e i", "b g | c d e f"])
        self.both(TIED, form, ["a i | e f g", "a e | b c d f g h i"])


class AgainstTheDocument(Cases):
    """Nets made by a source that gives the same each time, with all ways gone through as the document words it."""

    def test_many_nets(self):
        chance = random.Random(40)
        for _ in range(400):
            size = chance.randint(2, 7)
            self.compare(chance, size, chance.choice([1, 2, 4]))

    def test_nets_of_nine_things(self):
        chance = random.Random(41)
        for _ in range(60):
            self.compare(chance, 9, chance.choice([1, 2, 3]))

    def compare(self, chance, size, most):
        letters = "abcdefghi"[:size]
        sources = [chance.sample(range(place), chance.randint(0, min(place, most))) for place in range(size)]
        form = " ".join(letters[place] + (":" + "".join(letters[k] for k in sources[place]) if sources[place] else "")
                        for place in range(size))
        for _ in range(4):
            places = chance.sample(range(size), chance.randint(2, size))
            text = " ".join(letters[place] for place in places[:2])
            if len(places) > 2:
                text += " | " + " ".join(letters[place] for place in places[2:])
            self.both(self.answer(sources, places[0], places[1], places[2:]), form, [text])

    def answer(self, sources, first, second, names):
        middles = [place for place in range(len(sources)) if place not in (first, second)]
        for several in range(len(middles) + 1):
            for middle in itertools.permutations(middles, several):
                way = (first,) + middle + (second,)
                steps = zip(way, way[1:])
                if all(one in sources[other] or other in sources[one] for one, other in steps):
                    if not self.shut(sources, way, names):
                        return TIED
        return APART

    def shut(self, sources, way, names):
        for before, place, behind in zip(way, way[1:], way[2:]):
            if before in sources[place] and behind in sources[place]:
                if place not in names and not any(self.comes_of(sources, name, place) for name in names):
                    return True
            elif place in names:
                return True
        return False

    def comes_of(self, sources, late, early):
        return any(source == early or self.comes_of(sources, source, early) for source in sources[late])


class Blanks(Cases):
    def test_at_the_ends_and_several_between(self):
        net = net_of("a b:a c:b")
        self.hold(TIED, ["a c", "  a c", "a c  ", "   a     c   "], net)
        self.hold(APART, [" a  c   |   b  ", "a c | b" + " " * 1000, " " * 1000 + "a c | b"], net)


class Names(Cases):
    def test_words_of_the_form_as_names(self):
        net = ("thing do : x y\n1 1\nthing from : x y from do\n1 1\n1 1\n"
               "thing thing : x y from from\n1 1\n1 1\n")
        self.hold(TIED, ["do thing", "thing do", "do from | thing"], net)
        self.hold(APART, ["do thing | from"], net)

    def test_names_differ_by_case_and_length(self):
        net = "thing a : x y\n1 1\nthing A : x y\n1 1\nthing aa : x y from a\n1 1\n1 1\n"
        self.hold(APART, ["a A", "A aa", "aa A | a"], net)
        self.hold(TIED, ["a aa", "aa a | A"], net)


class RefusedAsks(Cases):
    net = net_of("a b c:ab d:c e")

    def refuse(self, texts):
        self.hold(ASKED, texts, self.net)

    def test_how_many_names(self):
        self.refuse(["", " ", "    ", "a", " a ", "a b c", "a b c d", "a | b", "a b c | d", "a b c | e d", "| a b", "a |"])

    def test_the_two_alike(self):
        self.refuse(["a a", "a a | b", "e e"])

    def test_one_of_the_two_behind(self):
        self.refuse(["a b | a", "a b | b", "a b | c a", "a b | b c", "a b | a b", "a c | c"])

    def test_a_name_twice_behind(self):
        self.refuse(["a b | c c", "a b | c d c", "a b | d c c"])

    def test_bars(self):
        self.refuse(["|", "| |", "a b |", "a b | ", "| c", "a b | | c", "a b || c", "a b | c |", "a b | c | d", "a | b | c",
                     "a b| c", "a b |c", "a b|c", "a|b"])

    def test_names_that_are_not_there(self):
        for word in ("z", "x", "y", "A", "aa", "thing", "from", "do", "a=x", "a,", ":", "#", "0", "=", "a" * 17):
            self.refuse([f"{word} b", f"b {word}", f"{word} b | c", f"b {word} | c", f"b d | {word}", f"b d | c {word}"])

    def test_dos(self):
        self.refuse(["do a b", "a do b", "a b | do c", "a b do"])

    def test_other_bytes(self):
        for code in range(256):
            if 32 <= code <= 126:
                continue
            sign = bytes([code]).decode("latin-1")
            self.refuse([sign, "a b" + sign, sign + "a b", "a" + sign + "b", "a b |" + sign + "c", "a b | c" + sign,
                         "a b " + sign])

    def test_every_printable_sign_is_no_blank(self):
        for code in range(33, 127):
            self.refuse([f"a{chr(code)}b", f"a b{chr(code)}|", f"a b |{chr(code)}c"])


class Sizes(Cases):
    net = net_of("a b:a c:b")

    def test_what_is_asked(self):
        self.hold(APART, [wide("a c | b", 1024), wide("a c | b", 1023)], self.net)
        self.hold(TIED, [wide("a c", 1024)], self.net)
        self.hold(ASKED, ["x" * 1024, " " * 1024, "\0" * 1024], self.net)
        for size in (1025, 1026, 1100):
            self.hold(ARGUMENTS, [wide("a c | b", size), " " * size, "x" * size, "\0" * size], self.net)

    def test_the_net(self):
        self.hold(APART, ["a c | b"], padded(self.net, 65536))
        self.hold(NET, ["a c"], "#" * 65536)
        for size in (65537, 65538, 65600):
            self.hold(ARGUMENTS, ["a c | b"], padded(self.net, size))
            self.hold(ARGUMENTS, ["a c | b"], "#" * size)


class NetRefusals(Cases):
    def test_what_is_no_net(self):
        for net in ("", "#", "x", "thing a : x y\n0 0\n", "thing a : x y\n", RAIN + "1 1\n", RAIN + "\0", "thing a : x\n1"):
            self.hold(NET, ["rain grass", "a b"], net)


class Order(Cases):
    def test_arguments_before_the_net(self):
        self.hold(ARGUMENTS, [wide("rain grass", 1025)], "x")
        self.hold(ARGUMENTS, ["rain grass"], "x" * 65537)

    def test_arguments_before_what_is_asked(self):
        self.hold(ARGUMENTS, ["x" * 1025], RAIN)
        self.hold(ARGUMENTS, ["x"], padded(RAIN, 65537))

    def test_the_net_before_what_is_asked(self):
        self.hold(NET, ["", "rain", "rain rain", "|", "\0", "rain snow"], RAIN + "x")


class Kept(Keeping, unittest.TestCase):
    calls = [(bn_apart, list(values)) for values in (
        (RAIN, "rain grass"),
        (RAIN, "rain grass | sprinkler"),
        (net_of("a b:a c:b"), "a c"),
        (net_of("a b:a c:b"), "a c | b"),
        (net_of("a c e b:ac d:ce f:b g:d h:fg"), "a e | h"),
        (net_of("a c e g i b:ac d:ce f:eg h:gi"), "a i | b d f h"),
        (net_of("a b:a c:ab d:abc e:abcd f:bcde g:cdef h:defg i:efgh"), "a i | e f g h"),
        (RAIN, "rain snow"),
        (RAIN, "x " * 512),
        (RAIN, wide("rain grass", 1025)),
        (RAIN + "x", "rain grass"),
        (padded(RAIN, 65536), "rain grass"),
        (padded(RAIN, 65537), "rain grass"),
        (chain([4] * 6), "t0 t5"),
    )]


if __name__ == "__main__":
    unittest.main()
