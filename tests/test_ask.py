"""bn_ask: how likely facts are, if others are known or done."""

import random
import unittest
from fractions import Fraction

from chancenet.nets import bn_ask
from helping import MOST, RAIN, Keeping, Model, chain, codes, padded, told, wide

LONG = [-1]
ARGUMENTS = [-2]
NET = [-3]
ASKED = [-4]
CANT = [-5]

# A thing with three values that can never be its first one, and one that follows it.
NEVER = (
    "thing a : no some more\n"
    "0 1 2\n"
    "thing b : x y from a\n"
    "1 1\n"
    "2 0\n"
    "0 2\n"
)

# c comes of four others; each of its lines gives another chance, so that a wrong line shows.
FOUR = (
    "thing p : p0 p1\n1 1\n"
    "thing q : q0 q1 q2\n1 1 1\n"
    "thing r : r0 r1\n1 1\n"
    "thing s : s0 s1\n1 1\n"
    "thing c : x y from q p s r\n"
    + "".join(f"{line} {100 - line}\n" for line in range(1, 25))
)


def ask(text, net=RAIN, most=MOST):
    return bn_ask(most, codes(net), codes(text))


class Cases(unittest.TestCase):
    def hold(self, answer, texts, net=RAIN, most=MOST):
        for text in texts:
            with self.subTest(text=text[:200], net=net[:200], most=most):
                self.assertEqual(ask(text, net, most), answer)

    def chances(self, net, pairs):
        for text, chance in pairs:
            self.hold(told(chance), [text], net)


class Chances(Cases):
    def test_to_the_byte(self):
        self.assertEqual(ask("rain=yes"), [3, 49, 47, 53])
        self.assertEqual(ask("rain=yes | rain=no"), [3, 48, 47, 49])

    def test_one_fact(self):
        self.chances(RAIN, [
            ("rain=yes", "1/5"),
            ("rain=no", "4/5"),
            ("sprinkler=on", "161/500"),
            ("grass=wet", "22419/50000"),
        ])

    def test_several_facts(self):
        self.chances(RAIN, [
            ("rain=yes sprinkler=on", "1/500"),
            ("sprinkler=on rain=yes", "1/500"),
            ("rain=no sprinkler=off grass=dry", "12/25"),
            ("grass=dry rain=no sprinkler=off", "12/25"),
            ("rain=no sprinkler=off grass=wet", "0/1"),
        ])

    def test_with_facts_behind(self):
        self.chances(RAIN, [
            ("rain=yes | grass=wet", "891/2491"),
            ("grass=wet | rain=yes", "8019/10000"),
            ("grass=wet | rain=yes sprinkler=off", "4/5"),
            ("grass=wet | rain=no sprinkler=off", "0/1"),
            ("rain=no sprinkler=off | grass=dry", "24000/27581"),
            ("sprinkler=on | rain=yes", "1/100"),
        ])

    def test_nothing_and_all(self):
        self.chances(NEVER, [
            ("a=no", "0/1"),
            ("a=some | b=x", "1/1"),
            ("a=more | b=x", "0/1"),
            ("b=y | a=more", "1/1"),
            ("a=no b=x", "0/1"),
        ])
        self.chances("thing a : x y\n7 0\n", [("a=x", "1/1"), ("a=y", "0/1")])

    def test_lowest_terms(self):
        self.chances("thing a : x y z\n250 500 250\n", [("a=x", "1/4"), ("a=y", "1/2"), ("a=y | a=y", "1/1")])
        self.chances("thing a : x y\n6 9\n", [("a=x", "2/5"), ("a=y", "3/5")])
        self.chances("thing a : x y\n1 999\n", [("a=x", "1/1000"), ("a=y", "999/1000")])

    def test_a_thing_before_and_behind(self):
        self.chances(RAIN, [
            ("rain=yes | rain=yes", "1/1"),
            ("rain=yes | rain=no", "0/1"),
            ("rain=yes grass=wet | rain=yes", "8019/10000"),
            ("rain=yes grass=wet | rain=no", "0/1"),
            ("sprinkler=on rain=no | grass=wet sprinkler=on", str(Fraction(14400, 14499))),
        ])

    def test_one_above_uses_its_own_line(self):
        net = "thing a : x y z\n1 1 1\nthing b : u v from a\n1 9\n3 7\n6 4\n"
        self.chances(net, [
            ("b=u | a=x", "1/10"),
            ("b=u | a=y", "3/10"),
            ("b=u | a=z", "3/5"),
            ("b=v | a=z", "2/5"),
            ("a=z | b=u", "3/5"),
            ("b=u", "1/3"),
        ])

    def test_four_above_the_last_changes_first(self):
        line = 0
        for q in range(3):
            for p in range(2):
                for s in range(2):
                    for r in range(2):
                        line += 1
                        known = f"p=p{p} q=q{q} r=r{r} s=s{s}"
                        self.chances(FOUR, [
                            (f"c=x | {known}", str(Fraction(line, 100))),
                            (f"c=y | {known}", str(Fraction(100 - line, 100))),
                            (f"c=x {known}", str(Fraction(line, 2400))),
                        ])

    def test_none_above(self):
        self.chances(chain([2, 3, 4]), [
            ("t0=v0", "1/2"),
            ("t1=v2", "1/3"),
            ("t2=v3", "1/4"),
            ("t2=v3 t0=v0 t1=v1", "1/24"),
            ("t1=v1 | t0=v0 t2=v2", "1/3"),
        ])

    def test_what_has_as_many_bytes_as_can_be_told_in_nine_things(self):
        net = "".join(f"thing t{k} : x y\n1 {991 + k}\n" for k in range(9))
        whole = 1
        for k in range(9):
            whole *= 992 + k
        self.chances(net, [(" ".join(f"t{k}=x" for k in range(9)), f"1/{whole}")])

    def test_nets_of_nine_things_and_of_4096_states(self):
        for counts in ([2] * 9, [4] * 6, [2, 2, 2, 2, 2, 2, 4, 4, 4], [4, 4, 4, 2, 2, 2, 2, 2, 2]):
            several = len(counts)
            whole = 1
            for count in counts:
                whole *= count
            facts = " ".join(f"t{k}=v{counts[k] - 1}" for k in range(several))
            self.chances(chain(counts), [
                (facts, f"1/{whole}"),
                (f"t0=v0 | {facts}", "0/1"),
                (f"{facts} | t0=v{counts[0] - 1}", f"1/{whole // counts[0]}"),
            ])

    def test_names_alike(self):
        net = "thing a : a b\n1 2\nthing b : a b from a\n1 4\n3 2\n"
        self.chances(net, [("a=a", "1/3"), ("a=b", "2/3"), ("b=a | a=a", "1/5"), ("b=b a=b", "4/15")])

    def test_words_of_the_form_as_names(self):
        net = "thing do : do x\n1 2\nthing from : y thing from do\n1 4\n3 2\n"
        self.chances(net, [
            ("do=do", "1/3"),
            ("do=x | from=y", "6/7"),
            ("do=x | do from=y", "2/3"),
            ("from=y | do do=x", "3/5"),
            ("from=thing | do=do", "4/5"),
        ])

    def test_names_differ_by_case_and_length(self):
        net = "thing a : x X\n1 2\nthing A : x X\n1 4\nthing aa : x xx\n1 6\n"
        self.chances(net, [("a=x", "1/3"), ("A=x", "1/5"), ("aa=x", "1/7"), ("aa=xx", "6/7"), ("A=X", "4/5")])


class Done(Cases):
    def test_the_only_one(self):
        self.chances(RAIN, [
            ("grass=wet | do sprinkler=on", "459/500"),
            ("grass=wet | sprinkler=on", "14499/16100"),
            ("grass=wet | do rain=yes", "8019/10000"),
        ])

    def test_it_tells_nothing_of_what_it_comes_of(self):
        self.chances(RAIN, [
            ("rain=yes | sprinkler=on", "1/161"),
            ("rain=yes | do sprinkler=on", "1/5"),
            ("rain=yes | grass=wet", "891/2491"),
            ("rain=yes | do grass=wet", "1/5"),
            ("sprinkler=on | do grass=wet", "161/500"),
        ])

    def test_before_some_of_the_facts(self):
        both = Fraction(1, 5) * Fraction(99, 100)
        other = Fraction(4, 5) * Fraction(90, 100)
        chance = str(both / (both + other))
        self.chances(RAIN, [
            ("rain=yes | grass=wet do sprinkler=on", chance),
            ("rain=yes | do sprinkler=on grass=wet", chance),
            ("sprinkler=on | do grass=wet rain=yes", "1/100"),
            ("sprinkler=on | rain=yes do grass=wet", "1/100"),
            ("sprinkler=on | grass=wet do rain=yes", "1/81"),
        ])

    def test_before_all_of_them(self):
        self.chances(RAIN, [
            ("grass=wet | do rain=no do sprinkler=off", "0/1"),
            ("grass=wet | do sprinkler=on do rain=no", "9/10"),
            ("sprinkler=on | do rain=yes do grass=dry", "1/100"),
            ("rain=yes grass=dry | do rain=yes do sprinkler=on do grass=dry", "1/1"),
        ])

    def test_its_own_weights_dont_count(self):
        self.chances(NEVER, [
            ("a=no | do a=no", "1/1"),
            ("b=x | do a=no", "1/2"),
            ("a=some | do a=no", "0/1"),
            ("a=more | do b=x", "2/3"),
            ("a=more | do b=x a=more", "1/1"),
        ])
        self.chances(RAIN, [
            ("grass=wet | rain=no sprinkler=off do grass=wet", "1/1"),
            ("rain=yes | sprinkler=off do grass=wet", str(Fraction(99, 99 + 4 * 60))),
        ])

    def test_a_thing_before_and_done_behind(self):
        self.chances(RAIN, [
            ("rain=yes | do rain=yes", "1/1"),
            ("rain=no | do rain=yes", "0/1"),
            ("sprinkler=on rain=yes | do sprinkler=on", "1/5"),
            ("sprinkler=off rain=yes | do sprinkler=on", "0/1"),
        ])

    def test_what_comes_of_it_hears_of_it(self):
        net = "thing a : x y\n1 3\nthing b : x y from a\n9 1\n1 9\nthing c : x y from b\n8 2\n3 7\n"
        self.chances(net, [
            ("c=x | do a=x", str(Fraction(9 * 8 + 1 * 3, 100))),
            ("c=x | do b=y", "3/10"),
            ("a=x | do b=y", "1/4"),
            ("a=x | b=y", str(Fraction(1, 1 + 27))),
            ("a=x | do b=y c=x", "1/4"),
            ("b=x | do c=x do a=y", "1/10"),
        ])


class AgainstTheDocument(Cases):
    """Chances of nets made by a source that gives the same each time, worked out state by state."""

    def test_many_nets(self):
        chance = random.Random(20)
        for _ in range(150):
            model = Model(chance, [chance.randint(2, 4) for _ in range(chance.randint(1, 5))])
            for _ in range(4):
                self.compare(chance, model)

    def test_nets_of_nine_things(self):
        chance = random.Random(9)
        for _ in range(4):
            self.compare(chance, Model(chance, [2] * 9, most_weight=1000))

    def compare(self, chance, model):
        several = len(model.counts)
        wanted = self.pick(chance, model, chance.randint(1, several))
        known = self.pick(chance, model, chance.randint(0, several))
        done = {place: value for place, value in known.items() if chance.randint(0, 2) == 0}
        text = " ".join(f"t{place}=v{value}" for place, value in wanted.items())
        if known:
            behind = [("do " if place in done else "") + f"t{place}=v{value}" for place, value in known.items()]
            text += " | " + " ".join(behind)
        self.hold(self.answer(model, wanted, known, done), [text], model.text())

    @staticmethod
    def pick(chance, model, several):
        places = chance.sample(range(len(model.counts)), several)
        return {place: chance.randrange(model.counts[place]) for place in places}

    @staticmethod
    def answer(model, wanted, known, done):
        part = whole = Fraction(0)
        for state in model.states():
            if all(state[place] == value for place, value in known.items()):
                likely = model.likely(state, done)
                whole += likely
                if all(state[place] == value for place, value in wanted.items()):
                    part += likely
        if whole == 0:
            return CANT
        ratio = part / whole
        return told(f"{ratio.numerator}/{ratio.denominator}")


class Blanks(Cases):
    def test_at_the_ends_and_several_between(self):
        self.hold(told("891/2491"), [
            "rain=yes | grass=wet",
            "  rain=yes | grass=wet",
            "rain=yes | grass=wet   ",
            "   rain=yes    |     grass=wet ",
        ])
        self.hold(told("459/500"), [
            " grass=wet  |  do   sprinkler=on  ",
            "grass=wet | do sprinkler=on" + " " * 900,
            " " * 900 + "grass=wet | do sprinkler=on",
        ])


class RefusedAsks(Cases):
    def test_other_bytes(self):
        for code in range(256):
            if 32 <= code <= 126:
                continue
            sign = bytes([code]).decode("latin-1")
            self.hold(ASKED, [
                "rain=yes" + sign,
                sign + "rain=yes",
                "rain=yes " + sign + " grass=wet",
                "rain=yes" + sign + "grass=wet",
                "rain=yes | grass=wet" + sign,
                "rain=y" + sign + "es",
                sign,
            ])

    def test_a_line_end(self):
        self.hold(ASKED, ["rain=yes\n", "\nrain=yes", "rain=yes\ngrass=wet", "rain=yes |\ngrass=wet", "\n"])

    def test_every_printable_sign_is_no_blank(self):
        for code in range(33, 127):
            self.hold(ASKED, [f"rain=yes{chr(code)}", f"{chr(code)}rain=yes", f"rain=yes{chr(code)}grass=wet"])

    def test_no_fact(self):
        self.hold(ASKED, ["", " ", "     ", "#", "# rain=yes", "#rain=yes"])

    def test_bars(self):
        self.hold(ASKED, [
            "|",
            " | ",
            "rain=yes |",
            "rain=yes | ",
            "| rain=yes",
            " | rain=yes",
            "||",
            "| |",
            "rain=yes | | grass=wet",
            "rain=yes || grass=wet",
            "rain=yes | grass=wet |",
            "rain=yes | grass=wet | sprinkler=on",
            "rain=yes| grass=wet",
            "rain=yes |grass=wet",
            "rain=yes|grass=wet",
        ])

    def test_dos(self):
        self.hold(ASKED, [
            "do",
            "do rain=yes",
            "rain=yes do grass=wet",
            "rain=yes do",
            "do rain=yes | grass=wet",
            "rain=yes do | grass=wet",
            "rain=yes | do",
            "rain=yes | grass=wet do",
            "rain=yes | do grass=wet do",
            "rain=yes | do do grass=wet",
            "rain=yes | do do",
            "rain=yes | do do do grass=wet",
            "rain=yes | sprinkler=on do do grass=wet",
            "rain=yes | do | grass=wet",
            "rain=yes | DO grass=wet",
            "rain=yes | Do grass=wet",
            "rain=yes | dograss=wet",
            "rain=yes | do=grass=wet",
            "rain=yes | do grass",
            "do | do",
        ])

    def wrong(self, words):
        for word in words:
            self.hold(ASKED, [
                word,
                f"{word} grass=wet",
                f"grass=wet {word}",
                f"grass=wet | {word}",
                f"{word} | grass=wet",
                f"grass=wet | sprinkler=on {word}",
                f"grass=wet | {word} sprinkler=on",
                f"grass=wet | do {word}",
            ])

    def test_words_that_are_no_facts(self):
        self.wrong(["rain", "yes", "rain==yes", "rain=yes=", "=rain=yes", "rain=yes=no", "rain=yes=yes", "rain=", "=yes",
                    "=", "==", "rain = yes", "rain= yes", "rain =yes", "rain:yes", "rain<=yes", "rain!=yes", "!rain=yes",
                    "(rain=yes)", "rain=yes,", "rain=yes;"])

    def test_names_and_values_that_are_not_there(self):
        self.wrong(["snow=yes", "rain=maybe", "rain=on", "rain=wet", "sprinkler=yes", "Rain=yes", "rain=Yes", "rai=yes",
                    "rain=ye", "rainy=yes", "rain=yess", "yes=rain", "rain=rain", "yes=yes", "thing=yes", "rain=0",
                    "rain=1", "0=yes", "0=0", "rain=" + "y" * 17, "r" * 17 + "=yes", "rain=*", "*=yes"])

    def test_a_thing_in_two_facts_before(self):
        self.hold(ASKED, [
            "rain=yes rain=yes",
            "rain=yes rain=no",
            "rain=yes grass=wet rain=yes",
            "rain=yes rain=no | grass=wet",
            "rain=yes grass=wet rain=yes | sprinkler=on",
        ])

    def test_a_thing_in_two_facts_behind(self):
        self.hold(ASKED, [
            "grass=wet | rain=yes rain=yes",
            "grass=wet | rain=yes rain=no",
            "grass=wet | rain=yes sprinkler=on rain=yes",
            "grass=wet | do rain=yes rain=yes",
            "grass=wet | rain=yes do rain=yes",
            "grass=wet | do rain=yes do rain=yes",
            "grass=wet | do rain=yes rain=no",
            "grass=wet | rain=no do rain=yes",
            "grass=wet | do rain=yes do rain=no",
            "grass=wet | do rain=yes sprinkler=on do rain=no",
            "rain=yes | rain=yes rain=yes",
        ])


class CantBe(Cases):
    def test_known_alone(self):
        self.hold(CANT, ["rain=yes | rain=no sprinkler=off grass=wet", "grass=wet | grass=wet sprinkler=off rain=no"])
        self.hold(CANT, ["b=x | a=no", "a=no | a=no", "a=some | a=no", "b=y | a=some b=y", "b=x | a=no b=x"], NEVER)

    def test_with_do(self):
        self.hold(CANT, [
            "rain=yes | do sprinkler=off grass=wet rain=no",
            "rain=yes | grass=wet do sprinkler=off do rain=no",
            "sprinkler=off | grass=wet do sprinkler=off do rain=no",
        ])
        self.hold(CANT, ["b=x | do b=x a=no", "b=x | a=no do b=x", "b=y | do a=some b=y", "a=no | do b=y a=no"], NEVER)

    def test_done_alone_can_always_be(self):
        self.hold(told("1/1"), ["b=y | do a=some do b=y", "a=no | do a=no"], NEVER)
        self.hold(told("1/1"), ["grass=wet | do grass=wet do rain=no do sprinkler=off"])

    def test_what_is_not_known_can_be_unlikely(self):
        self.hold(told("0/1"), ["a=no"], NEVER)


class Most(Cases):
    def test_how_many_bytes(self):
        for text, chance in (("rain=yes", "1/5"), ("rain=yes | grass=wet", "891/2491"), ("rain=yes | rain=no", "0/1")):
            size = len(chance)
            self.hold(told(chance), [text], most=size)
            self.hold(told(chance), [text], most=size + 1)
            self.hold(told(chance), [text], most=MOST)
            for most in range(size):
                self.hold(LONG, [text], most=most)


class Sizes(Cases):
    def test_what_is_asked(self):
        self.hold(told("1/5"), [wide("rain=yes", 1024), wide("rain=yes", 1023)])
        self.hold(ASKED, ["x" * 1024, " " * 1024, "\0" * 1024])
        for size in (1025, 1026, 1100):
            self.hold(ARGUMENTS, [wide("rain=yes", size), " " * size, "x" * size, "\0" * size])

    def test_the_net(self):
        self.hold(told("1/5"), ["rain=yes"], padded(RAIN, 65536))
        self.hold(NET, ["rain=yes"], "#" * 65536)
        for size in (65537, 65538, 65600):
            self.hold(ARGUMENTS, ["rain=yes"], padded(RAIN, size))
            self.hold(ARGUMENTS, ["rain=yes"], "#" * size)


class NetRefusals(Cases):
    def test_what_is_no_net(self):
        for net in ("", "#", "x", "thing a : x y\n0 0\n", "thing a : x y\n", RAIN + "1 1\n", RAIN + "\0", "thing a : x\n1"):
            self.hold(NET, ["rain=yes", "a=x"], net)


class Order(Cases):
    def test_arguments_before_the_net(self):
        self.hold(ARGUMENTS, [wide("rain=yes", 1025)], "x")
        self.hold(ARGUMENTS, [wide("", 1025)], "")
        self.hold(ARGUMENTS, ["rain=yes"], "x" * 65537)

    def test_arguments_before_what_is_asked(self):
        self.hold(ARGUMENTS, ["x" * 1025])
        self.hold(ARGUMENTS, ["x"], padded(RAIN, 65537))
        self.hold(ARGUMENTS, ["rain=yes"], padded(RAIN, 65537), most=0)

    def test_the_net_before_what_is_asked(self):
        self.hold(NET, ["", "rain=yes rain=yes", "|", "\0", "snow=yes"], RAIN + "x")

    def test_what_is_asked_before_what_cant_be(self):
        self.hold(ASKED, [
            "rain=maybe | rain=no sprinkler=off grass=wet",
            "rain=yes | rain=no sprinkler=off grass=wet do",
            "rain=yes | rain=no sprinkler=off grass=wet grass=wet",
            "rain=yes rain=yes | rain=no sprinkler=off grass=wet",
            "rain=yes | rain=no sprinkler=off grass=wet |",
        ])

    def test_what_cant_be_before_what_is_too_long(self):
        for most in (0, 1, 2):
            self.hold(CANT, ["rain=yes | rain=no sprinkler=off grass=wet"], most=most)
            self.hold(CANT, ["rain=yes | rain=no do sprinkler=off grass=wet"], most=most)

    def test_too_long_behind_all(self):
        self.hold(ARGUMENTS, [wide("rain=yes", 1025)], most=0)
        self.hold(NET, ["rain=yes"], "x", most=0)
        self.hold(ASKED, ["rain=maybe"], most=0)
        self.hold(LONG, ["rain=yes"], most=0)


class Kept(Keeping, unittest.TestCase):
    calls = [(bn_ask, list(values)) for values in (
        (MOST, RAIN, "rain=yes | grass=wet do sprinkler=on"),
        (MOST, RAIN, "rain=yes | grass=wet sprinkler=on"),
        (MOST, RAIN, "rain=yes"),
        (3, RAIN, "rain=yes"),
        (2, RAIN, "rain=yes"),
        (MOST, NEVER, "b=x | do a=no"),
        (MOST, NEVER, "b=x | a=no"),
        (MOST, RAIN, "rain=maybe"),
        (MOST, RAIN, "x " * 512),
        (MOST, RAIN, wide("rain=yes", 1025)),
        (MOST, RAIN + "x", "rain=yes"),
        (MOST, padded(RAIN, 65536), "grass=wet"),
        (MOST, padded(RAIN, 65537), "grass=wet"),
        (MOST, chain([4] * 6), "t0=v0 | t1=v1"),
        (MOST, FOUR, "c=x | p=p0"),
    )]


if __name__ == "__main__":
    unittest.main()
