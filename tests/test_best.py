"""bn_best: the likeliest of the states in which facts hold."""

import random
import unittest

from chancenet.nets import bn_ask, bn_best
from helping import MOST, RAIN, Keeping, Model, chain, codes, padded, told, wide

LONG = [-1]
ARGUMENTS = [-2]
NET = [-3]
ASKED = [-4]
CANT = [-5]

# a is likelier x by itself, but the likeliest state has a=y: what comes of x is spread over three values.
SPREAD = (
    "thing a : x y\n"
    "6 4\n"
    "thing b : u v w from a\n"
    "3 4 3\n"
    "0 10 0\n"
)

NEVER = (
    "thing a : no some more\n"
    "0 1 2\n"
    "thing b : x y from a\n"
    "1 1\n"
    "2 0\n"
    "0 2\n"
)


def best(text, net=RAIN, most=MOST):
    return bn_best(most, codes(net), codes(text))


class Cases(unittest.TestCase):
    def hold(self, answer, texts, net=RAIN, most=MOST):
        for text in texts:
            with self.subTest(text=text[:200], net=net[:200], most=most):
                self.assertEqual(best(text, net, most), answer)

    def states(self, net, pairs):
        for text, state in pairs:
            self.hold(told(state), [text], net)


class Likeliest(Cases):
    def test_to_the_byte(self):
        net = "thing a : x y\n1 2\nthing b : u v\n3 1\n"
        self.assertEqual(best("", net), [7, 97, 61, 121, 32, 98, 61, 117])

    def test_no_facts(self):
        self.hold(told("rain=no sprinkler=off grass=dry"), ["", " ", "       ", " " * 1024])

    def test_one_fact(self):
        self.states(RAIN, [
            ("grass=wet", "rain=no sprinkler=on grass=wet"),
            ("rain=yes", "rain=yes sprinkler=off grass=wet"),
            ("sprinkler=on", "rain=no sprinkler=on grass=wet"),
            ("  sprinkler=on  ", "rain=no sprinkler=on grass=wet"),
            ("grass=dry", "rain=no sprinkler=off grass=dry"),
        ])

    def test_several_facts(self):
        self.states(RAIN, [
            ("grass=wet sprinkler=off", "rain=yes sprinkler=off grass=wet"),
            ("sprinkler=off grass=wet", "rain=yes sprinkler=off grass=wet"),
            ("  sprinkler=off    grass=wet ", "rain=yes sprinkler=off grass=wet"),
            ("rain=yes grass=dry", "rain=yes sprinkler=off grass=dry"),
        ])

    def test_a_fact_for_each_thing(self):
        self.states(RAIN, [
            ("rain=yes sprinkler=on grass=dry", "rain=yes sprinkler=on grass=dry"),
            ("grass=dry sprinkler=on rain=yes", "rain=yes sprinkler=on grass=dry"),
            ("sprinkler=off rain=no grass=dry", "rain=no sprinkler=off grass=dry"),
        ])

    def test_one_thing(self):
        self.states("thing a : x y z w\n1 2 4 3\n", [("", "a=z"), ("a=x", "a=x"), ("a=w", "a=w")])
        self.states("thing a : x y\n0 1\n", [("", "a=y"), ("a=y", "a=y")])

    def test_names_of_all_sizes(self):
        net = "thing abcdefghijklmnop : ABCDEFGHIJKLMNOP 0123456789012345\n1 2\nthing _ : 0 _\n1 2\n"
        self.states(net, [
            ("", "abcdefghijklmnop=0123456789012345 _=_"),
            ("_=0", "abcdefghijklmnop=0123456789012345 _=0"),
            ("abcdefghijklmnop=ABCDEFGHIJKLMNOP", "abcdefghijklmnop=ABCDEFGHIJKLMNOP _=_"),
        ])

    def test_things_called_like_words_of_the_form(self):
        net = "thing do : do x\n1 2\nthing from : y thing from do\n1 4\n3 2\n"
        self.states(net, [("", "do=x from=y"), ("do=do", "do=do from=thing"), ("from=y", "do=x from=y")])

    def test_nine_things(self):
        net = "".join(f"thing t{k} : x y\n{k} {8 - k}\n" for k in range(9))
        self.states(net, [
            ("", "t0=y t1=y t2=y t3=y t4=x t5=x t6=x t7=x t8=x"),
            ("t4=y", "t0=y t1=y t2=y t3=y t4=y t5=x t6=x t7=x t8=x"),
            ("t7=y t1=x", "t0=y t1=x t2=y t3=y t4=x t5=x t6=x t7=y t8=x"),
        ])

    def test_4096_states(self):
        for counts in ([4] * 6, [2, 2, 2, 2, 2, 2, 4, 4, 4], [4, 4, 4, 2, 2, 2, 2, 2, 2]):
            first = " ".join(f"t{k}=v0" for k in range(len(counts)))
            self.states(chain(counts), [("", first), ("t1=v1", first.replace("t1=v0", "t1=v1"))])
        net = "".join(f"thing t{k} : a b c d\n1 1 1 2\n" for k in range(6))
        self.states(net, [("", "t0=d t1=d t2=d t3=d t4=d t5=d"), ("t2=a", "t0=d t1=d t2=a t3=d t4=d t5=d")])

    def test_together_is_not_each_by_itself(self):
        self.assertEqual(bn_ask(MOST, codes(SPREAD), codes("a=x")), told("3/5"))
        self.states(SPREAD, [("", "a=y b=v"), ("a=x", "a=x b=v"), ("b=u", "a=x b=u")])

    def test_four_above_the_last_changes_first(self):
        heads = "thing p : 0 1\n1 1\nthing q : 0 1 2\n1 1 1\nthing r : 0 1\n1 1\nthing s : 0 1\n1 1\n"
        for line in range(24):
            rows = ["9 0" if k == line else "0 9" for k in range(24)]
            net = heads + "thing c : x y from q p s r\n" + "\n".join(rows) + "\n"
            state = f"p={line // 4 % 2} q={line // 8} r={line % 2} s={line // 2 % 2} c=x"
            self.states(net, [("c=x", state)])

    def test_sums_that_differ_between_things(self):
        net = "thing a : x y\n1 2\nthing b : x y from a\n1000 0\n400 600\nthing c : x y from b\n1 0\n0 1\n"
        self.states(net, [("", "a=y b=y c=y"), ("c=x", "a=x b=x c=x")])


class Equals(Cases):
    def test_two(self):
        self.states("thing a : x y\n1 1\n", [("", "a=x")])
        self.states("thing a : x y z\n1 2 2\n", [("", "a=y")])
        self.states("thing a : x y z\n2 1 2\n", [("", "a=x")])

    def test_more(self):
        self.states("thing a : x y z w\n1 1 1 1\n", [("", "a=x")])
        self.states("thing a : x y z w\n1 3 3 3\n", [("", "a=y")])
        self.states(chain([4, 4]), [("", "t0=v0 t1=v0"), ("t1=v2", "t0=v0 t1=v2"), ("t0=v3", "t0=v3 t1=v0")])

    def test_in_the_middle(self):
        net = "thing a : x y\n1 2\nthing b : x y z\n0 1 1\nthing c : x y\n1 2\n"
        self.states(net, [("", "a=y b=y c=y"), ("b=z", "a=y b=z c=y"), ("c=x", "a=y b=y c=x")])

    def test_in_the_last(self):
        net = "thing a : x y\n1 2\nthing b : x y\n1 2\nthing c : x y z\n1 2 2\n"
        self.states(net, [("", "a=y b=y c=y"), ("a=x", "a=x b=y c=y")])

    def test_the_first_thing_that_differs_decides(self):
        # Equals are a=x b=v and a=y b=u.
        net = "thing a : x y\n1 1\nthing b : u v from a\n0 1\n1 0\n"
        self.states(net, [("", "a=x b=v")])
        # Equals are a=x b=v c=v and a=y b=u c=u.
        net += "thing c : u v from b\n1 0\n0 1\n"
        self.states(net, [("", "a=x b=v c=v")])

    def test_it_is_the_order_of_telling_not_that_of_letters(self):
        self.states("thing z : b a\n1 1\nthing a : z 0\n1 1\n", [("", "z=b a=z")])

    def test_equals_by_other_weights(self):
        # 2 * 3 for a=x b=v; 3 * 2 for a=y b=u and for a=y b=v.
        net = "thing a : x y\n2 3\nthing b : u v from a\n1 3\n2 2\n"
        self.states(net, [("", "a=x b=v"), ("a=y", "a=y b=u"), ("b=v", "a=x b=v"), ("b=u", "a=y b=u")])


class AgainstTheDocument(Cases):
    """States of nets made by a source that gives the same each time, worked out state by state."""

    def test_many_nets(self):
        chance = random.Random(30)
        for _ in range(300):
            model = Model(chance, [chance.randint(2, 4) for _ in range(chance.randint(1, 5))])
            for _ in range(3):
                places = chance.sample(range(len(model.counts)), chance.randint(0, len(model.counts)))
                facts = {place: chance.randrange(model.counts[place]) for place in places}
                text = " ".join(f"t{place}=v{value}" for place, value in facts.items())
                self.hold(self.answer(model, facts), [text], model.text())

    @staticmethod
    def answer(model, facts):
        states = [state for state in model.states() if all(state[place] == facts[place] for place in facts)]
        top = max(model.likely(state) for state in states)
        if top == 0:
            return CANT
        first = min(state for state in states if model.likely(state) == top)
        return told(" ".join(f"t{place}=v{value}" for place, value in enumerate(first)))


class RefusedFacts(Cases):
    def test_other_bytes(self):
        for code in range(256):
            if 32 <= code <= 126:
                continue
            sign = bytes([code]).decode("latin-1")
            self.hold(ASKED, [
                sign,
                "rain=yes" + sign,
                sign + "rain=yes",
                "rain=yes" + sign + "grass=wet",
                "rain=y" + sign + "es",
                "  " + sign + "  ",
            ])

    def test_every_printable_sign_is_no_blank(self):
        for code in range(33, 127):
            self.hold(ASKED, [f"rain=yes{chr(code)}", f"{chr(code)}rain=yes", f"rain=yes{chr(code)}grass=wet", chr(code)])

    def test_bars_and_dos_have_no_place(self):
        self.hold(ASKED, [
            "|",
            "| rain=yes",
            "rain=yes |",
            "rain=yes | grass=wet",
            "rain=yes|grass=wet",
            "do",
            "do rain=yes",
            "rain=yes do",
            "rain=yes do grass=wet",
            "rain=yes | do grass=wet",
            "# rain=yes",
        ])

    def test_words_that_are_no_facts(self):
        for word in ("rain", "yes", "rain==yes", "rain=yes=", "=rain=yes", "rain=yes=no", "rain=", "=yes", "=", "==",
                     "rain = yes", "rain= yes", "rain =yes", "rain:yes", "rain=yes,"):
            self.hold(ASKED, [word, f"grass=wet {word}", f"{word} grass=wet"])

    def test_names_and_values_that_are_not_there(self):
        for word in ("snow=yes", "rain=maybe", "rain=on", "rain=wet", "sprinkler=yes", "Rain=yes", "rain=Yes", "rai=yes",
                     "rain=ye", "rainy=yes", "rain=yess", "yes=rain", "yes=yes", "thing=yes", "rain=0", "0=yes"):
            self.hold(ASKED, [word, f"grass=wet {word}", f"{word} grass=wet"])

    def test_a_thing_in_two_facts(self):
        self.hold(ASKED, ["rain=yes rain=yes", "rain=yes rain=no", "rain=yes grass=wet rain=yes",
                          "grass=wet rain=no rain=yes"])


class CantBe(Cases):
    def test_what_is_known_cant_be(self):
        self.hold(CANT, ["rain=no sprinkler=off grass=wet", "grass=wet sprinkler=off rain=no"])
        self.hold(CANT, ["a=no", "a=no b=x", "b=y a=no", "a=some b=y", "b=x a=more"], NEVER)

    def test_what_can_just_be(self):
        self.states(NEVER, [("", "a=more b=y"), ("b=x", "a=some b=x"), ("a=some", "a=some b=x")])


class Most(Cases):
    def test_how_many_bytes(self):
        for text, net, state in (
            ("", RAIN, "rain=no sprinkler=off grass=dry"),
            ("grass=wet", RAIN, "rain=no sprinkler=on grass=wet"),
            ("", "thing a : x y\n1 1\n", "a=x"),
        ):
            self.hold(told(state), [text], net, len(state))
            self.hold(told(state), [text], net, len(state) + 1)
            for most in range(len(state)):
                self.hold(LONG, [text], net, most)


class Sizes(Cases):
    def test_what_is_known(self):
        self.hold(told("rain=no sprinkler=on grass=wet"), [wide("grass=wet", 1024), wide("grass=wet", 1023)])
        self.hold(ASKED, ["x" * 1024, "\0" * 1024])
        for size in (1025, 1026, 1100):
            self.hold(ARGUMENTS, [wide("grass=wet", size), " " * size, "x" * size, "\0" * size])

    def test_the_net(self):
        self.hold(told("rain=no sprinkler=on grass=wet"), ["grass=wet"], padded(RAIN, 65536))
        self.hold(NET, ["", "rain=yes"], "#" * 65536)
        for size in (65537, 65538, 65600):
            self.hold(ARGUMENTS, ["", "grass=wet"], padded(RAIN, size))
            self.hold(ARGUMENTS, ["", "grass=wet"], "#" * size)


class NetRefusals(Cases):
    def test_what_is_no_net(self):
        for net in ("", "#", "x", "thing a : x y\n0 0\n", "thing a : x y\n", RAIN + "1 1\n", RAIN + "\0", "thing a : x\n1"):
            self.hold(NET, ["", "rain=yes", "a=x"], net)


class Order(Cases):
    def test_arguments_before_the_net(self):
        self.hold(ARGUMENTS, [wide("", 1025)], "x")
        self.hold(ARGUMENTS, [""], "x" * 65537)

    def test_arguments_before_what_is_known(self):
        self.hold(ARGUMENTS, ["x" * 1025])
        self.hold(ARGUMENTS, ["x"], padded(RAIN, 65537))

    def test_the_net_before_what_is_known(self):
        self.hold(NET, ["x", "rain=yes rain=yes", "|", "\0", "snow=yes"], RAIN + "x")

    def test_what_is_known_wrongly_before_what_cant_be(self):
        self.hold(ASKED, [
            "rain=no sprinkler=off grass=wet grass=wet",
            "rain=no sprinkler=off grass=wet |",
            "rain=no sprinkler=off grass=wet snow=yes",
            "snow=yes rain=no sprinkler=off grass=wet",
        ])

    def test_what_cant_be_before_what_is_too_long(self):
        for most in (0, 1, 2):
            self.hold(CANT, ["rain=no sprinkler=off grass=wet"], most=most)

    def test_too_long_behind_all(self):
        self.hold(ARGUMENTS, [wide("", 1025)], most=0)
        self.hold(NET, [""], "x", most=0)
        self.hold(ASKED, ["rain=maybe"], most=0)
        self.hold(LONG, ["", "grass=wet"], most=0)


class Kept(Keeping, unittest.TestCase):
    calls = [(bn_best, list(values)) for values in (
        (MOST, RAIN, ""),
        (MOST, RAIN, "grass=wet"),
        (31, RAIN, ""),
        (30, RAIN, ""),
        (MOST, SPREAD, "a=x"),
        (MOST, NEVER, "a=no"),
        (MOST, RAIN, "rain=maybe"),
        (MOST, RAIN, "x " * 512),
        (MOST, RAIN, wide("rain=yes", 1025)),
        (MOST, RAIN + "x", "rain=yes"),
        (MOST, padded(RAIN, 65536), "grass=wet"),
        (MOST, padded(RAIN, 65537), "grass=wet"),
        (MOST, chain([4] * 6), "t1=v1"),
    )]


if __name__ == "__main__":
    unittest.main()
