"""bn_check: which nets are as the document says, and which are refused."""

import unittest

from chancenet.nets import bn_check
from helping import RAIN, Keeping, chain, child, codes, padded

GOOD = [0]
ARGUMENTS = [-2]
NET = [-3]


def check(text):
    return bn_check(codes(text))


class Cases(unittest.TestCase):
    def hold(self, answer, texts):
        for text in texts:
            with self.subTest(text=text[:200]):
                self.assertEqual(check(text), answer)


class GoodNets(Cases):
    def test_an_ordinary_net(self):
        self.hold(GOOD, [RAIN])

    def test_answer_is_a_list_of_one_whole_number(self):
        answer = check(RAIN)
        self.assertIs(type(answer), list)
        self.assertEqual([type(number) for number in answer], [int])

    def test_one_thing_and_twenty(self):
        self.hold(GOOD, [chain([2]), chain([2] * 20)])

    def test_two_to_four_values(self):
        self.hold(GOOD, [chain([2]), chain([3]), chain([4]), chain([2, 3, 4])])

    def test_one_to_four_names_behind_from(self):
        self.hold(GOOD, [child([2], 2), child([2, 3], 6), child([2, 3, 4], 24), child([2, 3, 4, 2], 48)])

    def test_the_most_lines_a_thing_can_have(self):
        self.hold(GOOD, [child([4, 4, 4, 4], 256, 4)])

    def test_a_thing_named_in_several(self):
        text = chain([3])
        for name in ("a", "b", "c"):
            text += f"thing {name} : x y from t0\n1 2\n2 1\n0 3\n"
        self.hold(GOOD, [text])

    def test_names_behind_from_in_any_order(self):
        self.hold(GOOD, [chain([2, 3]) + "thing c : x y from t1 t0\n" + "1 1\n" * 6])

    def test_the_last_line_with_and_without_an_end(self):
        self.hold(GOOD, [RAIN, RAIN[:-1], RAIN + "\n\n", RAIN + "   ", RAIN + "#", RAIN + "# end\n"])

    def test_blanks(self):
        self.hold(GOOD, [
            "  thing   a  :  x    y  \n   1     2   \n",
            "thing a : x y \n1 2 ",
            RAIN.replace(" ", "     "),
            RAIN.replace("\n", "  \n   "),
        ])

    def test_lines_that_say_nothing(self):
        for idle in ("\n", "   \n", "#\n", "# thing a : b c\n", "#thing\n", "##\n\n  \n#x\n", "# 1 2 ~!@\n"):
            self.hold(GOOD, [idle + RAIN, RAIN + idle, RAIN.replace("\n", "\n" + idle)])

    def test_names(self):
        self.hold(GOOD, [
            "thing a : b c\n1 1",
            "thing abcdefghijklmnop : ABCDEFGHIJKLMNOP 0123456789012345\n1 1",
            "thing AZaz09_ : _ 0\n1 1",
            "thing _ : A Z a z\n1 1 1 1",
            "thing q : g M 5 9\n1 1 1 1",
            "thing 1 : 2 3\n1 1",
        ])

    def test_names_differ_by_case(self):
        self.hold(GOOD, ["thing a : b B\n1 1\nthing A : b B from a\n1 1\n1 1"])

    def test_a_value_may_be_called_as_a_thing_or_as_anothers_value(self):
        self.hold(GOOD, ["thing a : a b\n1 1\nthing b : a b from a\n1 1\n1 1"])

    def test_words_of_the_form_as_names(self):
        self.hold(GOOD, [
            "thing thing : thing x\n1 1",
            "thing from : x y\n1 1",
            "thing from : x y\n1 1\nthing b : x y from from\n1 1\n1 1",
            "thing a : x y FROM From\n1 1 1 1",
        ])

    def test_weights(self):
        self.hold(GOOD, [
            "thing a : x y\n0 1000",
            "thing a : x y\n1000 0",
            "thing a : x y z w\n1000 1000 1000 1000",
            "thing a : x y\n0001 0000",
            "thing a : x y\n0999 00",
            "thing a : x y\n9 10",
        ])

    def test_sums_differ_between_things(self):
        self.hold(GOOD, ["thing a : x y\n1 1\nthing b : x y from a\n1000 0\n400 600\nthing c : x y\n0 7"])

    def test_a_product_of_just_the_most(self):
        self.hold(GOOD, [
            chain([2] * 20),
            chain([4] * 10),
            chain([4] * 9 + [2, 2]),
            chain([3] * 12),
            child([4, 4, 4, 4], 256, 4) + chain([4] * 9)[len(chain([4] * 4)):],
        ])


class RefusedNets(Cases):
    def test_other_bytes(self):
        allowed = [10] + list(range(32, 127))
        for code in range(256):
            answer = GOOD if code in allowed else NET
            with self.subTest(code=code):
                self.assertEqual(bn_check(codes(RAIN) + codes("# ") + [code]), answer)
                if code not in allowed:
                    self.assertEqual(bn_check([code] + codes(RAIN)), NET)
                    self.assertEqual(bn_check(codes(RAIN) + [code]), NET)
                    self.assertEqual(bn_check(codes("thing a") + [code] + codes(" : x y\n1 1\n")), NET)
                    self.assertEqual(bn_check(codes("thing a : x") + [code] + codes("y\n1 1\n")), NET)

    def test_no_thing(self):
        self.hold(NET, ["", "\n", "   ", "\n \n", "#", "# thing a : x y\n# 1 1\n"])

    def test_too_many_things(self):
        self.hold(NET, [chain([2] * 21), chain([2] * 2000)])

    def test_names_of_other_signs(self):
        for sign in [chr(code) for code in range(33, 127)]:
            good = sign.isalnum() or sign == "_"
            self.hold(GOOD if good else NET, [
                f"thing {sign} : x1 y1\n1 1",
                f"thing a{sign}b : x y\n1 1",
                f"thing a : x1 {sign}\n1 1",
                f"thing a : x y{sign}y\n1 1",
            ])

    def test_names_too_long(self):
        long = "abcdefghijklmnopq"
        self.hold(NET, [
            f"thing {long} : x y\n1 1",
            f"thing a : x {long}\n1 1",
            f"thing a : {long} x\n1 1",
            f"thing {long} : x y\n1 1\nthing b : x y from {long}\n1 1\n1 1",
        ])

    def test_a_things_name_twice(self):
        self.hold(NET, [
            "thing a : x y\n1 1\nthing a : z w\n1 1",
            "thing a : x y\n1 1\nthing b : x y\n1 1\nthing a : x y from b\n1 1\n1 1",
        ])

    def test_how_many_values(self):
        self.hold(NET, [
            "thing a :\n1",
            "thing a : x\n1",
            "thing a : v w x y z\n1 1 1 1 1",
            chain([2]) + "thing a : from t0\n1\n1",
            chain([2]) + "thing a : x from t0\n1\n1",
            chain([2]) + "thing a : v w x y z from t0\n1 1 1 1 1\n1 1 1 1 1",
        ])

    def test_a_value_twice(self):
        self.hold(NET, ["thing a : x x\n1 1", "thing a : x y x\n1 1 1", "thing a : w x y y\n1 1 1 1"])

    def test_the_head_of_a_thing(self):
        self.hold(NET, [
            "thing a x y\n1 1",
            "thing a: x y\n1 1",
            "thing a :x y\n1 1",
            "thing a:x y\n1 1",
            "thing a :: x y\n1 1",
            "thing a ; x y\n1 1",
            "thing : x y\n1 1",
            "thing a b : x y\n1 1",
            "thing a : : x y\n1 1 1",
            "Thing a : x y\n1 1",
            "things a : x y\n1 1",
            "a : x y\n1 1",
            "thing\n1 1",
            "thing a\n1 1",
            "1 1\n" + RAIN,
            " # a remark is one by its line's first byte\n" + RAIN,
            "thing a : x y # remark\n1 1",
            "thing a : x y\n1 1 # remark",
        ])

    def test_from_without_names(self):
        self.hold(NET, ["thing a : x y from\n1 1", chain([2]) + "thing a : x y from\n1 1\n1 1"])

    def test_from_with_five_names(self):
        self.hold(NET, [child([2] * 5, 32), child([2] * 5, 16), child([2] * 5, 1)])

    def test_from_with_a_name_twice(self):
        self.hold(NET, [chain([2, 2]) + f"thing a : x y from {names}\n" + "1 1\n" * rows
                        for names in ("t0 t0", "t0 t1 t0") for rows in (2, 4, 8)])

    def test_from_with_a_name_not_told_before(self):
        self.hold(NET, [
            "thing a : x y from b\n1 1\n1 1",
            "thing a : x y from b\n1 1\n1 1\nthing b : x y\n1 1",
            chain([2]) + "thing a : x y from t0 b\n" + "1 1\n" * 4 + "thing b : x y\n1 1",
            chain([2]) + "thing a : x y from v0\n1 1\n1 1",
            chain([2]) + "thing a : x y from T0\n1 1\n1 1",
            chain([2]) + "thing a : x y from t\n1 1\n1 1",
        ])

    def test_from_with_the_things_own_name(self):
        self.hold(NET, [
            "thing a : x y from a\n1 1\n1 1",
            "thing a : x y from a\n1 1",
            chain([2]) + "thing a : x y from t0 a\n" + "1 1\n" * 4,
        ])

    def test_from_as_a_value(self):
        self.hold(NET, [
            "thing a : x from\n1 1",
            "thing a : from x\n1 1",
            "thing a : from x y\n1 1 1",
            "thing a : x y from from\n1 1",
            chain([2]) + "thing a : x from y from t0\n1 1 1\n1 1 1",
            chain([2]) + "thing a : x y from t0 from\n1 1\n1 1",
        ])

    def test_how_many_lines_of_weights(self):
        self.hold(NET, ["thing a : x y\n", "thing a : x y\n1 1\n1 1", "thing a : x y\nthing b : x y\n1 1"])
        for counts, right in (([2], 2), ([3], 3), ([2, 3], 6), ([4, 4, 4, 4], 256)):
            for rows in (0, 1, right - 1, right + 1, right * 2):
                self.hold(NET, [child(counts, rows), child(counts, rows) + "thing z : x y\n1 1\n"])

    def test_how_many_weights_in_a_line(self):
        self.hold(NET, [
            "thing a : x y\n2",
            "thing a : x y\n1 1 0",
            "thing a : x y z w\n1 1 1",
            "thing a : x y z w\n1 1 1 1 0",
            "thing a : x y\n1 1\nthing b : x y from a\n2 2\n4",
            "thing a : x y\n1 1\nthing b : x y from a\n2 2\n2 2 0",
            "thing a : x y\n1\n1",
        ])

    def test_weights_out_of_range(self):
        self.hold(NET, [
            "thing a : x y\n1001 0",
            "thing a : x y\n0 1001",
            "thing a : x y\n9999 1",
            "thing a : x y\n10000 1",
            "thing a : x y\n00001 1",
            "thing a : x y\n1 00000",
            "thing a : x y\n1 01000",
            "thing a : x y\n1 " + "9" * 60000,
        ])

    def test_weights_that_are_no_numbers(self):
        words = ["x", "-1", "-0", "+1", "1.0", "1/2", "1e2", "0x1", "1_0", "A", "1,", ":", "/", "a1", "1a", "#"]
        self.hold(NET, [f"thing a : x y\n{word} 5" for word in words])
        self.hold(NET, [f"thing a : x y\n5 {word}" for word in words])

    def test_a_sum_of_nothing(self):
        self.hold(NET, [
            "thing a : x y\n0 0",
            "thing a : x y z w\n0 00 000 0000",
            "thing a : x y\n1 1\nthing b : x y from a\n0 0\n0 0",
            "thing a : x y\n1 1\nthing b : x y from a\n0 0\n1 1",
            "thing a : x y\n1 1\nthing b : x y from a\n1 1\n0 0",
        ])

    def test_sums_that_differ(self):
        self.hold(NET, [
            "thing a : x y\n1 1\nthing b : x y from a\n1 1\n1 2",
            "thing a : x y\n1 1\nthing b : x y from a\n3 1\n1 2",
            "thing a : x y z\n1 1 1\nthing b : x y from a\n1 1\n1 2\n1 1",
            "thing a : x y z\n1 1 1\nthing b : x y from a\n1 1\n2 0\n0 3",
        ])

    def test_a_product_above_the_most(self):
        self.hold(NET, [
            chain([2] * 19 + [3]),
            chain([4] * 10 + [2]),
            chain([4] * 11),
            chain([3] * 12 + [2]),
            chain([4] * 20),
        ])

    def test_a_fault_behind_a_good_thing(self):
        self.hold(NET, [RAIN + "x", RAIN + "thing", RAIN + "1 1\n", RAIN + "thing z : x y\n0 0\n"])


class Sizes(Cases):
    def test_the_most_bytes_are_looked_at(self):
        self.hold(GOOD, [padded(RAIN, 65536), RAIN + " " * (65536 - len(RAIN)), "\n" * (65536 - len(RAIN)) + RAIN])
        self.hold(NET, ["#" * 65536, " " * 65536, "\n" * 65536, "x" * 65536, "x " * 32768, "x\n" * 32768])

    def test_one_byte_more(self):
        for size in (65537, 65538, 65600):
            self.hold(ARGUMENTS, [
                padded(RAIN, size),
                "\n" * (size - len(RAIN)) + RAIN,
                "#" * size,
                "x" * size,
                "\0" * size,
                "\n" * size,
            ])


class Kept(Keeping, unittest.TestCase):
    calls = [(bn_check, [text]) for text in (
        RAIN,
        RAIN[:-1],
        "",
        "thing a : x y\n0 0",
        "\0",
        padded(RAIN, 65536),
        padded(RAIN, 65537),
        chain([2] * 21),
        RAIN + "\n" * 60000,
        RAIN + "x " * 30000,
        RAIN + "#\n" * 30000,
    )]


if __name__ == "__main__":
    unittest.main()
