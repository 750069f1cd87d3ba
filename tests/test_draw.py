"""bn_draw: a value for each thing, by a number of its own."""

import random
import time
import unittest

from chancenet.nets import bn_apart, bn_ask, bn_best, bn_check, bn_draw
from helping import MOST, RAIN, Keeping, Model, chain, codes, padded, told

ARGUMENTS = [-2]
NET = [-3]

WHOLE = 2 ** 32
LAST = WHOLE - 1


def draw(numbers, net):
    return bn_draw(list(numbers), codes(net))


def first_at(weights, place):
    """The least number at which the value at this place may be drawn: those before it are no longer above."""
    return -(-sum(weights[:place]) * WHOLE // sum(weights))


def one_thing(weights):
    return "thing a : " + " ".join("xyzw"[:len(weights)]) + "\n" + " ".join(str(weight) for weight in weights) + "\n"


class Cases(unittest.TestCase):
    def hold(self, answer, numbers, net):
        with self.subTest(numbers=list(numbers), net=net[:200]):
            self.assertEqual(draw(numbers, net), answer)


class Places(Cases):
    def test_two_values(self):
        for numbers, place in (([0], 0), ([WHOLE // 2 - 1], 0), ([WHOLE // 2], 1), ([LAST], 1)):
            self.hold([0, place], numbers, one_thing([1, 1]))

    def test_four_values(self):
        net = one_thing([1, 1, 1, 1])
        for place in range(4):
            self.hold([0, place], [place * WHOLE // 4], net)
            self.hold([0, place], [(place + 1) * WHOLE // 4 - 1], net)

    def test_the_bound_and_the_number_below_it(self):
        for weights in ([1, 1], [1, 3], [3, 1], [1, 2], [2, 1], [1, 999], [999, 1], [1000, 1000], [1, 1, 1], [1, 2, 4],
                        [5, 1, 1], [333, 333, 334], [1, 1, 1, 1], [7, 11, 13, 17], [1000, 1, 1, 1000], [997, 991, 983, 977]):
            for place in range(1, len(weights)):
                bound = first_at(weights, place)
                self.hold([0, place - 1], [bound - 1], one_thing(weights))
                self.hold([0, place], [bound], one_thing(weights))

    def test_bounds_that_are_no_whole_numbers(self):
        # A third of 2 to the 32nd is 1431655765 and a third.
        self.hold([0, 0], [1431655765], one_thing([1, 2]))
        self.hold([0, 1], [1431655766], one_thing([1, 2]))
        self.hold([0, 0], [2863311530], one_thing([2, 1]))
        self.hold([0, 1], [2863311531], one_thing([2, 1]))

    def test_bounds_that_are_whole_numbers(self):
        self.hold([0, 0], [1073741823], one_thing([1, 3]))
        self.hold([0, 1], [1073741824], one_thing([1, 3]))
        self.hold([0, 0], [3221225471], one_thing([750, 250]))
        self.hold([0, 1], [3221225472], one_thing([750, 250]))

    def test_the_least_and_the_most(self):
        for weights in ([1, 1], [1, 999], [1000, 1], [1, 2, 3], [1000, 1000, 1000, 1000]):
            self.hold([0, 0], [0], one_thing(weights))
            self.hold([0, len(weights) - 1], [LAST], one_thing(weights))

    def test_a_weight_of_0_is_never_drawn(self):
        numbers = [0, 1, WHOLE // 4, WHOLE // 2 - 1, WHOLE // 2, WHOLE // 2 + 1, LAST - 1, LAST]
        for weights in ([0, 1], [1, 0], [0, 1, 1], [1, 0, 1], [1, 1, 0], [0, 0, 1, 1], [1, 0, 0, 1], [1, 1, 0, 0],
                        [0, 1, 0, 1], [1, 0, 1, 0], [0, 1, 0, 0], [0, 0, 0, 1000]):
            for number in numbers:
                answer = draw([number], one_thing(weights))
                self.assertEqual((len(answer), answer[0]), (2, 0))
                self.assertGreater(weights[answer[1]], 0, (weights, number))

    def test_a_weight_of_0_at_the_bounds(self):
        self.hold([0, 1], [0], one_thing([0, 1]))
        self.hold([0, 2], [0], one_thing([0, 0, 1]))
        self.hold([0, 0], [LAST], one_thing([1, 0]))
        self.hold([0, 1], [LAST], one_thing([1, 1, 0, 0]))
        self.hold([0, 0], [WHOLE // 2 - 1], one_thing([1, 0, 1]))
        self.hold([0, 2], [WHOLE // 2], one_thing([1, 0, 1]))

    def test_things_without_any_above(self):
        self.hold([0, 0, 2, 1, 3], [0, LAST, WHOLE // 2, LAST], chain([2, 3, 3, 4]))

    def test_one_above(self):
        net = "thing a : x y z\n1 1 1\nthing b : u v w from a\n1 0 0\n0 1 0\n0 0 1\n"
        for place in range(3):
            for number in (0, WHOLE // 2, LAST):
                self.hold([0, place, place], [first_at([1, 1, 1], place), number], net)

    def test_the_line_is_that_for_the_values_drawn(self):
        for rain, rain_number in ((0, 0), (1, LAST)):
            for sprinkler in (0, 1):
                on = [1, 99] if rain == 0 else [40, 60]
                wet = [[[99, 1], [80, 20]], [[90, 10], [0, 100]]][rain][sprinkler]
                numbers = [rain_number, first_at(on, sprinkler)]
                self.hold([0, rain, sprinkler, 1], numbers + [first_at(wet, 1)], RAIN)
                if wet[0] > 0:
                    self.hold([0, rain, sprinkler, 0], numbers + [first_at(wet, 1) - 1], RAIN)

    def test_four_above_the_last_changes_first(self):
        heads = "thing p : 0 1\n1 1\nthing q : 0 1 2\n1 1 1\nthing r : 0 1\n1 1\nthing s : 0 1 2 3\n1 1 1 1\n"
        line = 0
        rows = "".join(f"{k + 1} {99 - k}\n" for k in range(48))
        net = heads + "thing c : x y from q p s r\n" + rows
        for q in range(3):
            for p in range(2):
                for s in range(4):
                    for r in range(2):
                        line += 1
                        numbers = [p * WHOLE // 2, first_at([1, 1, 1], q), r * WHOLE // 2, s * WHOLE // 4]
                        bound = first_at([line, 100 - line], 1)
                        self.hold([0, p, q, r, s, 0], numbers + [bound - 1], net)
                        self.hold([0, p, q, r, s, 1], numbers + [bound], net)

    def test_twenty_things(self):
        net = "thing t0 : x y\n1 1\n"
        for k in range(1, 20):
            net += f"thing t{k} : x y from t{k - 1}\n0 1\n1 0\n"
        numbers = [k * 200000000 for k in range(20)]
        self.hold([0] + [k % 2 for k in range(20)], numbers, net)
        numbers[0] = LAST
        self.hold([0] + [1 - k % 2 for k in range(20)], numbers, net)
        self.hold([0] + [0] * 20, [0] * 20, chain([2] * 20))
        self.hold([0] + [1] * 20, [LAST] * 20, chain([2] * 20))
        self.hold([0] + [0, 1] * 10, [0, LAST] * 10, chain([2] * 20))

    def test_ten_things_of_four_values(self):
        numbers = [k % 4 * WHOLE // 4 for k in range(10)]
        self.hold([0] + [k % 4 for k in range(10)], numbers, chain([4] * 10))


class AgainstTheDocument(Cases):
    """States of nets made by a source that gives the same each time, drawn in the words of the document."""

    def test_many_nets(self):
        chance = random.Random(50)
        for _ in range(150):
            model = Model(chance, [chance.randint(2, 4) for _ in range(chance.randint(1, 8))], most_weight=1000)
            net = model.text()
            for _ in range(4):
                numbers = [chance.choice([0, LAST, chance.randrange(WHOLE)]) for _ in model.counts]
                self.hold(self.answer(model, numbers), numbers, net)

    @staticmethod
    def answer(model, numbers):
        state = []
        for place, number in enumerate(numbers):
            row = model.line(place, state)
            fitting = [value for value in range(len(row)) if sum(row[:value + 1]) * WHOLE > number * sum(row)]
            state.append(fitting[0])
        return [0] + state


class HowManyNumbers(Cases):
    def test_fewer_and_more(self):
        for net, right in ((RAIN, 3), (chain([2]), 1), (chain([2] * 20), 20), (chain([4] * 10), 10)):
            for several in range(31):
                answer = draw([0] * several, net)
                if several == right:
                    self.assertEqual(answer, [0] * (right + 1))
                else:
                    self.assertEqual(answer, ARGUMENTS, (net[:50], several))

    def test_none_and_30(self):
        self.hold(ARGUMENTS, [], RAIN)
        self.hold(ARGUMENTS, [LAST] * 30, RAIN)
        self.hold(ARGUMENTS, [], chain([2]))
        self.hold(ARGUMENTS, [LAST] * 30, chain([2] * 20))


class Refusals(Cases):
    nets = ["", "#", "x", "thing a : x y\n0 0\n", "thing a : x y\n", RAIN + "1 1\n", RAIN + "\0", "thing a : x\n1",
            chain([2] * 21)]

    def test_what_is_no_net(self):
        for net in self.nets:
            self.hold(NET, [0, 0, 0], net)
            self.hold(NET, [0], net)

    def test_the_net_before_how_many_numbers(self):
        for net in self.nets:
            for several in (0, 1, 2, 3, 4, 20, 21, 30):
                self.hold(NET, [0] * several, net)

    def test_the_nets_size_before_all(self):
        for size in (65537, 65538, 65600):
            for several in (0, 1, 3, 30):
                self.hold(ARGUMENTS, [0] * several, padded(RAIN, size))
                self.hold(ARGUMENTS, [0] * several, "x" * size)
                self.hold(ARGUMENTS, [0] * several, "\0" * size)

    def test_the_most_bytes_are_looked_at(self):
        self.hold([0, 0, 0, 0], [0, 0, 0], padded(RAIN, 65536))
        self.hold(ARGUMENTS, [0, 0], padded(RAIN, 65536))
        self.hold(NET, [0, 0, 0], "x" * 65536)


class AtOnce(unittest.TestCase):
    def test_twenty_things_with_1048576_states(self):
        # Going through the states would take much longer than this, on any machine.
        net = codes(chain([2] * 16) + "thing z : x y from t0 t5 t9 t15\n" + "1 1\n" * 16 + "thing s : x y\n1 1\n"
                    "thing u : x y\n1 1\nthing w : x y from s u\n" + "0 3\n" * 4)
        start = time.perf_counter()
        self.assertEqual(bn_check(net), [0])
        self.assertEqual(bn_draw([0] * 20, net), [0] + [0] * 19 + [1])
        self.assertLess(time.perf_counter() - start, 1)


class BetweenOtherCalls(unittest.TestCase):
    def test_the_same_answers_with_other_calls_between(self):
        other = "thing rain : no yes\n3 1\nthing grass : dry wet from rain\n1 0\n0 1\n"
        calls = [
            (lambda: draw([0, 0, 0], RAIN), [0, 0, 0, 0]),
            (lambda: draw([LAST, LAST, 0], RAIN), [0, 1, 1, 1]),
            (lambda: draw([LAST, 0], other), [0, 1, 1]),
            (lambda: draw([LAST], other), ARGUMENTS),
            (lambda: draw([LAST], "x"), NET),
            (lambda: bn_check(codes(RAIN)), [0]),
            (lambda: bn_check(codes("x")), NET),
            (lambda: bn_ask(MOST, codes(RAIN), codes("rain=yes | grass=wet")), told("891/2491")),
            (lambda: bn_ask(MOST, codes(RAIN), codes("rain=yes | do grass=wet")), told("1/5")),
            (lambda: bn_ask(MOST, codes(other), codes("rain=yes | grass=wet")), told("1/1")),
            (lambda: bn_ask(0, codes(other), codes("rain=yes | grass=wet")), [-1]),
            (lambda: bn_ask(0, codes(other), codes("rain=yes | grass=wet rain=no")), [-5]),
            (lambda: bn_best(MOST, codes(RAIN), codes("grass=wet")), told("rain=no sprinkler=on grass=wet")),
            (lambda: bn_best(MOST, codes(other), codes("")), told("rain=no grass=dry")),
            (lambda: bn_best(MOST, codes(other), codes("snow=yes")), [-4]),
            (lambda: bn_apart(codes(RAIN), codes("rain grass")), [0]),
            (lambda: bn_apart(codes(RAIN), codes("rain snow")), [-4]),
            (lambda: bn_apart(codes(chain([2, 2])), codes("t0 t1")), [1]),
        ]
        for first, first_answer in calls:
            for second, second_answer in calls:
                self.assertEqual([first(), second(), first()], [first_answer, second_answer, first_answer])


class Kept(Keeping, unittest.TestCase):
    calls = [(bn_draw, list(values)) for values in (
        ([0, 0, 0], RAIN),
        ([LAST, 5, WHOLE // 2], RAIN),
        ([0, 0], RAIN),
        ([], RAIN),
        ([LAST] * 30, RAIN),
        ([LAST] * 20, chain([2] * 20)),
        ([0] * 10, chain([4] * 10)),
        ([0, 0, 0], RAIN + "x"),
        ([0], RAIN + "x"),
        ([0, 0, 0], padded(RAIN, 65536)),
        ([0, 0, 0], padded(RAIN, 65537)),
    )]


if __name__ == "__main__":
    unittest.main()
