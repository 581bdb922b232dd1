"""What holds over all seventeen calls: their names and arguments, what is answered first, that a refusal is its
number alone, that what is handed in isn't changed, that nothing is printed and nothing kept from one time to the
next, and that what is as long as its input is gone through by loops."""

import contextlib
import inspect
import io
import sys
import unittest

from gridwave import both
from words import FLOATING, GREATEST, INF, KINDS, NONE, ONE, SIGN, Numbers, other_nones

GREAT = 2 ** 64 - 1

ARGUMENTS = {
    "filter_of": ["kind", "edge", "x", "c"],
    "back": ["kind", "c", "state", "x"],
    "rate": ["kind", "up", "down", "c", "x"],
    "alike": ["kind", "lags", "x", "y"],
    "median": ["kind", "edge", "r", "x"],
    "peaks": ["kind", "x"],
    "window": ["kind", "sort", "n"],
    "sums": ["w", "h", "x"],
    "box": ["w", "h", "r", "x"],
    "square": ["w", "h", "m", "shift", "add", "k", "x"],
    "shape": ["w", "h", "op", "rx", "ry", "x"],
    "middle": ["w", "h", "x"],
    "edges": ["w", "h", "x"],
    "scale": ["w", "h", "v", "u", "x"],
    "match": ["w", "h", "v", "u", "x", "y"],
    "regions": ["w", "h", "t", "x"],
    "turn": ["w", "h", "how", "x"],
}


class Untouched(list):
    """A list that can't be changed, not for a while either."""

    def refuse(self, *args, **kwargs):
        raise AssertionError("a list that was handed in is changed")

    __setitem__ = __delitem__ = __iadd__ = __imul__ = refuse
    append = clear = extend = insert = pop = remove = reverse = sort = refuse


def untouched(handed):
    return tuple(Untouched(one) if isinstance(one, list) else one for one in handed)


def copied(handed):
    return tuple(list(one) if isinstance(one, list) else one for one in handed)


def odd_samples(kind):
    """Cells of all sorts, so that one of each flag and each form of none comes up."""
    return [ONE[kind], ONE[kind] + 1, 3, SIGN[kind], GREATEST[kind], INF[kind], INF[kind] + SIGN[kind],
            NONE[kind]] + other_nones(kind)


def calls_with_samples():
    out = []
    for kind in FLOATING:
        one = ONE[kind]
        x = odd_samples(kind)
        c = [one + 1, GREATEST[kind], other_nones(kind)[0], SIGN[kind] + one, 5]
        for edge in range(4):
            out.append(("filter_of", (kind, edge, x, c)))
            out.append(("median", (kind, edge, 2, x)))
        out.append(("filter_of", (kind, 0, [one, one + 1], [one + 1])))
        out.append(("back", (kind, c + [one] * 5, [one, 7, other_nones(kind)[1], 0], x)))
        out.append(("back", (kind, [one + 1] * 5, [0, 0], [one, one, one])))
        out.append(("rate", (kind, 3, 2, c, x)))
        out.append(("rate", (kind, 2, 3, [one, one + 1], [one, 0, one + 3])))
        out.append(("alike", (kind, len(x), x, x[::-1])))
        out.append(("alike", (kind, 2, [one, one + 1, one], [one + 2, one, one])))
        out += [("window", (kind, sort, 7)) for sort in range(3)]
    for kind in KINDS:
        out.append(("median", (kind, 3, 1, [5, 200, 7, 255, 0, 128])))
        out.append(("peaks", (kind, [5, 20, 20, 7, 100, 0, 127, 3])))
    return out


def calls_with_pictures():
    numbers = Numbers(70)
    out = []
    for w, h in ((5, 4), (3, 6), (1, 1), (0, 3)):
        x = numbers.picture(w, h)
        out += [("sums", (w, h, x)), ("box", (w, h, 1, x)), ("box", (w, h, 0, x))]
        out.append(("square", (w, h, 3, 2, -3, [1, -2, 1, 0, 4, 0, 2, 1, -3], x)))
        out += [("shape", (w, h, op, 1, 2, x)) for op in range(2)]
        out += [("middle", (w, h, x)), ("edges", (w, h, x)), ("regions", (w, h, 3, x)), ("regions", (w, h, 0, x))]
        out.append(("scale", (w, h, 0, 2, x) if w * h == 0 else (w, h, 4, 3, x)))
        out += [("match", (w, h, 1, 1, x, [9])), ("match", (w, h, w, h, x, x))]
        out += [("turn", (w, h, how, x)) for how in range(8)]
    return out


def refused_calls():
    """Of each call one that is refused late, when all but the last list has been looked at."""
    bad = [1, 2, GREAT, 3]
    return [("filter_of", (9, 0, [1, 2], bad)), ("back", (9, [1, 2, 3, 4, 5], [6, 7], bad)),
            ("rate", (9, 2, 1, [1], bad)), ("alike", (9, 1, [1, 2, 3, 4], bad)), ("median", (1, 0, 1, bad)),
            ("peaks", (1, bad)), ("window", (9, 0, 4097)), ("sums", (2, 2, bad)), ("box", (2, 2, 1, bad)),
            ("square", (2, 2, 1, 0, 0, [1], bad)), ("shape", (2, 2, 0, 1, 1, bad)), ("middle", (2, 2, bad)),
            ("edges", (2, 2, bad)), ("scale", (2, 2, 1, 1, bad)), ("match", (2, 2, 2, 2, [1, 2, 3, 4], bad)),
            ("regions", (2, 2, 1, bad)), ("turn", (2, 2, 1, bad))]


def ask(name, handed):
    return getattr(both, name)(*handed)


class Interface(unittest.TestCase):
    def test_names_and_arguments(self):
        for name in ARGUMENTS:
            with self.subTest(name=name):
                self.assertEqual(list(inspect.signature(getattr(both, name)).parameters), ARGUMENTS[name])

    def test_nothing_is_printed(self):
        printed = io.StringIO()
        with contextlib.redirect_stdout(printed), contextlib.redirect_stderr(printed):
            for name, handed in calls_with_samples() + calls_with_pictures() + refused_calls():
                ask(name, handed)
        self.assertEqual(printed.getvalue(), "")

    def test_all_seventeen_are_here(self):
        names = [name for name, _ in calls_with_samples() + calls_with_pictures()]
        self.assertEqual(sorted(set(names)), sorted(ARGUMENTS))
        self.assertEqual([name for name, _ in refused_calls()], list(ARGUMENTS))
        self.assertEqual(len(ARGUMENTS), 17)


class HandedIn(unittest.TestCase):
    def test_not_changed(self):
        for name, handed in calls_with_samples() + calls_with_pictures() + refused_calls():
            with self.subTest(name=name, handed=handed):
                before = copied(handed)
                ask(name, handed)
                self.assertEqual(handed, before)

    def test_not_changed_for_a_while_either(self):
        for name, handed in calls_with_samples() + calls_with_pictures() + refused_calls():
            with self.subTest(name=name, handed=handed):
                ask(name, untouched(handed))

    def test_not_given_back(self):
        for name, handed in calls_with_samples() + calls_with_pictures():
            with self.subTest(name=name, handed=handed):
                before = copied(handed)
                answer = ask(name, handed)
                answer[:] = [99] * 5
                self.assertEqual(handed, before)


class NothingIsKept(unittest.TestCase):
    def setUp(self):
        self.calls = calls_with_samples() + calls_with_pictures() + refused_calls()
        self.first = [ask(name, handed) for name, handed in self.calls]

    def check(self, place):
        name, handed = self.calls[place]
        with self.subTest(name=name, handed=handed):
            self.assertEqual(ask(name, handed), self.first[place])

    def test_asked_again(self):
        for place in range(len(self.calls)):
            self.check(place)
            self.check(place)

    def test_in_another_order(self):
        numbers = Numbers(71)
        for place in reversed(range(len(self.calls))):
            self.check(place)
        for _ in range(3 * len(self.calls)):
            self.check(numbers.below(len(self.calls)))

    def test_after_each_other_call(self):
        # of each call the last that isn't refused and one that is
        last = {}
        for place, (name, _) in enumerate(self.calls[:-17]):
            last[name] = place
        places = list(last.values()) + list(range(len(self.calls) - 17, len(self.calls)))
        for before in places:
            for place in places:
                ask(*self.calls[before])
                self.check(place)

    def test_what_was_answered_may_be_changed(self):
        for place, (name, handed) in enumerate(self.calls):
            answer = ask(name, handed)
            answer.append(99)
            answer[0] = 99
            self.check(place)


class Answers(unittest.TestCase):
    def test_lists_of_whole_numbers(self):
        for name, handed in calls_with_samples() + calls_with_pictures() + refused_calls():
            with self.subTest(name=name, handed=handed):
                answer = ask(name, handed)
                self.assertIs(type(answer), list)
                self.assertTrue(all(type(number) is int for number in answer))

    def test_a_refusal_is_its_number_alone(self):
        for name, handed in refused_calls():
            with self.subTest(name=name):
                self.assertEqual(ask(name, handed), [-1])
        self.assertEqual(both.match(2, 2, 3, 1, [1, 2, 3, 4], [1, 2, 3]), [-4])

    def test_what_is_answered_first(self):
        # how many of rate, peaks and regions; of all with a picture but regions 0; of the others flags
        for name, handed in calls_with_samples() + calls_with_pictures():
            answer = ask(name, handed)
            with self.subTest(name=name, handed=handed):
                if name in ("rate", "peaks"):
                    self.assertEqual(answer[0], len(answer) - 1)
                elif name == "regions":
                    self.assertEqual(answer[0], max([0] + answer[1:]))
                elif name in ("filter_of", "back", "alike", "window"):
                    self.assertEqual(answer[0] & ~29, 0)
                elif answer != [-4]:
                    self.assertEqual(answer[0], 0)


class Loops(unittest.TestCase):
    """The longest inputs, where few calls within one another are allowed."""

    def limited(self, function, *handed):
        before = sys.getrecursionlimit()
        sys.setrecursionlimit(len(inspect.stack(0)) + 40)
        try:
            return function(*handed)
        finally:
            sys.setrecursionlimit(before)

    def test_the_limit_is_felt(self):
        def nested(depth):
            return 0 if depth == 0 else nested(depth - 1)

        self.assertEqual(self.limited(nested, 10), 0)
        with self.assertRaises(RecursionError):
            self.limited(nested, 60)

    def test_samples(self):
        one = ONE[9]
        x = [one] * 4096
        self.assertEqual(self.limited(both.filter_of, 9, 3, x, [one, one]), [0] + [one + 1024] * 4096)
        self.assertEqual(self.limited(both.filter_of, 9, 0, [one], [one] * 256), [0, one])
        self.assertEqual(self.limited(both.back, 9, [one, 0, 0, 0, 0], [0, 0], x), [0, 0, 0] + x)
        self.assertEqual(self.limited(both.back, 9, [one, 0, 0, 0, 0] * 16, [0] * 32, x[:50]), [0] * 33 + x[:50])
        self.assertEqual(self.limited(both.rate, 9, 1, 1, [one], x), [4096] + x)
        self.assertEqual(self.limited(both.rate, 9, 4096, 1, [one] * 256, [one]), [4096] + [one] * 256 + [0] * 3840)
        # 4096 ones by halves are 2^12, 4095 of them fit no 11 bits: 2^12 less 1 goes up
        self.assertEqual(self.limited(both.alike, 9, 2, x, x), [16, one + 12 * 1024, one + 12 * 1024])
        self.assertEqual(self.limited(both.median, 5, 3, 64, [7] * 4096), [0] + [7] * 4096)
        self.assertEqual(self.limited(both.peaks, 5, [1] + [7] * 4094 + [1]), [1, 1])
        self.assertEqual(len(self.limited(both.window, 12, 2, 4096)), 4097)

    def test_pictures(self):
        x = [7] * 4096
        same = [0] + x
        self.assertEqual(self.limited(both.sums, 64, 64, x)[4096], 28672)
        self.assertEqual(self.limited(both.box, 64, 64, 64, x), same)
        self.assertEqual(self.limited(both.square, 64, 64, 15, 0, 0, [0] * 224 + [1], x), same)
        self.assertEqual(self.limited(both.shape, 64, 64, 0, 64, 64, x), same)
        self.assertEqual(self.limited(both.middle, 64, 64, x), same)
        self.assertEqual(self.limited(both.edges, 64, 64, x), [0] * 4097)
        self.assertEqual(self.limited(both.scale, 64, 64, 64, 64, x), same)
        self.assertEqual(self.limited(both.match, 64, 64, 40, 40, x, [7] * 1600), [0, 0, 0, 0])
        self.assertEqual(self.limited(both.regions, 64, 64, 7, x), [1] * 4097)
        self.assertEqual(self.limited(both.turn, 64, 64, 7, x), same)

    def test_a_winding_region(self):
        rows = [[9] * 64 if b % 2 == 0 else ([0] * 63 + [9])[::1 if b % 4 == 1 else -1] for b in range(64)]
        x = [byte for row in rows for byte in row]
        self.assertEqual(self.limited(both.regions, 64, 64, 9, x), [1] + [1 if byte else 0 for byte in x])


if __name__ == "__main__":
    unittest.main()
