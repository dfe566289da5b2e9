"""Designs without some letters: the points [10] and [12] and the leaving module."""

import itertools

from betweenfaces.designs import Design
from betweenfaces.errors import InvalidDesign, Needed, UnknownLetter
from betweenfaces.leaving import wanted, without
from betweenfaces.letters import Letter
from betweenfaces.plain import plain
from betweenfaces.quantities import Quantity
from betweenfaces.ratios import Ratio
from tests.examples import HALF, axis_w
from tests.makers import Maker
from tests.values import Case, kind_of, odd_values


def needing_design():
    """b has the part a, a swap leads c to b, another one leads d to c and e to a; f stands alone."""
    letters = {name: Letter(Quantity(number)) for number, name in enumerate("acdef")}
    letters["b"] = Letter(Quantity(7), parts=[("a", 1, 1)])
    swaps = [({"w": (HALF, 1)}, {"c": "b", "f": "f"}), ({}, {"d": "c", "e": "a"})]
    pairs = {"ab": Quantity(1), "fa": Quantity(2), "ff": Quantity(0), "df": Quantity(3)}
    return Design([axis_w()], letters, pairs=pairs, swaps=swaps)


class Without(Case):
    def test_pairs_and_entries_go(self):
        made = without(needing_design(), "d")
        self.assertEqual((made.names, made.pairs), (list("abcef"), {"ab": Quantity(1), "fa": Quantity(2)}))
        self.assertEqual(made.swaps, [({"w": (HALF, Ratio(1))}, {"c": "b", "f": "f"}), ({}, {"e": "a"})])
        made = needing_design().without("e", "d")
        self.assertEqual(made.swaps, [({"w": (HALF, Ratio(1))}, {"c": "b", "f": "f"})])
        made = without(needing_design(), "c", ["d"], "f")
        self.assertEqual((made.swaps, made.pairs), ([({}, {"e": "a"})], {"ab": Quantity(1)}))
        self.assertEqual(without(needing_design(), *"abcde").names, ["f"])

    def test_lists_and_names_told_twice(self):
        design = needing_design()
        want = without(design, "d", "e")
        for names in (("e", "d"), (["d", "e"],), (["d"], "e"), ("d", "d", ["e", "d"]), ([], ["d"], [], "e")):
            self.same(without(design, *names), want)
            self.same(design.without(*names), want)
        for names in ((), ([],), ([], [])):
            self.same(without(design, *names), plain(design))
            self.same(design.without(*names), plain(design))

    def test_random_designs(self):
        for seed in range(60):
            maker = Maker(seed)
            design = maker.design(names=("", "w", "wt")[seed % 3], letters="abcde")
            stay = wanted(design, *maker.chance.sample("abcde", 2))
            gone = [name for name in design if name not in stay]
            ahead = kind_of((design, gone))
            made = design.without(gone)
            self.assertEqual(kind_of((design, gone)), ahead)
            self.same(plain(made), made)
            self.same(without(plain(design), *gone), made)
            self.assertEqual(made.names, stay)
            for setting, text in [(maker.setting(design.axes), maker.text(stay)) for _ in range(4)]:
                self.assertEqual(made(setting, text), design(setting, text))

    def test_the_first_unknown_letter(self):
        for call in (lambda *names: without(needing_design(), *names), lambda *names: needing_design().without(*names),
                     lambda *names: wanted(needing_design(), *names)):
            for value in odd_values():
                if not isinstance(value, list) and value != "a":
                    self.refused(UnknownLetter(value), call, value)
                    self.refused(UnknownLetter(value), call, "a", ["b", value, "x"], "y")
            self.refused(UnknownLetter(["d"]), call, [["d"]])
            self.refused(UnknownLetter("x"), call, *"abcdefx")

    def test_the_least_letter_that_is_needed(self):
        for names, name in (("a", "a"), ("ba", "a"), ("b", "b"), ("cb", "c"), ("bce", "c"), ("abc", "a"), ("fa", "a"), ("c", "c"),
                            ("abcd", "a"), ("abcf", "a")):
            self.refused(Needed(name), without, needing_design(), *names)
            self.refused(Needed(name), needing_design().without, list(names))
        self.assertEqual(without(needing_design(), *"abcde").names, ["f"])
        self.assertEqual(without(needing_design(), *"bcd").names, ["a", "e", "f"])

    def test_a_letter_must_stay(self):
        self.refused(InvalidDesign("letters"), without, needing_design(), *"abcdef")
        self.refused(InvalidDesign("letters"), Design([], {"a": Letter(Quantity(0))}, swaps=[({}, {"a": "a"})]).without, "a")


class Wanted(Case):
    def test_parts_and_entries_with_all_that_these_want(self):
        design = needing_design()
        for names, want in (("", ""), ("a", "a"), ("b", "ab"), ("c", "abc"), ("d", "abcd"), ("e", "ae"), ("f", "f"), ("fe", "aef"),
                            ("fffd", "abcdf")):
            for told in (tuple(names), (list(names),), (list(names), *names)):
                self.same(wanted(design, *told), list(want))
        wanted(design, "a").clear()
        self.assertEqual(wanted(design, "a"), ["a"])

    def test_all_others_can_be_left_out(self):
        for seed in range(30):
            design = Maker(seed).design(names="w", letters="abcde")
            for names in itertools.combinations("abcde", 2):
                stay = wanted(design, *names)
                self.assertEqual(design.without(*[name for name in design if name not in stay]).names, stay)
                # Nothing stays that is not wanted: each of them is needed, or one of the names.
                for name in stay:
                    if name not in names:
                        with self.assertRaises(Needed):
                            design.without(name, [other for other in design if other not in stay])
