"""Axes: what is one, bends, told and inner places, and the lines of axes."""

import random
from fractions import Fraction

from betweenfaces.axes import Axis
from betweenfaces.errors import InvalidAxis, InvalidSetting, InvalidText
from betweenfaces.ratios import Ratio
from tests.values import Case, HALF, is_a_number, odd_values

BEND = ((0, 0), (1, 2), (3, 2), (4, 4))


def axis(bend=(), home=0):
    return Axis("wt", least=0, home=home, most=4, bend=bend)


class Made(Case):
    def test_attributes_are_ratios(self):
        made = Axis("wt", least=100, home=Ratio(801, 2), most=900)
        self.same([made.name, made.least, made.home, made.most, made.bend],
                  ["wt", Ratio(100), Ratio(801, 2), Ratio(900), ()])
        self.assertEqual(repr(Axis(name="wt", most=900, home=400, least=100)), "Axis(wt, 100, 400, 900)")
        self.assertEqual(repr(made), "Axis(wt, 100, 801/2, 900)")
        self.same(axis(BEND).bend, tuple((Ratio(at), Ratio(to)) for at, to in BEND))
        self.assertEqual((Axis.MOST_LETTERS, made.MOST_LETTERS), (8, 8))

    def test_homes_at_the_ends(self):
        for home in (0, 4):
            self.same(axis(home=home).home, Ratio(home))

    def test_names(self):
        for name in ("a", "z", "azazazaz", "selfs", "sel", "bend", "axis"):
            self.assertEqual(Axis(name, least=0, home=0, most=1).name, name)
        right = {"a", "w", "ab", "weight", "letters"}
        for value in odd_values() + ["abcdefghi", "wT", "w1", "w ", " w", "w\n", "w-t", "`", "{", "a{", "@", "_"]:
            if not isinstance(value, str) or value not in right:
                self.refused(InvalidAxis("name"), Axis, value, least=0, home=0, most=1)
                self.refused(InvalidAxis("name"), Axis, value, least=None, home=0, most=1, bend=4)

    def test_order(self):
        for least, home, most in ((0, 0, 0), (1, 0, 2), (0, 3, 2), (2, 1, 0), (0, -1, 0), (HALF, HALF, HALF),
                                  (0, Ratio(3, 2), 1), (1, 1, 0)):
            self.refused(InvalidAxis("order"), Axis, "w", least=least, home=home, most=most)
        for value in odd_values():
            if not is_a_number(value):
                self.refused(InvalidAxis("order"), Axis, "w", least=value, home=0, most=1)
                self.refused(InvalidAxis("order"), Axis, "w", least=0, home=value, most=1)
                self.refused(InvalidAxis("order"), Axis, "w", least=0, home=0, most=value, bend=7)

    def test_equal(self):
        self.equal(axis(), axis(bend=[]))
        self.equal(axis(BEND), axis([(Ratio(at), to) for at, to in BEND]))
        for other in (axis(home=1), axis(BEND), axis([(0, 0), (4, 4)]), Axis("wd", least=0, home=0, most=4),
                      Axis("wt", least=-1, home=0, most=4), Axis("wt", least=0, home=0, most=5)):
            self.unequal(axis(), other)
        self.unequal(axis(BEND), axis([(0, 0), (1, 1), (3, 2), (4, 4)]))
        self.equal_to_none(axis())


class Bends(Case):
    def everywhere(self, bend, right, home=0):
        """The bend is taken, or refused, at the making, by change and by assignment."""
        if right:
            self.assertEqual(len(axis(bend, home).bend), len(bend))
        else:
            self.refused(InvalidAxis("bend"), axis, bend, home)
        changed, assigned = axis(home=home), axis(home=home)

        def assign(value):
            assigned.bend = value
        for one, call in ((changed, changed.change), (assigned, assign)):
            one.bend = ((0, 0), (home or 2, home or 2), (4, 4)) if home != 4 else ((0, 0), (4, 4))
            kept = one.bend
            if right:
                self.assertIs(call(bend), None)
                self.same(one.bend, tuple((Ratio.of(at), Ratio.of(to)) for at, to in bend))
            else:
                self.refused(InvalidAxis("bend"), call, bend)
                self.assertIs(one.bend, kept)

    def test_bends_that_are_right(self):
        for bend, home in (((), 0), ([], 2), (BEND, 0), (list(BEND), 4), ([(0, 0), (4, 4)], 0), ([(0, 0), (4, 4)], 4),
                           ([(0, 0), (2, 2), (4, 4)], 2), ([(0, 0), (1, 0), (3, 4), (4, 4)], 0),
                           ([(0, 0), (HALF, 2), (2, 2), (3, 2), (4, 4)], 2)):
            self.everywhere(bend, True, home)

    def test_bends_that_are_wrong(self):
        wrong = [
            [(0, 0)], [(4, 4)], [(0, 0), (0, 0), (4, 4)], [(0, 0), (4, 4), (4, 4)], [(0, 0), (2, 1), (1, 2), (4, 4)],
            [(0, 0), (1, 2), (2, 1), (4, 4)], [(0, 1), (4, 4)], [(0, 0), (4, 3)], [(1, 1), (4, 4)], [(0, 0), (3, 3)],
            [(4, 4), (0, 0)], [(0, 0), [1, 2], (4, 4)], [(0, 0), (1, 2, 3), (4, 4)], [(0, 0), (1,), (4, 4)],
            [(0, 0), 1, (4, 4)], [(0, 0), (True, 2), (4, 4)], [(0, 0), (2, "1"), (4, 4)], [(0, 0), None, (4, 4)],
            [(0, 0), (1, -1), (4, 4)], [(0, 0), (1, 5), (4, 4)], ((0, 0), (-1, 0), (4, 4)), ((0, 0), (5, 4)),
            {0: 0, 4: 4}, [(False, 0), (4, 4)], [()], [[]], (0, 0), ((0, 0), (1, 1), (1, 2), (4, 4)),
        ]
        for bend in wrong:
            for home in (0, 2, 4):
                self.everywhere(bend, False, home)
        for bend in ([(0, 1), (2, 2), (4, 4)], [(0, 0), (2, 2), (4, 3)], [(1, 1), (2, 2), (4, 4)], [(0, 0), (2, 2), (3, 3)]):
            self.everywhere(bend, False, 2)

    def test_the_home_stays(self):
        self.everywhere([(0, 0), (4, 4)], False, 2)
        self.everywhere([(0, 0), (2, 1), (4, 4)], False, 2)
        self.everywhere([(0, 0), (1, 2), (3, 2), (4, 4)], False, 2)
        self.everywhere([(0, 0), (Ratio(5, 2), 2), (4, 4)], False, 2)

    def test_any_value(self):
        for value in odd_values():
            if not isinstance(value, (tuple, list)) or value:
                self.everywhere(value, False)

    def test_reordered_dropped_and_doubled_knots(self):
        for index in range(4):
            for other in range(4):
                if index != other:
                    knots = list(BEND)
                    knots[index], knots[other] = knots[other], knots[index]
                    self.everywhere(knots, False)
            self.everywhere(BEND[:index] + BEND[index:index + 1] * 2 + BEND[index + 1:], False)
            self.everywhere(BEND[:index] + BEND[index + 1:], index in (1, 2))

    def test_what_is_passed_can_be_changed_later(self):
        knots = [(0, 0), (2, 1), (4, 4)]
        one, other = axis(knots), axis()
        other.bend = knots
        knots.append(7)
        knots[1] = (2, 3)
        for made in (one, other):
            self.same(made.bend, tuple((Ratio(at), Ratio(to)) for at, to in ((0, 0), (2, 1), (4, 4))))
        other.change(bend=())
        self.same(other.bend, ())
        self.same(one.inner(2), Ratio(1))


class Places(Case):
    def test_holds(self):
        for place, told in ((0, True), (4, True), (2, True), (HALF, True), (Ratio(-1, 10 ** 9), False), (-1, False),
                            (Ratio(4 * 10 ** 70 + 1, 10 ** 70), False), (5, False)):
            self.assertIs(axis(BEND).holds(place=place), told)
        for value in odd_values():
            if not is_a_number(value):
                self.assertIs(axis().holds(value), False)
                self.refused(InvalidSetting("wt"), axis().inner, value)
                self.refused(InvalidSetting("wt"), axis(BEND).inner, value)

    def test_inner_places(self):
        bent = axis(BEND)
        for place, told in ((0, 0), (HALF, 1), (1, 2), (2, 2), (Ratio(9, 4), 2), (3, 2), (Ratio(7, 2), 3), (4, 4)):
            self.same(bent.inner(place), Ratio.of(told))
            self.same(axis().inner(place=place), Ratio.of(place))
        for place in (-1, 5, Ratio(-1, 1000), Ratio(4001, 1000)):
            self.refused(InvalidSetting("wt"), bent.inner, place)
            self.refused(InvalidSetting("wt"), axis().inner, place)

    def test_back(self):
        bent = axis(BEND)
        for low, high, told in ((0, 4, (0, 4)), (2, 2, (1, 3)), (2, 3, (1, Ratio(7, 2))), (1, 2, (HALF, 3)),
                                (0, 0, (0, 0)), (4, 4, (4, 4)), (1, 1, (HALF, HALF))):
            self.same(bent.back(low, high), tuple(Ratio.of(place) for place in told))
            self.same(axis().back(high=high, low=low), (Ratio.of(low), Ratio.of(high)))
        flat = axis([(0, 0), (1, 0), (2, 0), (3, 4), (4, 4)])
        self.same(flat.back(0, 0), (Ratio(0), Ratio(2)))
        self.same(flat.back(4, 4), (Ratio(3), Ratio(4)))
        self.same(flat.back(0, 4), (Ratio(0), Ratio(4)))
        self.same(flat.back(2, 3), (Ratio(5, 2), Ratio(11, 4)))

    def test_by_many_bends(self):
        chance = random.Random(4)
        for _ in range(40):
            ats = sorted(chance.sample(range(1, 24), chance.randint(0, 5)))
            tos = sorted(chance.choice(range(25)) for _ in ats)
            knots = [(0, 0)] + list(zip(ats, tos)) + [(24, 24)]
            bent = Axis("w", least=0, home=24, most=24, bend=knots)
            told = {Fraction(part, 6): bent.inner(Ratio(part, 6)) for part in range(145)}
            inner = {at: Fraction(to.top, to.bottom) for at, to in told.items()}
            self.assertEqual([inner[Fraction(at)] for at, _ in knots], [to for _, to in knots])
            for (at, to), (next_at, next_to) in zip(knots, knots[1:]):
                middle = Fraction(at + next_at, 2)
                self.assertEqual(inner[middle], Fraction(to + next_to, 2))
            for low in range(0, 25, 3):
                first, last = bent.back(low, low)
                self.same([bent.inner(first), bent.inner(last)], [Ratio(low), Ratio(low)])
                around = [Fraction(one.top, one.bottom) for one in (first, last)]
                self.assertTrue(all((to == low) == (around[0] <= at <= around[1]) for at, to in inner.items()))


class Lines(Case):
    def test_written_and_read(self):
        for one, text in ((axis(), "axis wt 0 0 4"), (axis(BEND), "axis wt 0 0 4 bend 0:0 1:2 3:2 4:4"),
                          (Axis("w", least=Ratio(-1, 2), home=HALF, most=3), "axis w -1/2 1/2 3"),
                          (Axis("bend", least=0, home=1, most=1, bend=[(0, 0), (HALF, Ratio(1, 3)), (1, 1)]),
                           "axis bend 0 1 1 bend 0:0 1/2:1/3 1:1")):
            self.assertEqual(str(one), text)
            self.equal(Axis.read(text=text), one)
            self.same(Axis.read(text).bend, one.bend)

    def test_the_first_wrong_word(self):
        wrong = (
            ("", 0), ("axe wt 0 0 4", 0), (" axis wt 0 0 4", 0), ("Axis wt 0 0 4", 0), ("axis", 1), ("axis ", 1),
            ("axis  wt 0 0 4", 1), ("axis self 0 0 4", 1), ("axis toolongname 0 0 4", 1), ("axis W 0 0 4", 1),
            ("axis w\n 0 0 4", 1), ("axis 0 0 4", 1), ("axis wt", 2), ("axis wt ", 2), ("axis wt x 0 4", 2),
            ("axis wt 0:0 0 4", 2), ("axis wt 0  4", 3), ("axis wt 0", 3), ("axis wt 0 2/4 4", 3), ("axis wt 0 0", 4),
            ("axis wt 0 0 ", 4), ("axis wt 0 0 4\n", 4), ("axis wt 0 0 04", 4), ("axis wt 0 0 " + "4" * 61, 4),
            ("axis wt 0 0 4 ", 5), ("axis wt 0 0 4 0:0", 5), ("axis wt 0 0 4 bends 0:0", 5), ("axis wt 0 0 4 5", 5),
            ("axis wt 0 0 4 bend", 6), ("axis wt 0 0 4 bend ", 6), ("axis wt 0 0 4 bend\n", 5),
            ("axis wt 0 0 4 bend 0", 6), ("axis wt 0 0 4 bend 0:", 6), ("axis wt 0 0 4 bend 0:0:0", 6),
            ("axis wt 0 0 4 bend 0:0 4,4", 7), ("axis wt 0 0 4 bend 0:0 4:4 ", 8), ("axis wt 0 0 4 bend 0:0 4:4 bend", 8),
            ("axis wt 4 0 0 bend 0:0 x", 7), ("axis\nwt 0 0 4", 0), ("axis wt 0 0 4\naxis wd 0 0 4", 4),
        )
        for text, word in wrong:
            self.refused(InvalidText(0, word), Axis.read, text)
        for value in odd_values():
            if value != "axis w 0 0 1":
                word = 0
                self.refused(InvalidText(0, word), Axis.read, value)

    def test_the_class_looks_at_the_order_behind_the_words(self):
        self.refused(InvalidAxis("order"), Axis.read, "axis wt 4 0 0")
        self.refused(InvalidAxis("order"), Axis.read, "axis wt 0 0 0 bend 1:1")
        self.refused(InvalidAxis("bend"), Axis.read, "axis wt 0 0 4 bend 0:0")
        self.refused(InvalidAxis("bend"), Axis.read, "axis wt 0 0 4 bend 4:4 0:0")
        self.equal(Axis.read("axis wt 0 0 4"), axis())
