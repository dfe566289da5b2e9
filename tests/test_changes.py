"""Changes, one after another: the points [1], [9], [21], [22] and the changes module."""

from betweenfaces.changes import Change, Cut, Flatten, Join, Leave, Sparse, changed
from betweenfaces.cutting import cut
from betweenfaces.errors import InvalidChange, InvalidDesign, InvalidJoin, InvalidRoom, Needed, UnknownAxis, UnknownLetter
from betweenfaces.flatten import flattened
from betweenfaces.joining import joined
from betweenfaces.leaving import wanted, without
from betweenfaces.plain import plain
from betweenfaces.rooms import Room
from betweenfaces.settings import Setting
from betweenfaces.sparse import sparse
from tests.drawn import in_ratios, inner_places, picture_at, told
from tests.examples import HALF, drawn_design, flattening_design
from tests.makers import Maker
from tests.test_cutting import some_room
from tests.test_joining import renamed
from tests.values import Case, odd_values


class Changes(Case):
    def test_words(self):
        for change, word in ((Change(), "plain"), (Cut(Room()), "cut"), (Flatten(), "flatten"), (Sparse(), "sparse"), (Leave(), "leave"),
                             (Join(drawn_design()), "join")):
            self.assertEqual((str(change), change.WORD, type(change).WORD), (word, word, word))
            self.assertIsInstance(change, Change)
            for method in ("made", "__str__"):
                self.assertIn(method, vars(type(change)))

    def test_what_is_made(self):
        design, room, other = drawn_design(), Room(w=(0, HALF)), renamed(flattening_design(), 5)
        for change, want in ((Change(), plain(design)), (Cut(room), cut(design, room)), (Cut(room=room), cut(design, room)),
                             (Flatten(), flattened(design)), (Flatten("b"), flattened(design, "b")), (Flatten([]), flattened(design)),
                             (Flatten(["a"], "b"), flattened(design)), (Sparse(), sparse(design)), (Leave(), plain(design)),
                             (Leave("b"), without(design, "b")), (Leave(["b"]), without(design, "b")),
                             (Join(other), joined(design, other)), (Join(other=other), joined(design, other))):
            self.same(change.made(design), want)
            self.same(change.made(design=design), want)
            self.same(design.changed(change), want)
            self.same(changed(design, [change]), want)

    def test_errors_are_raised_when_a_change_is_made(self):
        design = drawn_design()
        for change, error in ((Cut(Room(x=0)), UnknownAxis("x")), (Cut(Room(w=3)), InvalidRoom("w")), (Flatten("x"), UnknownLetter("x")),
                              (Flatten(["a", ["b"]]), UnknownLetter(["b"])), (Leave("a"), Needed("a")), (Leave("b", ["a"]), InvalidDesign("letters")),
                              (Leave(["a", ["b"]]), UnknownLetter(["b"])), (Leave(7), UnknownLetter(7)), (Join(design), InvalidJoin("a"))):
            self.refused(error, change.made, design)
            self.refused(error, changed, design, change)
            self.refused(error, design.changed, Sparse(), [change, Cut(Room(y=0))])

    def test_names_of_any_values(self):
        for value in odd_values():
            if not isinstance(value, list) and value not in ("a", "b"):
                self.refused(UnknownLetter(value), Flatten(value).made, drawn_design())
                self.refused(UnknownLetter(value), Leave("b", value).made, drawn_design())

    def test_a_list_that_is_changed_later(self):
        names, design = ["b"], drawn_design()
        changes = [Leave(names), Flatten(names)]
        names.append("x")
        names[0] = "y"
        self.same(changes[0].made(design), without(design, "b"))
        self.same(changes[1].made(design), flattened(design, "b"))


class Changed(Case):
    def test_without_changes(self):
        for design in (drawn_design(), Maker(7).design()):
            for made in (changed(design), design.changed(), changed(design, []), design.changed([], [])):
                self.same(made, design)
                self.equal(made, design)
        self.assertFalse(plain(Maker(7).design()) == changed(Maker(7).design()))

    def test_changes_in_order_and_in_lists(self):
        design = Maker(3).design(names="wt")
        steps = [Sparse(), Cut(Room(w=design.axis("w").most)), Flatten("c")]
        want = flattened(cut(sparse(design), Room(w=design.axis("w").most)), "c")
        for changes in (tuple(steps), (steps,), (steps[:1], steps[1], [], steps[2:])):
            self.same(changed(design, *changes), want)
            self.same(design.changed(*changes), want)
        self.same(changed(design=design), design)

    def test_any_value_that_is_no_change_comes_first(self):
        design = drawn_design()
        for value in [*odd_values(), [Sparse()], "sparse"]:
            if isinstance(value, Change):
                continue
            if not isinstance(value, list):
                self.refused(InvalidChange(), changed, design, value)
                self.refused(InvalidChange(), design.changed, Cut(Room(x=0)), value)
            self.refused(InvalidChange(), changed, design, Leave("x"), [Sparse(), value])

    def test_rows_of_changes(self):
        for seed in range(60):
            maker = Maker(seed)
            design = maker.design(names=("w", "wt", "wt", "xyz")[seed % 4])
            other = renamed(maker.design(names="q", letters="ab"), 10)
            steps, made, pins, letters = [], design, Setting(), "abcd"
            for _ in range(maker.chance.randint(2, 6)):
                steps.append(self.change(maker, made, other))
                made = steps[-1].made(made)
                letters = [name for name in letters if name in made]
                pins = self.with_pins(pins, steps[-1])
            self.same(changed(design, steps), made)
            self.same(design.changed(*steps), made)
            for _ in range(4):
                setting, text = maker.setting(made.axes), maker.text(letters)
                whole = {**told(pins), **told(setting)}
                at = inner_places(design, {axis.name: whole[axis.name] for axis in design.axes})
                self.same(made(setting, text), in_ratios(picture_at(design, at, text)))
            if str(steps[-1]) != "sparse":
                self.same(plain(made), made)
            self.same(plain(made), changed(design, [step for step in steps if str(step) not in ("sparse", "plain")], Change()))

    def with_pins(self, pins, step):
        if str(step) == "cut":
            for name in self.room:
                if self.room[name][0] == self.room[name][2]:
                    pins = pins.moved(name, self.room[name][0])
        return pins

    def change(self, maker, design, other):
        """A change that can be made."""
        kind = maker.chance.choice(("cut", "cut", "plain", "flatten", "sparse", "leave", "join"))
        if kind == "cut":
            self.room = some_room(maker, [axis for axis in design.axes if axis.name != "q"])
            return Cut(self.room)
        if kind == "flatten":
            return Flatten(maker.chance.sample(design.names, maker.chance.randint(0, len(design))))
        if kind == "leave":
            stay = wanted(design, maker.chance.choice(design.names), maker.chance.choice([name for name in design if name < "k"]))
            return Leave([name for name in design if name not in stay])
        if kind == "join" and "q" not in design.room:
            return Join(other)
        return Sparse() if kind == "sparse" else Change()
