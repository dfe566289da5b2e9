"""What the document promises over the whole program: the point [1], from texts to answers."""

from betweenfaces.alike import alike
from betweenfaces.alikecheck import check_alike, check_unlike
from betweenfaces.boundcheck import check_narrowest, check_widest
from betweenfaces.changes import Change, Cut, Flatten, Join, Leave, Sparse, changed
from betweenfaces.clear import check_touch, clear
from betweenfaces.desk import Desk
from betweenfaces.forms import at_form, forms
from betweenfaces.gluing import glued
from betweenfaces.leaving import wanted
from betweenfaces.lines import check_pieces, settings_of_width
from betweenfaces.masters import from_masters, masters_of
from betweenfaces.ratios import Ratio
from betweenfaces.reader import read_design, read_room, read_setting
from betweenfaces.rising import check_fall, rises
from betweenfaces.rooms import Room
from betweenfaces.settings import Setting
from betweenfaces.texts import design_text, room_text, setting_text
from betweenfaces.widths import narrowest, widest
from tests.drawn import in_ratios, inner_places, picture_at, told
from tests.makers import Maker
from tests.test_cutting import some_room
from tests.test_joining import renamed
from tests.values import Case, kind_of

HALF = Ratio(1, 2)


class Changes(Case):
    def test_rows_of_changes_draw_what_the_designs_draw_from_which_the_letters_come(self):
        for seed in range(40):
            maker = Maker(seed)
            design = maker.design(names=("w", "wt", "xyz")[seed % 3], letters="abcd")
            other = renamed(maker.design(names="q", letters="ab"), 10)
            room = some_room(maker, design.axes)
            steps = [Cut(room), Sparse(), Join(other), Flatten(maker.chance.choice("abcd")), Change()]
            maker.chance.shuffle(steps)
            made = changed(design, steps)
            stay = wanted(made, maker.chance.choice("abcd"), "k")
            made = changed(made, Leave([name for name in made if name not in stay]))
            ahead = kind_of(made)
            pins = {name: room[name][0] for name in room if room[name][0] == room[name][2]}
            for _ in range(4):
                setting = maker.setting(made.axes)
                whole = {**told(Setting.of(pins)), **told(setting)}
                for source, letters in ((design, [name for name in stay if name < "k"]), (other, [name for name in stay if name >= "k"])):
                    text = maker.text(letters)
                    at = inner_places(source, {axis.name: whole[axis.name] for axis in source.axes})
                    self.same(made(setting, text), in_ratios(picture_at(source, at, text)))
            # What is made is written, read, kept in masters and glued again, and stays the same.
            self.same(read_design(design_text(made)), made)
            self.assertEqual(alike(made, made.changed(Sparse(), Flatten(), Change())), ("alike", forms(made)))
            self.assertEqual(kind_of(made), ahead)

    def test_a_design_behind_masters_and_gluing(self):
        for seed in range(20):
            maker = Maker(seed)
            axes = [maker.axis(name) for name in "vw"]
            letters = {name: maker.letter(axes) for name in "ab"}
            design = read_design("\n".join([str(axis) for axis in axes] + ["letter a 1"])).remade(axes, letters, {}, [])
            made = from_masters(design.axes, list(masters_of(design)))
            self.assertEqual(alike(design, made)[0], "alike")
            axis = axes[seed % 2]
            meet = (axis.least + axis.most) * HALF
            halves = [made.cut(Room.of({axis.name: ends})) for ends in ((axis.least, meet), (meet, axis.most))]
            whole = glued(*halves, axis.name)
            self.assertEqual(alike(whole, design)[0], "alike")
            self.assertIs(check_alike(whole, design, forms(made)), True)


class Bounds(Case):
    def test_bounds_over_rooms_that_are_cut(self):
        for seed in range(30):
            maker = Maker(seed)
            design = maker.design(names=("w", "wt")[seed % 2], letters="abc")
            text, room = maker.text("abc"), some_room(maker, design.axes)
            small = design.cut(room)
            for asked, check in ((widest, check_widest), (narrowest, check_narrowest)):
                whole, part = asked(design, text), asked(small, text)
                self.assertTrue(check(design, text, whole) and check(small, text, part))
                less, more = (part[0], whole[0]) if asked is widest else (whole[0], part[0])
                self.assertFalse(more.under(less))
                if whole[2] and room.holds(whole[1].without("t") if "t" not in room and "t" in whole[1] else whole[1]):
                    self.assertEqual(part[0], whole[0])

    def test_what_is_told_of_a_design_is_told_of_each_that_is_drawn_alike(self):
        for seed in range(20):
            maker = Maker(seed)
            design = maker.design(names=("w", "wt")[seed % 2], letters="abc")
            text, axis, gap = maker.text("abc", most=3), design.axes[0].name, maker.number()
            setting = maker.setting(design.axes)
            for other in (design.changed(Change()), design.changed(Sparse()), design.changed(Flatten())):
                self.assertEqual((widest(other, text)[0], widest(other, text)[2]), (widest(design, text)[0], widest(design, text)[2]))
                self.assertTrue(check_widest(other, text, widest(design, text)) and check_narrowest(design, text, narrowest(other, text)))
                limit = design(setting, text)[1]
                self.assertTrue(check_pieces(other, text, limit, axis, setting, list(settings_of_width(design, text, limit, axis, setting))))
                fall, touch = rises(design, text, axis), clear(design, text, gap)
                self.assertEqual((fall is None, touch is None), (rises(other, text, axis) is None, clear(other, text, gap) is None))
                self.assertTrue(fall is None or check_fall(other, text, axis, fall))
                self.assertTrue(touch is None or check_touch(other, text, gap, touch))


class FromATextToAnAnswer(Case):
    def test_a_desk_answers_as_the_functions_do(self):
        for seed in range(20):
            maker = Maker(seed)
            design, desk = maker.design(names=("w", "wt", "")[seed % 3], letters="abc"), Desk()
            desk.say("load " + design_text(design).replace("\n", " / "))
            setting, text = maker.setting(design.axes), maker.text("abc")
            words = " ".join([word for word in (setting_text(setting), text or "-") if word])
            self.assertEqual(desk.say(f"width {words}"), str(design(setting, text)[1]))
            value, at, met = widest(design, text)
            self.assertEqual(desk.say(f"widest {text or '-'}"), f"{value} {'at' if met else 'near'} {at if len(at) else '-'}")
            room = some_room(maker, design.axes)
            desk.say("plain")
            for name in room:
                low, home, high = room[name]
                if low == high:
                    desk.say(f"pin {name} {low}")
                else:
                    desk.say(f"cut {name} {low} {high}" if home is None else f"cut {name} {low} {home} {high}")
            self.same(desk.design, design.cut(room))
            self.same(read_room(room_text(room)), room)
            desk.say("keep k")
            for _ in range(desk.depth):
                desk.say("undo")
            self.assertIs(desk.design, None)
            desk.say("load " + design_text(design.cut(room)).replace("\n", " / "))
            self.assertEqual(desk.say("alike k"), "alike")

    def test_what_a_desk_tells_to_be_unlike_is_so(self):
        found = 0
        for seed in range(30):
            maker = Maker(seed)
            one, other, desk = maker.design(names="w", letters="ab"), maker.design(names="w", letters="ab"), Desk()
            other = other.remade(one.axes, {name: maker.letter(one.axes) for name in "ab"}, {}, [])
            desk.say("load " + design_text(one).replace("\n", " / "))
            desk.say("keep k")
            desk.say("load " + design_text(other).replace("\n", " / "))
            answer = desk.say("alike k").split(" ")
            if answer[0] == "unlike":
                found += 1
                self.assertIs(check_unlike(one, other, read_setting(answer[1]), answer[2]), True)
            papers = forms(one)
            setting = maker.setting(one.axes)
            for thing, paper in papers:
                value = at_form(paper, setting)
                if len(thing) == 1:
                    self.same(one(setting, thing), value)
        self.assertTrue(found > 20)
