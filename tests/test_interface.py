"""The interface: each name is defined in its file, with the parameters that the document tells."""

import importlib
import inspect
import unittest

FUNCTIONS = {
    "ratios": "ascending(numbers) least(numbers) greatest(numbers)",
    "infer": "infer(points, moves)",
    "fewest": "touched_least(points, moves) sparse_row(letter, row)",
    "fewcheck": "check_touched(points, moves, thing) check_fewest(points, moves, thing)",
    "drawing": "picture(design, setting, text) pictures(design, text, *settings) outline(design, setting, name) drawn_as(design, setting, name) "
               "width(design, setting, text) inner(design, setting)",
    "cells": "places_of(design, thing) cells_of(design, thing) corners(cell) inner_settings(cell) drawn_in(design, thing, cell) "
             "value_in(design, thing, cell, corner) value_at(design, thing, setting)",
    "forms": "form(design, thing) forms(design) at_form(told, setting) reasons(design, thing)",
    "formcheck": "check_form(design, thing, told) check_reason(design, thing, told)",
    "alike": "alike(one, other)",
    "alikecheck": "check_unlike(one, other, setting, text) check_alike(one, other, papers)",
    "hats": "hats(places, home) own_places(design, name)",
    "plain": "plain_quantity(axes, quantity) plain_letter(design, name) plain(design)",
    "cutting": "cut(design, room)", "flatten": "flattened(design, *names)", "sparse": "sparse(design) full(design)",
    "leaving": "without(design, *names) wanted(design, *names)", "joining": "joined(one, other)", "gluing": "glued(one, other, axis)",
    "changes": "changed(design, *changes)",
    "masters": "from_masters(axes, masters) masters_of(design)",
    "widths": "widest(design, text) narrowest(design, text) wider(design, text, limit) narrower(design, text, limit)",
    "boundcheck": "check_widest(design, text, thing) check_narrowest(design, text, thing)",
    "rising": "rises(design, text, axis) check_fall(design, text, axis, thing)",
    "lines": "settings_of_width(design, text, limit, axis, setting) check_pieces(design, text, limit, axis, setting, thing)",
    "clear": "clear(design, text, gap) check_touch(design, text, gap, thing)",
    "texts": "axis_text(axis) setting_text(setting) room_text(room) design_text(design)",
    "reader": "read_axis(text) read_setting(text) read_room(text) read_design(text)",
}
CLASSES = {
    "ratios": {"Ratio": "(top, bottom=1) under(other) over(other) of(number) read(text) __add__ __sub__ __mul__ __neg__ __eq__ __bool__ __str__ __repr__"},
    "axes": {"Axis": "(name, *, least, home, most, bend=()) change(bend) holds(place) inner(place) back(low, high) read(text) bend __eq__ __str__ __repr__"},
    "settings": {"Setting": "(**places) of(places) moved(name, place) without(name) read(text) names __len__ __contains__ __iter__ __getitem__ __eq__ __str__ __repr__"},
    "rooms": {"Room": "(**spans) of(spans) holds(setting) read(text) names __len__ __contains__ __iter__ __getitem__ __and__ __eq__ __str__ __repr__"},
    "tents": {"Tent": "(start, peak, end) fits(axis) __call__ __eq__ __str__ __repr__",
              "Reach": "(**tents) of(tents) fits(axes) names __len__ __contains__ __getitem__ __iter__ __call__ __eq__ __str__ __repr__"},
    "quantities": {"Quantity": "(home, *rows) of(home, rows=()) at(places) names __add__ __eq__ __repr__"},
    "rows": {"Row": "(reach)", "FullRow": "(reach, moves) fits(many) filled(letter) touched(letter) __eq__",
             "SparseRow": "(reach, moves) fits(many) filled(letter) touched(letter) __eq__"},
    "letters": {"Letter": "(width, *rounds, parts=(), rows=()) of(width, rounds, parts=(), rows=()) moved(setting) rows __len__ __eq__"},
    "designs": {"Design": "(axes, letters, *, pairs=None, swaps=()) axis(name) cut(room) joined(other) without(*names) changed(*changes) axes names pairs swaps "
                          "room homes cells __contains__ __getitem__ __len__ __iter__ __call__ __eq__"},
    "changes": {"Change": "() made(design) __str__", "Cut": "(room) made(design) __str__", "Flatten": "(*names) made(design) __str__",
                "Sparse": "() made(design) __str__", "Leave": "(*names) made(design) __str__", "Join": "(other) made(design) __str__"},
    "desk": {"Desk": "() say(line) tried(*lines) asked(*lines) design depth"},
}


def split_signatures(text):
    """The words of a text, where blanks within parentheses part none."""
    words, depth = [""], 0
    for sign in text:
        depth += (sign == "(") - (sign == ")")
        if sign == " " and depth == 0:
            words.append("")
        else:
            words[-1] += sign
    return words


def told(name, thing):
    return f"{name}{inspect.signature(thing)}"


class Interface(unittest.TestCase):
    def test_functions(self):
        for module, signatures in FUNCTIONS.items():
            home = importlib.import_module(f"betweenfaces.{module}")
            for signature in split_signatures(signatures):
                name = signature.partition("(")[0]
                function = getattr(home, name)
                self.assertEqual(told(name, function), signature)
                self.assertEqual(function.__module__, f"betweenfaces.{module}")

    def test_classes_and_their_methods(self):
        for module, classes in CLASSES.items():
            home = importlib.import_module(f"betweenfaces.{module}")
            for name, signatures in classes.items():
                own, words = getattr(home, name), split_signatures(signatures)
                self.assertEqual(own.__module__, f"betweenfaces.{module}")
                self.assertEqual(told("", own), words[0])
                for word in words[1:]:
                    method = word.partition("(")[0]
                    self.assertIn(method, vars(own), name)
                    if "(" in word:
                        self.assertEqual(told(method, getattr(own, method)), word if isinstance(vars(own)[method], classmethod) else word.replace("(", "(self, ").replace("(self, )", "(self)"))

    def test_generators(self):
        for module, name in (("drawing", "pictures"), ("cells", "cells_of"), ("lines", "settings_of_width"), ("masters", "masters_of")):
            self.assertTrue(inspect.isgeneratorfunction(getattr(importlib.import_module(f"betweenfaces.{module}"), name)))
