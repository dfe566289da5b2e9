"""The words of the lines that a desk carries out."""

from betweenfaces.axes import is_axis_name
from betweenfaces.errors import InvalidText, UnknownCommand
from betweenfaces.letters import is_letter_name
from betweenfaces.settings import Setting
from betweenfaces.words import numbers_in

# The forms of the words behind the first one; a setting takes as many words as it has names.
FORMS = {
    "show": (), "plain": (), "sparse": (), "undo": (), "axes": (), "letters": (),
    "cut": ("axis", "number", "number"), "pin": ("axis", "number"), "home": ("axis", "number"),
    "flatten": ("letters",), "leave": ("letters",), "keep": ("key",), "join": ("key",), "alike": ("key",),
    "width": ("setting", "text"), "draw": ("setting", "text"), "places": ("thing",),
    "widest": ("text",), "narrowest": ("text",), "wider": ("text", "number"), "narrower": ("text", "number"),
    "rises": ("axis", "text"), "line": ("number", "axis", "setting", "text"), "clear": ("number", "text"),
}


def forms_for(words):
    """The tuple of the forms of the words behind the first one; UnknownCommand if these are too few or too many."""
    if words[0] not in FORMS:
        raise UnknownCommand(words[0])
    forms = FORMS[words[0]]
    many = len(words) - 1
    if words[0] == "cut" and many == len(forms) + 1:
        return (*forms, "number")
    if many != len(forms) and ("setting" not in forms or many < len(forms) - 1):
        raise UnknownCommand(words[0])
    return forms


def told_by(words, forms):
    """The list of what the words behind the first one tell; InvalidText with the index of the first wrong one."""
    told = []
    index = 1
    for form in forms:
        if form == "setting":
            behind = index + len(words) - len(forms)
            told.append(_setting_told(words, index, behind))
            index = behind
        else:
            reads = READERS[form]
            found = reads(words[index])
            if len(found) != 1:
                raise InvalidText(0, index)
            told.append(found[0])
            index = index + 1
    return told


def _setting_told(words, first, behind):
    """The Setting that the words from one index to ahead of another one tell."""
    places = {}
    for index in range(first, behind):
        name, _, number = words[index].partition("=")
        numbers = _number(number)
        if not is_axis_name(name) or name in places or len(numbers) != 1:
            raise InvalidText(0, index)
        places[name] = numbers[0]
    return Setting.of(places)


def _axis(word):
    """The list of what a word tells, here an axis; as for all other forms it is empty for a wrong word."""
    return [word] if is_axis_name(word) else []


def _number(word):
    """The same for a number."""
    return numbers_in(word, ",")


def _letters(word):
    """The same for one letter or more."""
    return [word] if len(word) > 0 and all([is_letter_name(sign) for sign in word]) else []


def _text(word):
    """The same for a text, perhaps the empty one."""
    return [""] if word == "-" else _letters(word)


def _key(word):
    """The same for a key."""
    return [word] if is_letter_name(word) else []


def _thing(word):
    """The same for a thing."""
    return _letters(word) if len(word) <= 2 else []


READERS = {"axis": _axis, "number": _number, "letters": _letters, "text": _text, "key": _key, "thing": _thing}
