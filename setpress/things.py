"""What things are, number by number; how a list's numbers are read, and told again.

A list is a list of things. A thing is a dict: its kind, and its fields by name. A rule's side that runs is None.
Neither is changed once it is made, so that several lists may have one thing.
"""

from setpress.reading import Reader
from setpress.refusals import NotKept, WrongList

DEEPEST = 8
MOST_NUMBERS = 2000

KINDS = (
    "glyph", "kern", "glue", "leaders", "penalty", "rule",
    "box", "disc", "adjust", "mark", "insertion", "anchor",
)

RANGES = {
    "length": (-1073741823, 1073741823),
    "name": (0, 65535),
    "class": (0, 255),
    "order": (0, 3),
    "way": (0, 2),
    "direction": (0, 1),
    "numerator": (-1152921504606846975, 1152921504606846975),
    "denominator": (1, 1152921504606846975),
}

FORMS = {
    "glyph": (("name", "name"), ("width", "length"), ("height", "length"), ("depth", "length")),
    "kern": (("size", "length"),),
    "glue": (
        ("size", "length"),
        ("stretch", "length"), ("stretch order", "order"),
        ("shrink", "length"), ("shrink order", "order"),
    ),
    "leaders": (
        ("size", "length"),
        ("stretch", "length"), ("stretch order", "order"),
        ("shrink", "length"), ("shrink order", "order"),
        ("way", "way"), ("repeated", "thing"),
    ),
    "penalty": (("cost", "length"),),
    "rule": (("width", "side"), ("height", "side"), ("depth", "side")),
    "box": (
        ("direction", "direction"),
        ("width", "length"), ("height", "length"), ("depth", "length"),
        ("order", "order"), ("numerator", "numerator"), ("denominator", "denominator"),
        ("shift", "length"), ("things", "list"),
    ),
    "disc": (("before", "list"), ("behind", "list"), ("unparted", "list")),
    "adjust": (("things", "list"),),
    "mark": (("class", "class"),),
    "insertion": (
        ("class", "class"),
        ("size", "length"),
        ("stretch", "length"), ("stretch order", "order"),
        ("shrink", "length"), ("shrink order", "order"),
        ("depth", "length"), ("cost", "length"), ("things", "list"),
    ),
    "anchor": (("name", "name"),),
}


def in_range(number, form):
    bounds = RANGES[form]
    return bounds[0] <= number <= bounds[1]


def read_list(numbers):
    """The things of the list that these numbers tell; WrongList, if they tell none."""
    reader = Reader(numbers)
    things = read_things(reader, DEEPEST)
    if not reader.ended():
        raise WrongList()
    return things


def read_things(reader, room):
    """A list of things that are at most room deep."""
    count = reader.take()
    if count < 0:
        raise WrongList()
    things = []
    while len(things) < count:
        things.append(read_thing(reader, room))
    return things


def read_thing(reader, room):
    number = reader.take()
    if not 0 <= number < len(KINDS):
        raise WrongList()
    kind = KINDS[number]
    thing = {"kind": kind}
    for field, form in FORMS[kind]:
        thing[field] = read_field(reader, form, room)
    return thing


def read_field(reader, form, room):
    if form == "list" or form == "thing":
        # Refused on the way in: so the calls within one another stay few, however deep the numbers go.
        if room == 0:
            raise WrongList()
        if form == "list":
            return read_things(reader, room - 1)
        return read_repeated(reader, room - 1)
    if form == "side":
        return read_side(reader)
    return read_number(reader, form)


def read_number(reader, form):
    number = reader.take()
    if not in_range(number, form):
        raise WrongList()
    return number


def read_side(reader):
    told = reader.take()
    if told == 0:
        return None
    if told != 1:
        raise WrongList()
    return read_number(reader, "length")


def read_repeated(reader, room):
    thing = read_thing(reader, room)
    if thing["kind"] != "rule" and thing["kind"] != "box":
        raise WrongList()
    if holds_leaders(thing):
        raise WrongList()
    return thing


def read_glue(numbers):
    """The glue that these five numbers tell; WrongList, if they tell none."""
    reader = Reader(numbers)
    glue = {"kind": "glue"}
    for field, form in FORMS["glue"]:
        glue[field] = read_number(reader, form)
    if not reader.ended():
        raise WrongList()
    return glue


def holds_leaders(thing):
    for field, form in FORMS[thing["kind"]]:
        if form == "list":
            for inner in thing[field]:
                if inner["kind"] == "leaders" or holds_leaders(inner):
                    return True
    return False


def tell_list(things):
    numbers = [len(things)]
    for thing in things:
        numbers.extend(tell_thing(thing))
    return numbers


def tell_thing(thing):
    kind = thing["kind"]
    numbers = [KINDS.index(kind)]
    for field, form in FORMS[kind]:
        numbers.extend(tell_field(thing[field], form))
    return numbers


def tell_field(value, form):
    if form == "list":
        return tell_list(value)
    if form == "thing":
        return tell_thing(value)
    if form == "side":
        return [0] if value is None else [1, value]
    return [value]


def check_kept(things):
    """NotKept, if these things are no list that can be kept."""
    numbers = tell_list(things)
    if len(numbers) > MOST_NUMBERS:
        raise NotKept()
    try:
        read_list(numbers)
    except WrongList:
        raise NotKept() from None
