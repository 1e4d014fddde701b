"""A plain model of a studio: a list of definitions, from which every scan is made anew each time."""

from lookscan.alike import unlike_boxes
from lookscan.makers import blocks_scan
from lookscan.scans import Scan
from tests.reference import random_matrix, random_tree

SIZES = {"scan": 4, "turned": 3, "then": 4, "shifted": 4, "slanted": 4, "blocks": 4, "change": 4, "rename": 3, "drop": 2}


class Refused(Exception):
    """What a command is refused with: the name of the error's class and its attributes."""

    def __init__(self, tag, **fields):
        super().__init__(tag)
        self.fields = {"tag": tag, **fields}


def uses(definition):
    if definition[0] == "scan":
        return []
    return list(definition[2:4]) if definition[0] == "then" else [definition[2]]


def scan_of(definitions, name):
    definition = definitions[[one[1] for one in definitions].index(name)]
    return make(definitions, definition)


def make(definitions, definition):
    kind = definition[0]
    if kind == "scan":
        return Scan(definition[2], definition[3])
    source = scan_of(definitions, definition[2])
    if kind == "turned":
        return source.turned()
    if kind == "then":
        return source.then(scan_of(definitions, definition[3]))
    if kind == "blocks":
        return blocks_scan(definition[3], inner=source)
    return {"shifted": source.shifted, "slanted": source.slanted}[kind](definition[3])


def made(definitions, definition):
    try:
        return make(definitions, definition)
    except ValueError as error:
        raise Refused(**vars(error)) from None


def is_name(name):
    return 1 <= len(name) <= 8 and set(name) <= set("abcdefghijklmnopqrstuvwxyz")


def known(definitions, name):
    if name not in [one[1] for one in definitions]:
        raise Refused("UnknownName", name=name)


def check_new(definitions, name):
    if not is_name(name):
        raise Refused("InvalidName", name=name)
    if name in [one[1] for one in definitions]:
        raise Refused("DuplicateName", name=name)


def applied(definitions, command, limit):
    """The definitions behind a command, as [17] says it."""
    kind, name = command[:2]
    if kind == "change":
        return changed(definitions, command)
    if kind == "rename":
        known(definitions, name)
        check_new(definitions, command[2])
        return [(one[0], *[command[2] if item == name else item for item in one[1:]]) for one in definitions]
    if kind == "drop":
        known(definitions, name)
        users = sorted(one[1] for one in definitions if name in uses(one))
        if users:
            raise Refused("InUse", name=users[0])
        return [one for one in definitions if one[1] != name]
    check_new(definitions, name)
    if len(definitions) >= limit:
        raise Refused("CapacityExceeded", limit=limit)
    for used in uses(command):
        known(definitions, used)
    made(definitions, command)
    return [*definitions, command]


def changed(definitions, command):
    name = command[1]
    known(definitions, name)
    at = [one[1] for one in definitions].index(name)
    if definitions[at][0] != "scan":
        raise Refused("NotGiven", name=name)
    new = ("scan", name, command[2], command[3])
    made([], new)
    found = [*definitions[:at], new, *definitions[at + 1:]]
    for definition in found:
        try:
            made(found, definition)
        except Refused:
            raise Refused("Broken", name=definition[1]) from None
    return found


class Model:
    """Definitions, steps, limit, kept comparisons and their count."""

    def __init__(self):
        self.definitions, self.past, self.future = [], [], []
        self.limit, self.computed, self.kept = 12, 0, []

    def apply_all(self, *commands):
        for command in commands:
            if not command or command[0] not in SIZES or len(command) != SIZES[command[0]]:
                raise Refused("InvalidCommand", first=command[0] if command else None)
        found = self.definitions
        for command in commands:
            found = applied(found, command, self.limit)
        self.past.append(self.definitions)
        self.future = []
        self.use(found)

    def use(self, definitions):
        self.definitions = definitions
        names = [one[1] for one in definitions]
        self.kept = [(one, other, looks, first, second) for one, other, looks, first, second in self.kept
                     if one in names and other in names
                     and scan_of(definitions, one) == first and scan_of(definitions, other) == second]

    def undo(self):
        if not self.past:
            raise Refused("NothingLeft")
        self.future.append(self.definitions)
        self.use(self.past.pop())

    def redo(self):
        if not self.future:
            raise Refused("NothingLeft")
        self.past.append(self.definitions)
        self.use(self.future.pop())

    def set_limit(self, value):
        if type(value) is not int or not 1 <= value <= 12 or value < len(self.definitions):
            raise Refused("InvalidLimit", limit=value)
        self.limit = value

    def boxes(self, one, other, looks):
        for name in (one, other):
            known(self.definitions, name)
        first, second = scan_of(self.definitions, one), scan_of(self.definitions, other)
        try:
            found = unlike_boxes(first, second, looks)
        except ValueError as error:
            raise Refused(**vars(error)) from None
        if (one, other, tuple(looks)) not in [key[:3] for key in self.kept]:
            self.kept.append((one, other, tuple(looks), first, second))
            self.computed += 1
        return found


def random_command(source, definitions):
    """A command that may be good: names that exist or not, values that fit or not."""
    names = [one[1] for one in definitions] or ["a"]
    some = [source.choice(names + ["a", "b", "c", "zz"]) for _ in range(3)]
    new = source.choice(["a", "b", "c", "d", "e", "f", "g", "abcdefgh", "then", "scan", *names])
    new = source.choice([new] * 12 + ["", "A", "abcdefghi", "a1"])
    directions = source.choice([1, 2, 2, 2])
    divisors = source.choice([(1,), (2,), (3,)] if directions == 1 else [(1, 1), (2, 1), (1, 2), (2, 2), (1, 3)])
    given = (source.choice([divisors] * 9 + [(0,)]), source.choice([random_tree(source, divisors, 2)] * 9 + [("place",)]))
    return source.choice([
        ("scan", new, *given), ("scan", new, *given), ("scan", new, *given), ("turned", new, some[0]),
        ("then", new, some[0], some[1]), ("then", new, some[0], some[1]),
        ("shifted", new, some[0], tuple(source.randint(-2, 2) for _ in range(directions))),
        ("slanted", new, some[0], random_matrix(source, directions)),
        ("blocks", new, some[0], tuple(source.randint(1, 2) for _ in range(directions))),
        ("change", some[0], *given), ("change", some[0], *given), ("change", some[0], *given),
        ("rename", some[0], new), ("drop", some[0]),
        source.choice([(), ("what", "a"), ("drop",), ("drop", "a", "b"), ("turned", new), ("", "a", "b"), ("rename", "a")]),
    ])
