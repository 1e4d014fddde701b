"""Definitions of named scans, and what commands make of them.

Rows are a dict from each name to the pair of its definition and its scan, in the order of the
definitions. A definition is the command that would add the scan; it uses only names above it.
Rows are never changed: a command leads to new ones, so old ones can be kept.
"""

from lookscan.errors import Broken, CapacityExceeded, DuplicateName, InUse, InvalidCommand, InvalidName, NotGiven
from lookscan.errors import ScanError, UnknownName
from lookscan.makers import blocks_scan
from lookscan.scans import Scan

MAX_NAME = 8
# How many items a command has.
SIZES = {
    "scan": 4,
    "turned": 3,
    "then": 4,
    "shifted": 4,
    "slanted": 4,
    "blocks": 4,
    "change": 4,
    "rename": 3,
    "drop": 2,
}


def check_command(command):
    """Raise InvalidCommand for a tuple without a known first item, or with another number of items."""
    first = command[0] if len(command) > 0 else None
    if first not in SIZES or len(command) != SIZES[first]:
        raise InvalidCommand(first)


def check_new_name(rows, name):
    """Raise the errors for a name that cannot be given."""
    if not 1 <= len(name) <= MAX_NAME or not all(["a" <= letter <= "z" for letter in name]):
        raise InvalidName(name)
    if name in rows:
        raise DuplicateName(name)


def check_known(rows, name):
    """Raise UnknownName for a name that does not exist."""
    if name not in rows:
        raise UnknownName(name)


def used_names(definition):
    """Return the names that a definition uses, in their order."""
    if definition[0] == "scan":
        return []
    if definition[0] == "then":
        return [definition[2], definition[3]]
    return [definition[2]]


def users_of(rows, name):
    """Return the ascending list of the names whose definitions use a name."""
    return sorted([user for user, (definition, scan) in rows.items() if name in used_names(definition)])


def made_scan(definition, rows):
    """Return the scan of a definition, made of the scans in the rows."""
    kind = definition[0]
    if kind == "scan":
        return Scan(definition[2], definition[3])
    source = rows[definition[2]][1]
    if kind == "turned":
        return source.turned()
    if kind == "then":
        return source.then(rows[definition[3]][1])
    if kind == "shifted":
        return source.shifted(definition[3])
    if kind == "slanted":
        return source.slanted(definition[3])
    return blocks_scan(definition[3], inner=source)


def added_rows(rows, definition, limit):
    """Return the rows with a definition behind them."""
    name = definition[1]
    check_new_name(rows, name)
    if len(rows) >= limit:
        raise CapacityExceeded(limit)
    for used in used_names(definition):
        check_known(rows, used)
    found = dict(rows)
    found[name] = (definition, made_scan(definition, rows))
    return found


def changed_rows(rows, name, divisors, tree):
    """Return the rows with another scan under a name, and with all scans that use it made anew."""
    check_known(rows, name)
    if rows[name][0][0] != "scan":
        raise NotGiven(name)
    given = ("scan", name, divisors, tree)
    changed = {name: (given, made_scan(given, rows))}
    found = {}
    for other, row in rows.items():
        if any([used in changed for used in used_names(row[0])]):
            changed[other] = (row[0], remade_scan(row[0], found))
        found[other] = changed[other] if other in changed else row
    return found


def remade_scan(definition, rows):
    """Return the scan of a definition that has had one; raise Broken if it can no longer be made."""
    try:
        return made_scan(definition, rows)
    except ScanError:
        raise Broken(definition[1]) from None


def renamed_rows(rows, name, new):
    """Return the rows with another name instead of one, also in the definitions that use it."""
    check_known(rows, name)
    check_new_name(rows, new)
    found = {}
    for old, (definition, scan) in rows.items():
        # The first item is the kind of the definition, which may be the same word.
        items = [new if item == name else item for item in definition[1:]]
        found[new if old == name else old] = ((definition[0], *items), scan)
    return found


def dropped_rows(rows, name):
    """Return the rows without a name."""
    check_known(rows, name)
    users = users_of(rows, name)
    if len(users) > 0:
        raise InUse(users[0])
    return {other: row for other, row in rows.items() if other != name}


def applied(rows, command, limit):
    """Return the rows to which a command leads."""
    if command[0] == "change":
        return changed_rows(rows, command[1], command[2], command[3])
    if command[0] == "rename":
        return renamed_rows(rows, command[1], command[2])
    if command[0] == "drop":
        return dropped_rows(rows, command[1])
    return added_rows(rows, command, limit)
