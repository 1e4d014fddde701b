"""Forms of texts: how the parts of a text are written and read.

A form is a tuple of parts. Each part is the sign `:` or the name of a kind of value, and has
words of its own. Readers are passed all words and the index of their first one, and return their
value and the index behind their last one. They raise ParseError(0) if the words do not fit.
"""

from lookscan.errors import ParseError
from lookscan.scans import Scan
from lookscan.trees import PLACES

MAX_DIGITS = 30
DIGITS = "0123456789"
SCAN_FORM = ("numbers", ":", "tree")
TABLE_FORM = ("numbers", ":", "tuples", ":", "words")


def number_text(number):
    """Return the text of a number, in pieces because Python does not write very long ones at once."""
    digits = ""
    left = abs(number)
    while left >= 10 ** 64:
        left, low = divmod(left, 10 ** 64)
        digits = str(low).zfill(64) + digits
    sign = "-" if number < 0 else ""
    return sign + str(left) + digits


def numbers_text(numbers):
    """Return the text of a tuple of numbers."""
    return " ".join([number_text(number) for number in numbers])


def tuples_text(tuples):
    """Return the text of a list of tuples of numbers."""
    return " , ".join([numbers_text(numbers) for numbers in tuples])


def tree_text(tree):
    """Return the text of a tree."""
    if tree[0] == "places":
        return "places"
    if tree[0] == "key":
        return f"key {numbers_text(tree[1])} / {numbers_text(tree[2])} > {tree_text(tree[3])}"
    groups = [f"( {numbers_text(classes)} : {tree_text(inner)} )" for classes, inner in tree[1]]
    return " ".join(["fork"] + groups)


def words_text(words):
    """Return the text of a list of words."""
    return " ".join(words)


def name_text(name):
    """Return the text of a name, which is the name itself."""
    return name


def is_numeral(word):
    """Tell whether a word is the text of a number with few enough digits."""
    digits = word[1:] if word.startswith("-") else word
    if not 1 <= len(digits) <= MAX_DIGITS or not all([digit in DIGITS for digit in digits]):
        return False
    return digits[0] != "0" or word == "0"


def read_sign(words, at, sign):
    """Return the index behind a sign."""
    if words[at:at + 1] != [sign]:
        raise ParseError(0)
    return at + 1


def read_numbers(words, at):
    """Read a tuple of one or more numbers."""
    end = at
    while end < len(words) and is_numeral(words[end]):
        end += 1
    if end == at:
        raise ParseError(0)
    return tuple([int(word) for word in words[at:end]]), end


def read_tuples(words, at):
    """Read a tuple of one or more tuples of numbers."""
    numbers, at = read_numbers(words, at)
    found = [numbers]
    while words[at:at + 1] == [","]:
        numbers, at = read_numbers(words, at + 1)
        found.append(numbers)
    return tuple(found), at


def read_key(words, at, depth):
    """Read what stands behind the word of a key."""
    row, at = read_numbers(words, at)
    heights, at = read_numbers(words, read_sign(words, at, "/"))
    inner, at = read_node(words, read_sign(words, at, ">"), depth + 1)
    return ("key", row, heights, inner), at


def read_fork(words, at, depth):
    """Read what stands behind the word of a fork."""
    groups = []
    while words[at:at + 1] == ["("]:
        classes, at = read_numbers(words, at + 1)
        inner, at = read_node(words, read_sign(words, at, ":"), depth + 1)
        at = read_sign(words, at, ")")
        groups.append((classes, inner))
    if len(groups) == 0:
        raise ParseError(0)
    return ("fork", tuple(groups)), at


def read_node(words, at, depth):
    """Read a tree that lies inside of as many nodes as make this depth."""
    if depth > Scan.MAX_DEPTH:
        raise ParseError(0)
    first = words[at:at + 1]
    if first == ["places"]:
        return PLACES, at + 1
    if first == ["key"]:
        return read_key(words, at + 1, depth)
    if first == ["fork"]:
        return read_fork(words, at + 1, depth)
    raise ParseError(0)


def read_tree(words, at):
    """Read a whole tree."""
    return read_node(words, at, 1)


def read_words(words, at):
    """Read one or more words up to the last one, none of them `:`."""
    found = words[at:]
    if len(found) == 0 or ":" in found:
        raise ParseError(0)
    return found, len(words)


def read_rest(words, at):
    """Read the text of one or more words of any kind, up to the last one."""
    if at == len(words):
        raise ParseError(0)
    return words_text(words[at:]), len(words)


def read_name(words, at):
    """Read any word other than `:` as a name."""
    if at == len(words) or words[at] == ":":
        raise ParseError(0)
    return words[at], at + 1


READERS = {
    "name": read_name,
    "numbers": read_numbers,
    "tuples": read_tuples,
    "tree": read_tree,
    "words": read_words,
    "rest": read_rest,
}
WRITERS = {
    "name": name_text,
    "numbers": numbers_text,
    "tuples": tuples_text,
    "tree": tree_text,
    "words": words_text,
}


def read_values(words, form):
    """Return the list of the values of a form; raise ParseError(0) if the words are not of this form."""
    if "" in words:
        raise ParseError(0)
    values = []
    at = 0
    for part in form:
        if part == ":":
            at = read_sign(words, at, part)
        else:
            reader = READERS[part]
            value, at = reader(words, at)
            values.append(value)
    if at != len(words):
        raise ParseError(0)
    return values


def values_text(values, form):
    """Return the text of values in a form."""
    texts = []
    at = 0
    for part in form:
        if part == ":":
            texts.append(part)
        else:
            writer = WRITERS[part]
            texts.append(writer(values[at]))
            at += 1
    return " ".join(texts)
