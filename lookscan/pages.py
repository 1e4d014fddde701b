"""The text of a studio, and studios of such texts."""

from lookscan.errors import Missing, ParseError, ScanError
from lookscan.forms import read_values, values_text
from lookscan.studio import Studio

# What stands behind the first word of a line, for each definition.
DEFINITION_FORMS = {
    "scan": ("name", "numbers", ":", "tree"),
    "turned": ("name", "name"),
    "then": ("name", "name", "name"),
    "shifted": ("name", "name", "numbers"),
    "slanted": ("name", "name", "tuples"),
    "blocks": ("name", "name", "numbers"),
}


def definition_text(definition):
    """Return the line of a definition, without its line feed."""
    return definition[0] + " " + values_text(definition[1:], DEFINITION_FORMS[definition[0]])


def parse_definition(line):
    """Return the definition of a line; raise ParseError(0) if the line is not of the form."""
    first, *words = line.split(" ")
    if first not in DEFINITION_FORMS:
        raise ParseError(0)
    values = read_values(words, DEFINITION_FORMS[first])
    return (first, *values)


def write_studio(studio):
    """Return the text of a studio."""
    return "".join([definition_text(studio.definition(name)) + "\n" for name in studio.names()])


def read_studio(text):
    """Return the studio with a text, without steps and kept comparisons."""
    *lines, behind = text.split("\n")
    studio = Studio()
    for index, line in enumerate(lines):
        try:
            studio.apply(parse_definition(line))
        except (ScanError, Missing):
            raise ParseError(index) from None
    if behind != "":
        raise ParseError(len(lines))
    studio.forget_steps()
    return studio
