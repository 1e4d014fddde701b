"""A console that runs lines of text on a studio."""

from lookscan.alike import unlike_boxes
from lookscan.errors import Missing, NothingLeft, ParseError, ScanError
from lookscan.forms import read_values, tuples_text, words_text
from lookscan.looks import checked_looks, words_by
from lookscan.pages import DEFINITION_FORMS
from lookscan.solving import solve
from lookscan.studio import Studio
from lookscan.tongue import format_ring, format_scan, parse_table
from lookscan.waves import wave_count

# What stands behind the first word of a line, apart from definitions.
LINE_FORMS = {
    "change": ("name", "numbers", ":", "tree"),
    "rename": ("name", "name"),
    "drop": ("name",),
    "undo": (),
    "redo": (),
    "names": (),
    "show": ("name",),
    "before": ("name", ":", "numbers", ":", "numbers"),
    "alike": ("name", "name", ":", "tuples"),
    "table": ("name", ":", "tuples"),
    "waves": ("name", ":", "tuples", ":", "numbers"),
    "solve": ("rest",),
}


def run_undo(studio):
    """Undo the last step."""
    studio.undo()
    return "ok"


def run_redo(studio):
    """Redo the step that was undone last."""
    studio.redo()
    return "ok"


def answer_names(studio):
    """Answer with all names."""
    return words_text(studio.names()) if len(studio) > 0 else "none"


def answer_show(studio, name):
    """Answer with the text of a scan."""
    return format_scan(studio.get(name))


def answer_before(studio, name, one, other):
    """Answer whether a place comes before another one."""
    scan = studio.get(name)
    return "yes" if scan(one, other) else "no"


def answer_alike(studio, one, other, looks):
    """Answer with the least boxes in which two scans differ; the studio stays as it is."""
    least = unlike_boxes(studio.get(one), studio.get(other), looks)
    return tuples_text(least) if len(least) > 0 else "always"


def answer_table(studio, name, looks):
    """Answer with the words of the table of a scan."""
    scan = studio.get(name)
    return words_text(words_by(scan, scan.divisors, checked_looks(looks, scan.directions)))


def answer_waves(studio, name, looks, box):
    """Answer with the number of waves."""
    return str(wave_count(studio.get(name), looks, box))


def answer_solve(studio, text):
    """Answer with a scan or a ring for the table with a text."""
    kind, found = solve(parse_table(text))
    shown = format_ring(found) if kind == "ring" else format_scan(found)
    return kind + " " + shown


ACTIONS = {
    "undo": run_undo,
    "redo": run_redo,
    "names": answer_names,
    "show": answer_show,
    "before": answer_before,
    "alike": answer_alike,
    "table": answer_table,
    "waves": answer_waves,
    "solve": answer_solve,
}


def form_of(first):
    """Return the form of the lines with this first word; raise ParseError(0) if there are none."""
    if first in DEFINITION_FORMS:
        return DEFINITION_FORMS[first]
    if first in LINE_FORMS:
        return LINE_FORMS[first]
    raise ParseError(0)


def carry_out(studio, first, values):
    """Run a line with this first word and return its answer."""
    if first in ACTIONS:
        action = ACTIONS[first]
        return action(studio, *values)
    studio.apply((first, *values))
    return "ok"


class Console:
    """A console that runs lines on a studio and remembers them."""

    def __init__(self, *, studio=None):
        self.own_studio = Studio() if studio is None else studio
        self.ran = []

    def answered(self, line):
        """Run a line and return its answer."""
        first, *words = line.split(" ")
        try:
            values = read_values(words, form_of(first))
        except ParseError:
            return "invalid"
        try:
            return carry_out(self.own_studio, first, values)
        except (ScanError, Missing, NothingLeft) as error:
            return f"error {error.tag}"

    def run(self, line):
        """Run a line, remember it, and return its answer."""
        answer = self.answered(line)
        self.ran.append((line, answer))
        return answer

    def __call__(self, line):
        return self.run(line)

    def studio(self):
        """Return the very studio."""
        return self.own_studio

    def log(self):
        """Return the list of the pairs of all lines and their answers."""
        return list(self.ran)

    def __len__(self):
        return len(self.ran)
