"""Studios: named scans that are made of one another, with history and kept comparisons."""

from lookscan.alike import is_as_wide, unlike_boxes
from lookscan.definitions import applied, check_command, check_known, users_of
from lookscan.errors import InvalidLimit, NothingLeft, Unlike
from lookscan.looks import checked_looks
from lookscan.places import check_box, is_number


class Studio:
    """Scans by names, each with its definition."""

    MOST = 12

    def __init__(self, *, limit=12):
        self.rows = {}
        # The rows before each step that can be undone, and behind each one that can be redone.
        self.past = []
        self.future = []
        # For two names and some looks: both scans when they were compared, and their least boxes.
        self.comparisons = {}
        self.comparison_total = 0
        self.is_busy = False
        self.set_limit(limit)

    @property
    def limit(self):
        return self.own_limit

    @limit.setter
    def limit(self, value):
        self.set_limit(value)

    def set_limit(self, value):
        """Set the greatest number of names."""
        if not is_number(value) or not 1 <= value <= Studio.MOST or value < len(self.rows):
            raise InvalidLimit(value)
        self.own_limit = value

    @property
    def busy(self):
        return self.is_busy

    def apply(self, command):
        """Apply a command as one step."""
        self.apply_all(command)

    def apply_all(self, *commands):
        """Apply any number of commands as one step, all of them or none."""
        for command in commands:
            check_command(command)
        self.is_busy = True
        try:
            rows = self.rows
            for command in commands:
                rows = applied(rows, command, self.own_limit)
            self.past.append(self.rows)
            self.future = []
            self.use_rows(rows)
        finally:
            self.is_busy = False

    def undo(self):
        """Undo the last step."""
        if len(self.past) == 0:
            raise NothingLeft()
        self.future.append(self.rows)
        self.use_rows(self.past.pop())

    def redo(self):
        """Redo the step that was undone last."""
        if len(self.future) == 0:
            raise NothingLeft()
        self.past.append(self.rows)
        self.use_rows(self.future.pop())

    def history(self):
        """Return how many steps can be undone, and how many can be redone."""
        return len(self.past), len(self.future)

    def forget_steps(self):
        """Let no step be undone or redone."""
        self.past = []
        self.future = []

    def use_rows(self, rows):
        """Go over to other rows, and keep only the comparisons that hold for them."""
        self.rows = rows
        current = [key for key in self.comparisons if self.is_current(key)]
        self.comparisons = {key: self.comparisons[key] for key in current}

    def is_current(self, key):
        """Tell whether the names of a comparison still have the scans for which it was made."""
        one, other, looks = key
        if one not in self.rows or other not in self.rows:
            return False
        first, second, least = self.comparisons[key]
        return self.rows[one][1] == first and self.rows[other][1] == second

    def names(self):
        """Return the names in the order of the definitions."""
        return list(self.rows)

    def get(self, name):
        """Return the scan with a name."""
        check_known(self.rows, name)
        return self.rows[name][1]

    def definition(self, name):
        """Return the command that would add the scan as it is now."""
        check_known(self.rows, name)
        return self.rows[name][0]

    def users(self, name):
        """Return the ascending list of the names whose definitions use a name."""
        check_known(self.rows, name)
        return users_of(self.rows, name)

    def comparison_key(self, one, other, looks):
        """Return what a comparison is kept by; raise the errors for what cannot be compared."""
        directions = self.get(one).directions
        if self.get(other).directions != directions:
            raise Unlike()
        return one, other, checked_looks(looks, directions)

    def least_boxes(self, key):
        """Return the least boxes of a comparison, which is made if it is not kept."""
        if key not in self.comparisons:
            one, other, looks = key
            first = self.get(one)
            second = self.get(other)
            self.comparisons[key] = (first, second, tuple(unlike_boxes(first, second, looks)))
            self.comparison_total += 1
        return list(self.comparisons[key][2])

    def boxes(self, one, other, looks):
        """Return the least boxes in which two scans differ."""
        return self.least_boxes(self.comparison_key(one, other, looks))

    def alike(self, one, other, looks, *, box=None):
        """Return whether two scans fill a box alike, or all boxes."""
        key = self.comparison_key(one, other, looks)
        if box is None:
            return len(self.least_boxes(key)) == 0
        check_box(box, self.get(one).directions)
        return not any([is_as_wide(box, least) for least in self.least_boxes(key)])

    def kept(self):
        """Return the ascending list of the kept comparisons, each with its names and looks."""
        return sorted(list(self.comparisons))

    @property
    def computed(self):
        return self.comparison_total

    def twin(self):
        """Return an independent studio in the same state."""
        other = Studio()
        other.rows = self.rows
        other.past = list(self.past)
        other.future = list(self.future)
        other.comparisons = {key: self.comparisons[key] for key in self.comparisons}
        other.comparison_total = self.comparison_total
        other.own_limit = self.own_limit
        return other

    def __eq__(self, other):
        if not isinstance(other, Studio):
            return False
        return [row[0] for row in self.rows.values()] == [row[0] for row in other.rows.values()]

    def __len__(self):
        return len(self.rows)

    def __contains__(self, name):
        return name in self.rows

    def __repr__(self):
        return f"Studio({len(self.rows)} scans)"
