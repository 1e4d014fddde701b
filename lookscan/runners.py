"""Runners: boxes that are filled step by step, forth and back."""

from lookscan.errors import InvalidCount, NothingLeft
from lookscan.fills import Board
from lookscan.places import are_numbers, is_number
from lookscan.waves import waves


class Runner:
    """A box that is filled cell by cell in the order of a scan."""

    def __init__(self, scan, looks, box, rule, begun):
        self.board = Board(scan, looks, box, rule, begun)
        self.plan = [[cell] for cell in scan.order(box)]
        # For each step that is taken, the values that its cells had before.
        self.replaced = []
        self.scan = scan
        self.box = box
        self.begun = tuple(begun)

    def step(self):
        """Take the next step and return its cells."""
        if len(self.replaced) == len(self.plan):
            raise NothingLeft()
        chosen = self.plan[len(self.replaced)]
        self.replaced.append(self.board.fill_at_once(chosen))
        return list(chosen)

    def back(self):
        """Take the last step back and return its cells."""
        if len(self.replaced) == 0:
            raise NothingLeft()
        values = self.replaced.pop()
        chosen = self.plan[len(self.replaced)]
        self.board.put(chosen, values)
        return list(chosen)

    @property
    def position(self):
        return len(self.replaced)

    @position.setter
    def position(self, value):
        self.move_to(value)

    def move_to(self, count):
        """Take steps, or take them back, until so many are taken."""
        if not is_number(count) or not 0 <= count <= len(self.plan):
            raise InvalidCount(count)
        while len(self.replaced) < count:
            self.step()
        while len(self.replaced) > count:
            self.back()

    def all_values(self):
        """Return the values of all cells now, in ascending order of the cells."""
        return self.board.listed()

    def value(self, cell):
        """Return the value of a cell now, or the edge for a place that is not in the box."""
        return self.board.standing(cell)

    def remaining(self):
        """Yield the cells that are not filled yet, in the order of the plan."""
        for chosen in self.plan[len(self.replaced):]:
            yield from chosen

    def twin(self):
        """Return an independent runner at the same position."""
        other = Runner(self.scan, self.board.own_looks, self.box, self.board.rule, self.begun)
        other.move_to(len(self.replaced))
        return other

    def __len__(self):
        return len(self.plan)

    def __contains__(self, cell):
        return are_numbers(cell, len(self.box)) and cell in self.board.worths


class WaveRunner(Runner):
    """A box that is filled by the waves of a scan."""

    def __init__(self, scan, looks, box, rule, begun):
        super().__init__(scan, looks, box, rule, begun)
        self.plan = waves(scan, looks, box)

    def twin(self):
        """Return an independent runner at the same position."""
        other = WaveRunner(self.scan, self.board.own_looks, self.box, self.board.rule, self.begun)
        other.move_to(len(self.replaced))
        return other
