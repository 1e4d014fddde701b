"""Counts by which columns of numbers balance, or weights which show that there are none.

This is the first phase of the simplex method, over integers: all numbers of a sheet stand for
their quotients by its scale, and each pivot divides by the scale before without a rest. So each
number is a determinant of some columns, and no longer than these are.
"""

from lookscan.arithmetic import greatest_divisor


def reduced(line, pivot_line, column, scale):
    """Return a line, less as much of the pivot line as makes the column 0, by the new scale."""
    pivot = pivot_line[column]
    factor = line[column]
    if factor == 0 and pivot == scale:
        return line
    return [(number * pivot - other * factor) // scale for number, other in zip(line, pivot_line)]


class Sheet:
    """Equations for counts from 0 on, each with a helper that takes up what is still wanting.

    A line has the numbers of the columns, those of the helpers, and the sum that the counts must
    have. The costs are a further line: what a count at a column would add to all that is wanting,
    and the negative of all that is wanting. The owner of a line is the column or the helper whose
    count the line tells; all other counts are 0.
    """

    def __init__(self, equations):
        height = len(equations)
        self.width = len(equations[0]) - 1
        self.signs = [-1 if equation[-1] < 0 else 1 for equation in equations]
        self.lines = []
        for at, equation in enumerate(equations):
            numbers = [self.signs[at] * number for number in equation]
            helpers = [0] * at + [1] + [0] * (height - at - 1)
            self.lines.append(numbers[:-1] + helpers + numbers[-1:])
        self.owners = list(range(self.width, self.width + height))
        wanting = [-sum(numbers) for numbers in zip(*self.lines)]
        self.costs = wanting[:self.width] + [0] * height + wanting[-1:]
        self.scale = 1

    def is_balanced(self):
        """Tell whether nothing is wanting."""
        return self.costs[-1] == 0

    def settle(self):
        """Change the counts until nothing is wanting, or no column can help.

        Always taking the first column, and of equally tight lines the one with the first owner,
        never leads back to the same owners (Bland's rule).
        """
        helping = self.helping_columns()
        while len(helping) > 0 and not self.is_balanced():
            column = helping[0]
            self.pivot(self.tightest_line(column), column)
            helping = self.helping_columns()

    def helping_columns(self):
        """Return the columns at which a count makes less wanting."""
        return [column for column in range(self.width) if self.costs[column] < 0]

    def tightest_line(self, column):
        """Return the line whose own count is the first to reach 0 when the count at a column grows."""
        found = None
        for at, line in enumerate(self.lines):
            if line[column] > 0 and (found is None or self.is_tighter(at, found, column)):
                found = at
        return found

    def is_tighter(self, at, other, column):
        """Tell whether a line allows less growth at a column than another one."""
        mine = self.lines[at][-1] * self.lines[other][column]
        yours = self.lines[other][-1] * self.lines[at][column]
        return (mine, self.owners[at]) < (yours, self.owners[other])

    def pivot(self, at, column):
        """Let a column own a line."""
        pivot_line = self.lines[at]
        lines = [reduced(line, pivot_line, column, self.scale) for line in self.lines]
        lines[at] = pivot_line
        self.lines = lines
        self.costs = reduced(self.costs, pivot_line, column, self.scale)
        self.owners[at] = column
        self.scale = pivot_line[column]

    def column_counts(self):
        """Return the counts of the columns, times the scale."""
        found = [0] * self.width
        for owner, line in zip(self.owners, self.lines):
            if owner < self.width:
                found[owner] = line[-1]
        return found

    def line_weights(self):
        """Return weights of the equations, times the scale, by which no column is below 0 but the sums are."""
        costs = self.costs[self.width:-1]
        return [sign * (cost - self.scale) for sign, cost in zip(self.signs, costs)]


def shortened(numbers):
    """Return the numbers, not all of them 0, without their common divisor."""
    divisor = 0
    for number in numbers:
        divisor = greatest_divisor(divisor, number)
    return tuple([number // divisor for number in numbers])


def balance(columns, needed):
    """Return counts for columns, and None, if there are such counts; otherwise None and weights.

    The counts are from 0 on, and above 0 for the columns that are needed. Each column as often
    as its count says, all together, is 0 in each line. The weights are numbers for the lines by
    which no column has a sum of products below 0, and some needed column has one above 0.
    """
    equations = []
    for at in range(len(columns[0])):
        numbers = [column[at] for column in columns]
        once = sum([number for number, need in zip(numbers, needed) if need])
        equations.append(numbers + [-once])
    sheet = Sheet(equations)
    sheet.settle()
    if not sheet.is_balanced():
        return None, shortened(sheet.line_weights())
    counts = [count + sheet.scale if need else count for count, need in zip(sheet.column_counts(), needed)]
    return counts, None
