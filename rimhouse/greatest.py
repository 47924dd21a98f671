"""The greatest value of a sum under bounds, reckoned exactly, in whole numbers alone."""


def swept(cells, lead, column, scale):
    """A row of a board behind an exchange in the leading row, at the column."""
    factor = cells[column]
    pivot = lead[column]
    # Each cell is a determinant of what was handed in, so the division leaves no rest.
    fresh = [(cell * pivot - factor * other) // scale for cell, other in zip(cells, lead)]
    fresh[column] = -factor
    return fresh


class Board:
    """Equations between amounts and what their rows leave of the bounds, solved for some of these.

    Amounts are called by the numbers from 0 on, then come what the rows leave. Those that the board
    is solved for are in, one a row; all others are out, one a column, and count as nought. The
    last column tells what is in, the last row what the goal would lose. All cells are over one scale.
    """

    def __init__(self, goal, rows, bounds):
        self.many = len(goal)
        self.scale = 1
        self.cells = [list(row) + [bound] for row, bound in zip(rows, bounds)]
        self.cells.append([-one for one in goal] + [0])
        self.outs = list(range(self.many))
        self.ins = list(range(self.many, self.many + len(rows)))

    def coming(self):
        """The column that comes in, or None where no one makes the goal greater."""
        columns = [column for column in range(self.many) if self.cells[-1][column] < 0]
        # Always the least number (here and among rows): so no board ever comes again.
        return min(columns, key=lambda column: self.outs[column], default=None)

    def going(self, column):
        """The row that goes out for the column: the first one to come down to nought; None if there is none."""
        best = None
        for row in range(len(self.ins)):
            if self.cells[row][column] > 0 and (best is None or self.is_ahead(row, best, column)):
                best = row
        return best

    def is_ahead(self, row, other, column):
        """Whether a row comes down to nought ahead of another one, or with it and has the lesser number."""
        left = self.cells[row][-1] * self.cells[other][column]
        right = self.cells[other][-1] * self.cells[row][column]
        if left == right:
            return self.ins[row] < self.ins[other]
        return left < right

    def exchange(self, row, column):
        """What is in by the row goes out, and what is out by the column comes in."""
        lead = self.cells[row]
        pivot = lead[column]
        self.cells = [swept(cells, lead, column, self.scale) for cells in self.cells]
        self.cells[row] = lead[:column] + [self.scale] + lead[column + 1:]
        self.scale = pivot
        self.ins[row], self.outs[column] = self.outs[column], self.ins[row]

    def amounts(self):
        """All amounts, over the scale."""
        told = [0] * self.many
        for row, number in enumerate(self.ins):
            if number < self.many:
                told[number] = self.cells[row][-1]
        return told

    def weights(self):
        """What one more of each row's bound would add to the goal, over the scale."""
        told = [0] * len(self.ins)
        for column, number in enumerate(self.outs):
            if number >= self.many:
                told[number - self.many] = self.cells[-1][column]
        return told


def greatest(goal, rows, bounds):
    """The greatest sum of amounts, 0 or above, each multiplied by its number in goal.

    No row, its numbers multiplied by the amounts, may come to more than its bound; bounds are 0 or
    above. Told is a tuple (top, amounts, weights, bottom) of whole numbers and lists of them, all to be
    divided by bottom: the sum, amounts that make it, and a weight of 0 or above for each row, so
    that the bounds come to the same sum at the weights, and the rows to no less than goal. None
    where there is no greatest sum.
    """
    board = Board(goal, rows, bounds)
    column = board.coming()
    while column is not None:
        row = board.going(column)
        if row is None:
            return None
        board.exchange(row, column)
        column = board.coming()
    return (board.cells[-1][-1], board.amounts(), board.weights(), board.scale)
