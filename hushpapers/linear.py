"""Linear rows modulo a prime q: reduced form, rank, kernel and solutions."""

from hushpapers.residues import inverse


def _minus_multiple(q, row, times, lead):
    """Return the row minus `times` times the leading row."""
    if times == 0:
        return row
    return [(entry - times * other) % q for entry, other in zip(row, lead)]


def _row_with(grid, top, column):
    """Return the place of the first row from `top` on that is not 0 in the column."""
    for at in range(top, len(grid)):
        if grid[at][column] != 0:
            return at
    return None


def _with_lead(q, grid, top, at, column):
    """Return the grid with row `at` moved to `top`, leading alone in the column."""
    scale = inverse(grid[at][column], q)
    lead = [entry * scale % q for entry in grid[at]]
    others = [*grid[:at], *grid[at + 1:]]
    cleared = [_minus_multiple(q, row, row[column], lead) for row in others]
    return [*cleared[:top], lead, *cleared[top:]]


def reduced(q, width, rows):
    """Return the rows of the reduced form."""
    grid = [[entry % q for entry in row] for row in rows]
    top = 0
    for column in range(width):
        at = _row_with(grid, top, column)
        if at is not None:
            grid = _with_lead(q, grid, top, at, column)
            top += 1
    return tuple([tuple(row) for row in grid[:top]])


def rank(q, width, rows):
    """Return the number of rows of the reduced form."""
    return len(reduced(q, width, rows))


def _kernel_row(q, width, form, free):
    """Return the solution for targets 0 that is 1 in one free column, 0 in the others."""
    solution = [0] * width
    solution[free] = 1
    for row in form:
        # A leading entry is the first 1 of its row.
        solution[row.index(1)] = -row[free] % q
    return tuple(solution)


def kernel(q, width, rows):
    """Return the solutions for targets 0, one for each free column."""
    form = reduced(q, width, rows)
    leads = [row.index(1) for row in form]
    return tuple([_kernel_row(q, width, form, free) for free in range(width) if free not in leads])


def solve(q, width, rows, targets):
    """Return the solution that is 0 in all free columns, or None."""
    extended = [(*row, target) for row, target in zip(rows, targets)]
    solution = [0] * width
    for row in reduced(q, width + 1, extended):
        lead = row.index(1)
        if lead == width:
            return None
        solution[lead] = row[width]
    return tuple(solution)


def is_fixed(q, width, rows, form):
    """Tell whether the values of the rows determine the value of the form."""
    return rank(q, width, (*rows, form)) == rank(q, width, rows)
