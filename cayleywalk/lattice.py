"""Matrices of integers, their diagonal forms and determinants."""

from cayleywalk.errors import BadMatrix

MOST_ROWS = 8
MOST_COLUMNS = 4
LARGEST_ENTRY = 1000


def check_matrix(rows, columns):
    """Raise BadMatrix unless the list is a matrix with so many columns."""
    if columns < 1 or columns > MOST_COLUMNS or len(rows) > MOST_ROWS:
        raise BadMatrix("a matrix has at most 8 rows, and from 1 to 4 columns")
    if not has_shape(rows, len(rows), columns):
        raise BadMatrix("each row has as many entries as there are columns")
    if any([abs(entry) > LARGEST_ENTRY for row in rows for entry in row]):
        raise BadMatrix("an entry is from -1000 to 1000")


def has_shape(rows, height, width):
    """Return True if there are so many rows, and so many entries in each."""
    return len(rows) == height and all([len(row) == width for row in rows])


def divides(one, other):
    """Return True if the first integer divides the second one; 0 divides only 0."""
    if one == 0:
        return other == 0
    return other % one == 0


def row_times(row, matrix, columns):
    """Return the product of a row and a matrix with so many columns."""
    return [sum([entry * matrix[k][at] for k, entry in enumerate(row)]) for at in range(columns)]


def _times(rows, matrix, columns):
    return [row_times(row, matrix, columns) for row in rows]


def _unit_matrix(size):
    return [[1 if row == at else 0 for at in range(size)] for row in range(size)]


def diagonal_form(rows, columns):
    """Return a diagonal form of a matrix, a tuple of three matrices."""
    check_matrix(rows, columns)
    left = _unit_matrix(len(rows))
    diagonal = [list(row) for row in rows]
    right = _unit_matrix(columns)
    for at in range(min(len(rows), columns)):
        _settle(left, diagonal, right, at)
    return (left, diagonal, right)


def _settle(left, diagonal, right, at):
    """Make the entry of the diagonal at a place the divisor of all entries from there on."""
    while _bring_least(left, diagonal, right, at):
        _lessen_rows(left, diagonal, at)
        _lessen_columns(diagonal, right, at)
        if _is_cleared(diagonal, at):
            bad = _row_not_divided(diagonal, at)
            if bad is None:
                _make_positive(left, diagonal, at)
                return
            # With this row added, the next round finds a lesser entry.
            _add_row(left, at, bad, 1)
            _add_row(diagonal, at, bad, 1)


def _bring_least(left, diagonal, right, at):
    """Bring the least entry that is not 0 to the diagonal; return False if all are 0."""
    best = None
    for row in range(at, len(diagonal)):
        for column in range(at, len(right)):
            size = abs(diagonal[row][column])
            if size != 0 and (best is None or size < best[0]):
                best = (size, row, column)
    if best is None:
        return False
    _swap_rows(left, at, best[1])
    _swap_rows(diagonal, at, best[1])
    _swap_columns(diagonal, at, best[2])
    _swap_columns(right, at, best[2])
    return True


def _lessen_rows(left, diagonal, at):
    """Leave remainders below the entry of the diagonal."""
    for row in range(at + 1, len(diagonal)):
        factor = -(diagonal[row][at] // diagonal[at][at])
        _add_row(left, row, at, factor)
        _add_row(diagonal, row, at, factor)


def _lessen_columns(diagonal, right, at):
    """Leave remainders beside the entry of the diagonal."""
    for column in range(at + 1, len(right)):
        factor = -(diagonal[at][column] // diagonal[at][at])
        _add_column(diagonal, column, at, factor)
        _add_column(right, column, at, factor)


def _is_cleared(diagonal, at):
    """Return True if all entries below and beside the entry of the diagonal are 0."""
    below = [row[at] for row in diagonal[at + 1:]]
    return not any(below) and not any(diagonal[at][at + 1:])


def _row_not_divided(diagonal, at):
    """Return a row with an entry that the entry of the diagonal does not divide, or None."""
    for row in range(at + 1, len(diagonal)):
        if not all([divides(diagonal[at][at], entry) for entry in diagonal[row][at + 1:]]):
            return row
    return None


def _make_positive(left, diagonal, at):
    if diagonal[at][at] < 0:
        left[at] = [-entry for entry in left[at]]
        diagonal[at] = [-entry for entry in diagonal[at]]


def _add_row(matrix, row, other, factor):
    matrix[row] = [entry + factor * more for entry, more in zip(matrix[row], matrix[other])]


def _add_column(matrix, column, other, factor):
    for row in range(len(matrix)):
        matrix[row][column] += factor * matrix[row][other]


def _swap_rows(matrix, row, other):
    matrix[row], matrix[other] = matrix[other], matrix[row]


def _swap_columns(matrix, column, other):
    for row in range(len(matrix)):
        matrix[row][column], matrix[row][other] = matrix[row][other], matrix[row][column]


def is_diagonal_form(rows, columns, left, diagonal, right):
    """Return True if three lists of lists are a diagonal form of the matrix."""
    check_matrix(rows, columns)
    height = len(rows)
    if not (has_shape(left, height, height) and has_shape(diagonal, height, columns)):
        return False
    if not has_shape(right, columns, columns):
        return False
    if abs(determinant(left)) != 1 or abs(determinant(right)) != 1:
        return False
    if _times(_times(left, rows, columns), right, columns) != diagonal:
        return False
    return _is_diagonal(diagonal)


def _is_diagonal(matrix):
    """Return True if a matrix has the form that is demanded of D."""
    for at, row in enumerate(matrix):
        if any(row[:at]) or any(row[at + 1:]):
            return False
    entries = [row[at] for at, row in enumerate(matrix) if at < len(row)]
    return all([_may_follow(entries, at) for at in range(len(entries))])


def _may_follow(entries, at):
    """Return True if an entry of the diagonal is not negative, and the one before divides it."""
    return entries[at] >= 0 and (at == 0 or divides(entries[at - 1], entries[at]))


def determinant(rows):
    """Return the determinant of a matrix with as many rows as columns, at most 8."""
    if len(rows) > MOST_ROWS or not has_shape(rows, len(rows), len(rows)):
        raise BadMatrix("this matrix has no determinant here")
    work = [list(row) for row in rows]
    sign = 1
    before = 1
    for at in range(len(work)):
        found = _row_with_entry(work, at)
        if found is None:
            return 0
        if found != at:
            _swap_rows(work, at, found)
            sign = -sign
        _eliminate(work, at, before)
        before = work[at][at]
    return sign * before


def _row_with_entry(work, at):
    """Return the first row from a place on with an entry other than 0 there, or None."""
    for row in range(at, len(work)):
        if work[row][at] != 0:
            return row
    return None


def _eliminate(work, at, before):
    # All entries stay determinants of parts of the matrix, so the divisions
    # by the entry of the step before leave no remainder.
    for row in range(at + 1, len(work)):
        for column in range(at + 1, len(work)):
            cross = work[row][column] * work[at][at] - work[row][at] * work[at][column]
            work[row][column] = cross // before
