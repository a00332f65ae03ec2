"""Linear equations, as many as unknowns, solved once for whatever right sides they get later.

An equation is a row of whole numbers: first one for each unknown, then one for each right side.
A row may be multiplied by any number but 0, so no fraction is needed until the end.
"""

from networktime.ratio import common_divisor, scale_of, scaled


def equation_rows(laws):
    """The laws, rows of fractions, as equations: law k has right side k alone."""
    rows = []
    for k, law in enumerate(laws):
        scale = scale_of(law)
        right = [0 for other in laws]
        right[k] = scale
        rows.append(scaled(law, scale) + right)
    return rows


def solve(rows):
    """The equations with the unknown k alone, times a number above 0, in row k.

    None if they do not have just one solution.
    """
    solved = list(rows)
    for k in range(len(solved)):
        pivot = pivot_place(solved, k)
        if pivot is None:
            return None
        lead = solved[pivot]
        solved[pivot] = solved[k]
        solved[k] = lead if lead[k] > 0 else [-x for x in lead]
        for other in range(len(solved)):
            if other != k and solved[other][k] != 0:
                solved[other] = cleared(solved[other], solved[k], k)
    return solved


def pivot_place(rows, k):
    """The first row from k on in which unknown k stands, None if there is none."""
    for place in range(k, len(rows)):
        if rows[place][k] != 0:
            return place
    return None


def cleared(row, lead, k):
    """The row without unknown k, which the lead has with a number above 0."""
    own = row[k]
    factor = lead[k]
    return shortened([factor * x - own * y for x, y in zip(row, lead)])


def shortened(row):
    """The row by its greatest common divisor: else its numbers would double in length at every turn."""
    divisor = 0
    for x in row:
        divisor = common_divisor(divisor, x)
        if divisor == 1:
            return row
    if divisor == 0:
        return row
    return [x // divisor for x in row]


def unknowns_of(solved, right):
    """What the unknowns are, as fractions, when the right sides are these fractions."""
    count = len(solved)
    scale = scale_of(right)
    tops = scaled(right, scale)
    found = []
    for k, row in enumerate(solved):
        top = sum([x * y for x, y in zip(row[count:], tops)])
        found.append((top, row[k] * scale))
    return found
