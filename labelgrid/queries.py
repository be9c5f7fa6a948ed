"""Questions about the rows of a range, answered from what a user sees."""

from labelgrid.addresses import inside
from labelgrid.functions import apply_function, apply_operator

KINDS = ("num", "text", "bool", "error")
PASSED = ("bool", True)


def value_key(value):
    """Return a key by which values are ordered: None, numbers, texts, truths, errors."""
    if value is None:
        return (0, 0)
    return (KINDS.index(value[0]) + 1, value[1])


def columns_of(query):
    """Return the list of the columns at which a question looks, ascending, each once."""
    _, filters, output = query
    columns = [column for column, _, _ in filters] + list(output[1])
    if output[0] == "rows":
        columns.extend([column for column, _ in output[2]])
    else:
        columns.append(output[3])
    return sorted(set(columns))


def cells_in(query, row):
    """Return the list of the addresses of the columns of a question in a row of the sheet."""
    return [_cell_at(query, column, row) for column in columns_of(query)]


def _cell_at(query, column, row):
    """Return the address in a column of the range of a question and a row of the sheet."""
    return (query[0][0][0] + column, row)


def _value_at(query, column, row, values):
    return values.get(_cell_at(query, column, row))


def _is_taken(query, row, values, seen):
    """Return whether a row is taken: all of it that is looked at is seen, and it passes all filters."""
    if not all([cell in seen for cell in cells_in(query, row)]):
        return False
    return all([apply_operator(sign, _value_at(query, column, row, values), value) == PASSED
                for column, sign, value in query[1]])


def _rows_of(query):
    """Return the rows of the sheet that the range of a question has."""
    (_, top), (_, bottom) = query[0]
    return list(range(top, bottom + 1))


def _query_copy(query):
    """Return a copy of a question."""
    area, filters, output = query
    if output[0] == "rows":
        return (area, list(filters), ("rows", list(output[1]), list(output[2])))
    return (area, list(filters), ("groups", list(output[1]), output[2], output[3]))


def _row_answer(output, rows, taken):
    """Return the answer for rows that are taken; `taken` has their values by columns."""
    _, columns, order = output
    # Sorting keeps what is equal in order, so the last pair of the order comes first.
    for deciding, direction in order[::-1]:
        if direction == "down":
            rows = sorted(rows, key=lambda row: value_key(taken[row][deciding]), reverse=True)
        else:
            rows = sorted(rows, key=lambda row: value_key(taken[row][deciding]))
    return [(row, [taken[row][column] for column in columns]) for row in rows]


def _group_answer(output, rows, taken):
    """Return the answer for groups of the rows that are taken."""
    _, columns, function, measured = output
    groups = {}
    for row in rows:
        key = tuple([value_key(taken[row][column]) for column in columns])
        groups.setdefault(key, []).append(row)
    answer = []
    for key in sorted(groups):
        values = [taken[row][measured] for row in groups[key]]
        first = taken[groups[key][0]]
        answer.append(([first[column] for column in columns], apply_function(function, [("many", values)])))
    return answer


def ask(query, values, seen):
    """Return the answer of a question."""
    return QueryView(query, values, seen).answer()


class QueryView:
    """An answer that is kept up."""

    def __init__(self, query, values, seen):
        self._query = _query_copy(query)
        # For each row that is taken a dict from the columns that are looked at to its values.
        self._taken = {}
        for row in _rows_of(query):
            self._look_at(row, values, seen)
        # Only rows that are looked at again count as work.
        self.work = 0

    def turn(self, values, seen, addresses):
        """Look again at the rows of some addresses, where the values or what is seen may be others now."""
        rows = sorted({address[1] for address in addresses if inside(address, self._query[0])})
        for row in rows:
            self._look_at(row, values, seen)
        self.work = self.work + len(rows)
        return rows

    def answer(self):
        """Return the answer."""
        output = self._query[2]
        rows = sorted(self._taken)
        if output[0] == "rows":
            return _row_answer(output, rows, self._taken)
        return _group_answer(output, rows, self._taken)

    def _look_at(self, row, values, seen):
        """Keep the values of a row if it is taken."""
        self._taken.pop(row, None)
        if _is_taken(self._query, row, values, seen):
            columns = columns_of(self._query)
            self._taken[row] = {column: _value_at(self._query, column, row, values) for column in columns}
