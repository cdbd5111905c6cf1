"""Agendas: issues, and the rows of answers to them that are possible."""

from oneswill.errors import InvalidAgenda, InvalidOperation, UnknownName
from oneswill.base.names import all_values, has_values, is_ascending, is_name
from oneswill.base.names import is_set_of_names, is_subset, is_value, is_values

MAX_ISSUES = 6


def is_issues(value):
    """Whether the value is a set of one to six names."""
    return is_set_of_names(value) and 1 <= len(value) <= MAX_ISSUES


def has_issues_as_keys(value):
    """Whether the value is a dict whose keys are one to six names."""
    # Keys that are no strings could not be sorted.
    if not isinstance(value, dict) or not all([isinstance(key, str) for key in value]):
        return False
    return is_issues(tuple(sorted(value)))


def is_answer(value):
    """Whether the value is a pair of a name and 0 or 1."""
    return isinstance(value, tuple) and len(value) == 2 and is_name(value[0]) and is_value(value[1])


def is_answer_to(issues, value):
    """Whether the value is an answer to one of these issues."""
    return is_answer(value) and value[0] in issues


def are_answers_to(issues, value):
    """Whether the value is a set of answers to these issues, perhaps empty."""
    if not isinstance(value, tuple) or not all([is_answer_to(issues, item) for item in value]):
        return False
    return is_ascending(value)


def contrary(answer):
    """The answer with the same issue and the other value."""
    if not is_answer(answer):
        raise InvalidOperation("no pair of a name and 0 or 1")
    return (answer[0], 1 - answer[1])


def _is_renaming(value, issues):
    """Whether the value is a dict from some of the issues, perhaps none, to names."""
    return isinstance(value, dict) and all([issue in issues and is_name(name) for issue, name in value.items()])


def new_names(issues, names):
    """The names of the issues, in their old order, behind a renaming by a dict."""
    if not _is_renaming(names, issues):
        raise InvalidOperation("no dict from issues to names")
    renamed = tuple([names.get(issue, issue) for issue in issues])
    if len(set(renamed)) < len(renamed):
        raise InvalidOperation("two issues would have one name")
    return renamed


def _has_both(rows, at):
    """Whether both values stand in this column."""
    return len({row[at] for row in rows}) == 2


def _are_rows(value, many):
    """Whether the value is the set of rows of an agenda with so many issues."""
    if not isinstance(value, tuple) or not all([has_values(row, many) for row in value]):
        return False
    return is_ascending(value) and all([_has_both(value, at) for at in range(many)])


def cut_row(issues, row, kept):
    """The values of a row for the issues that are kept."""
    return tuple([value for issue, value in zip(issues, row) if issue in kept])


def turned_row(issues, row, turned):
    """The row with the values for some issues exchanged."""
    return tuple([1 - value if issue in turned else value for issue, value in zip(issues, row)])


def _agenda_of_columns(names, rows):
    """The agenda of rows whose columns have these names, in any order."""
    columns = sorted([(name, at) for at, name in enumerate(names)])
    places = [at for name, at in columns]
    issues = tuple([name for name, at in columns])
    return Agenda(issues, tuple(sorted([tuple([row[at] for at in places]) for row in rows])))


class Agenda:
    """One to six issues and the rows that are possible; it never changes."""

    def __init__(self, issues, rows):
        if not is_issues(issues):
            raise InvalidAgenda("the issues are no set of one to six names")
        if not _are_rows(rows, len(issues)):
            raise InvalidAgenda("the rows are no set of rows with both values for each issue")
        self._issues = issues
        self._rows = rows

    @classmethod
    def free(cls, issues):
        """The agenda with all rows for these issues."""
        if not is_issues(issues):
            raise InvalidAgenda("the issues are no set of one to six names")
        return cls(issues, all_values(len(issues)))

    @property
    def issues(self):
        """The set of the issues."""
        return self._issues

    @property
    def rows(self):
        """The set of the rows."""
        return self._rows

    @property
    def answers(self):
        """The set of the answers."""
        return tuple([(issue, value) for issue in self._issues for value in (0, 1)])

    def __getitem__(self, issue):
        for at, name in enumerate(self._issues):
            if name == issue:
                return at
        raise UnknownName(issue)

    def __contains__(self, value):
        # True equals 1 for Python, but (True, 0) is no row.
        return is_values(value) and value in self._rows

    def __len__(self):
        return len(self._rows)

    def __eq__(self, other):
        return isinstance(other, Agenda) and self._issues == other._issues and self._rows == other._rows

    def __str__(self):
        return f"agenda of {len(self._issues)} issues, {len(self._rows)} rows"

    def __iter__(self):
        return iter(self._rows)

    def with_row(self, row):
        """The agenda with this row more."""
        if not has_values(row, len(self._issues)):
            raise InvalidOperation("no tuple of one value for each issue")
        if row in self._rows:
            raise InvalidOperation("a row already")
        return Agenda(self._issues, tuple(sorted([*self._rows, row])))

    def without_row(self, row):
        """The agenda without this row."""
        if row not in self:
            raise InvalidOperation("no row")
        return Agenda(self._issues, tuple([kept for kept in self._rows if kept != row]))

    def turned(self, issues):
        """The agenda with the values of these issues exchanged."""
        if not is_subset(issues, self._issues):
            raise InvalidOperation("no set of issues of the agenda")
        return Agenda(self._issues, tuple(sorted([turned_row(self._issues, row, issues) for row in self._rows])))

    def renamed(self, names):
        """The agenda with other names of issues, by a dict from old names to new ones."""
        return _agenda_of_columns(new_names(self._issues, names), self._rows)

    def only(self, issues):
        """The agenda of the rows cut to these issues."""
        if issues == () or not is_subset(issues, self._issues):
            raise InvalidOperation("no set of one or more issues of the agenda")
        return Agenda(issues, tuple(sorted({cut_row(self._issues, row, issues) for row in self._rows})))

    def fixed(self, answer):
        """The agenda of the rows that have this answer, without its issue."""
        if not is_answer_to(self._issues, answer):
            raise InvalidOperation("no answer of the agenda")
        at = self[answer[0]]
        rest = tuple([issue for issue in self._issues if issue != answer[0]])
        return Agenda(rest, tuple([cut_row(self._issues, row, rest) for row in self._rows if row[at] == answer[1]]))

    def __add__(self, other):
        if not isinstance(other, Agenda):
            raise InvalidOperation("the other operand is no agenda")
        # Common issues, or too many, are then refused as issues of an agenda.
        names = [*self._issues, *other._issues]
        return _agenda_of_columns(names, [(*row, *more) for row in self._rows for more in other._rows])

    def __radd__(self, other):
        # Python asks the right operand only if the left one is no agenda.
        raise InvalidOperation("the other operand is no agenda")
