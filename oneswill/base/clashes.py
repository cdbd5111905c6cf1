"""Parts of rows, and the clashes: the parts that no row has."""

from oneswill.errors import InvalidAgenda, InvalidOperation, InvalidPart
from oneswill.base.agendas import Agenda, are_answers_to, is_issues
from oneswill.base.checks import need_agenda
from oneswill.base.names import has_values


def _is_part_of(issues, value):
    """Whether the value is a part of answers to these issues."""
    return are_answers_to(issues, value) and len({answer[0] for answer in value}) == len(value)


def _has(issues, row, part):
    """Whether the values of a row are as the answers of the part say."""
    answers = list(zip(issues, row))
    return all([answer in answers for answer in part])


def _rows_with(agenda, part):
    """The rows that have a part."""
    return [row for row in agenda.rows if _has(agenda.issues, row, part)]


def _one_less(part):
    """The parts with one answer less."""
    return [part[:at] + part[at + 1:] for at in range(len(part))]


def is_part(agenda, value):
    """Whether the value is a part of answers of the agenda."""
    need_agenda(agenda)
    return _is_part_of(agenda.issues, value)


def rows_with(agenda, part):
    """The ascending tuple of the rows that have a part."""
    if not is_part(agenda, part):
        raise InvalidPart("no part of the agenda")
    return tuple(_rows_with(agenda, part))


def is_clash(agenda, value):
    """Whether the value is a part that no row has."""
    return is_part(agenda, value) and _rows_with(agenda, value) == []


def is_least_clash(agenda, value):
    """Whether the value is a clash of which each lesser part is had by some row."""
    # A row that has a part has each part of it, too, so those with one answer less are enough.
    return is_clash(agenda, value) and all([_rows_with(agenda, fewer) != [] for fewer in _one_less(value)])


def _ones(rows, at):
    """The rows with value 1 in this column, as the bits of a number."""
    return sum([1 << number for number, row in enumerate(rows) if row[at] == 1])


def _row_bits(agenda):
    """For the parts that some row has, and for these with one answer more behind: which rows have them, as bits."""
    bits = {(): (1 << len(agenda)) - 1}
    for at, issue in enumerate(agenda.issues):
        ones = _ones(agenda.rows, at)
        had = [part for part, rows in bits.items() if rows > 0]
        for part in had:
            with_one = bits[part] & ones
            bits[part + ((issue, 0),)] = bits[part] ^ with_one
            bits[part + ((issue, 1),)] = with_one
    return bits


def least_clashes(agenda):
    """The ascending tuple of all least clashes."""
    need_agenda(agenda)
    bits = _row_bits(agenda)
    clashes = [part for part, rows in bits.items() if rows == 0]
    return tuple(sorted([part for part in clashes if all([bits.get(fewer, 0) > 0 for fewer in _one_less(part)])]))


def clash_in(agenda, values):
    """None for a row, otherwise the first of the least clashes that the values have."""
    need_agenda(agenda)
    if not has_values(values, len(agenda.issues)):
        raise InvalidOperation("no tuple of one value for each issue")
    for clash in least_clashes(agenda):
        if _has(agenda.issues, values, clash):
            return clash
    return None


def by_clashes(issues, clashes):
    """The agenda with these issues of all rows that have none of these parts."""
    if not is_issues(issues):
        raise InvalidAgenda("the issues are no set of one to six names")
    if not isinstance(clashes, tuple) or not all([_is_part_of(issues, part) for part in clashes]):
        raise InvalidPart("no tuple of parts of answers to these issues")
    parts = sorted(set(clashes))
    rows = [row for row in Agenda.free(issues) if not any([_has(issues, row, part) for part in parts])]
    return Agenda(issues, tuple(rows))
