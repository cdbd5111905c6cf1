"""Sums of rows, and the rules that are sums of voters."""

from oneswill.errors import InvalidOperation
from oneswill.base.checks import need_agenda
from oneswill.base.names import all_sets, all_values, is_subset, is_value
from oneswill.rule.rules import Rule, are_voters, need_any_rule, need_issues, need_voters


def sum_of(rows):
    """The sum of one row or more, issue by issue, modulo 2."""
    return tuple([sum(column) & 1 for column in zip(*rows)])


def _three_rows(agenda):
    """The first tuple of three rows, in Python's order, whose sum is no row, or None."""
    # If the sums with the first row are rows, so are all: a + b + c is (a + b + first) + c + first.
    first = agenda.rows[0]
    for one in agenda.rows:
        for other in agenda.rows:
            if sum_of((first, one, other)) not in agenda:
                return (first, one, other)
    return None


def is_summed(agenda):
    """Whether the sum of any three rows is a row."""
    need_agenda(agenda)
    return _three_rows(agenda) is None


def _parity(issues, row, chosen):
    """The sum of a row's values for the chosen issues, modulo 2."""
    return sum([value for issue, value in zip(issues, row) if issue in chosen]) & 1


def _solves(issues, row, equations):
    """Whether the row of values solves all equations."""
    return all([_parity(issues, row, chosen) == value for chosen, value in equations])


def _equations(agenda):
    """As few equations as possible that all rows of a summed agenda solve, and no other values."""
    issues, found = agenda.issues, []
    told = [(0,) * len(issues)]
    for columns in all_values(len(issues)):
        chosen = tuple([issue for issue, column in zip(issues, columns) if column == 1])
        value = _parity(issues, agenda.rows[0], chosen)
        # What follows from the equations before is not told again.
        if columns not in told and all([_solves(issues, row, [(chosen, value)]) for row in agenda.rows]):
            found.append((chosen, value))
            told = told + [sum_of((columns, before)) for before in told]
    return tuple(found)


def sums_paper(agenda):
    """A paper: equations whose solutions are just the rows, or three rows whose sum is no row."""
    need_agenda(agenda)
    rows = _three_rows(agenda)
    if rows is None:
        return ("sums", _equations(agenda))
    return ("rows", rows)


def shows_no_sums(agenda, value):
    """Whether the value is a tuple of three rows whose sum is no row."""
    if not isinstance(value, tuple) or len(value) != 3 or not all([row in agenda for row in value]):
        return False
    return sum_of(value) not in agenda


def _is_equation(issues, value):
    """Whether the value is an equation of a set of these issues."""
    return isinstance(value, tuple) and len(value) == 2 and is_subset(value[0], issues) and is_value(value[1])


def _shows_sums(agenda, value):
    """Whether the value is a tuple of equations whose common solutions are just the rows."""
    issues = agenda.issues
    if not isinstance(value, tuple) or not all([_is_equation(issues, equation) for equation in value]):
        return False
    equations = sorted(set(value))
    return tuple([row for row in all_values(len(issues)) if _solves(issues, row, equations)]) == agenda.rows


def is_sums_paper(agenda, value):
    """Whether the value is a paper of sums for the agenda."""
    need_agenda(agenda)
    if not isinstance(value, tuple) or len(value) != 2:
        return False
    if value[0] == "sums":
        return _shows_sums(agenda, value[1])
    return value[0] == "rows" and shows_no_sums(agenda, value[1])


def _sum_table(voters, summed):
    """The table that says 1 if an odd number of these voters say 1."""
    return tuple([sum([values[voter] for voter in summed]) & 1 for values in all_values(voters)])


def sum_rule(issues, voters, summed):
    """The rule for so many voters that is the sum of an odd set of them."""
    need_issues(issues)
    need_voters(voters)
    if not are_voters(summed, voters) or len(summed) & 1 == 0:
        raise InvalidOperation("no set of an odd number of voters")
    table = _sum_table(voters, summed)
    return Rule(voters, {issue: table for issue in issues})


def summed_voters(rule):
    """The set of voters whose sum the rule is, or None."""
    need_any_rule(rule)
    for summed in all_sets(list(range(rule.voters))):
        # That of an even number of voters ends with 0, as no table of a rule does.
        table = _sum_table(rule.voters, summed)
        if all([rule[issue] == table for issue in rule.issues]):
            return summed
    return None
