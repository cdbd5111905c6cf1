"""Rules with one table for all issues."""

from oneswill.errors import InvalidNumber, InvalidOperation
from oneswill.base.checks import need_agenda
from oneswill.base.clashes import is_least_clash, least_clashes
from oneswill.base.names import all_values, is_integer
from oneswill.rule.rules import Rule, is_rule, need_any_rule, need_issues
from oneswill.rule.sums import shows_no_sums, sums_paper

WAYS = ("both", "either", "most", "sum")

# For each way the number of the voters, and the table.
_TABLES = {
    "both": (2, (0, 0, 0, 1)),
    "either": (2, (0, 1, 1, 1)),
    "most": (3, (0, 0, 0, 1, 0, 1, 1, 1)),
    "sum": (3, (0, 1, 1, 0, 1, 0, 0, 1)),
}


def _need_way(way):
    """Refuse what is no way."""
    if way not in WAYS:
        raise InvalidOperation("no way")


def same_rule(issues, voters, table):
    """The rule in which each issue has this table."""
    need_issues(issues)
    # The rule itself refuses what is no number of voters, and then what is no table for so many.
    return Rule(voters, {issue: table for issue in issues})


def is_same(rule):
    """Whether all tables of a rule are equal."""
    need_any_rule(rule)
    tables = [rule[issue] for issue in rule]
    return all([table == tables[0] for table in tables])


def way_rule(issues, way):
    """The rule in which each issue has the table of a way."""
    need_issues(issues)
    _need_way(way)
    voters, table = _TABLES[way]
    return same_rule(issues, voters, table)


def _shows_no_way(way, clash):
    """Whether a least clash shows that the rule of a way other than the sum is none for the agenda."""
    if way == "most":
        return len(clash) >= 3
    wanted = 0 if way == "both" else 1
    return len([answer for answer in clash if answer[1] == wanted]) >= 2


def way_paper(agenda, way):
    """A paper: that the rule of a way is one for the agenda, or what shows that it is none."""
    need_agenda(agenda)
    _need_way(way)
    if way == "sum":
        found = sums_paper(agenda)
        return found if found[0] == "rows" else ("rule",)
    # Votes are not looked at: for the largest agendas they are too many.
    for clash in least_clashes(agenda):
        if _shows_no_way(way, clash):
            return ("clash", clash)
    return ("rule",)


def is_way_paper(agenda, way, value):
    """Whether the value is a paper of this way for the agenda."""
    need_agenda(agenda)
    _need_way(way)
    if not isinstance(value, tuple) or not 1 <= len(value) <= 2:
        return False
    if len(value) == 1:
        return value[0] == "rule" and way_paper(agenda, way) == ("rule",)
    if way == "sum":
        return value[0] == "rows" and shows_no_sums(agenda, value[1])
    return value[0] == "clash" and is_least_clash(agenda, value[1]) and _shows_no_way(way, value[1])


def ways(agenda):
    """The tuple of the ways whose rules are rules for the agenda."""
    return tuple([way for way in WAYS if way_paper(agenda, way) == ("rule",)])


def tables_for_all(agenda, voters):
    """The ascending tuple of the tables with which, one for all issues, there is a rule for the agenda."""
    need_agenda(agenda)
    if not is_integer(voters) or not 1 <= voters <= 3:
        raise InvalidNumber(voters)
    tables = [(0, *middle, 1) for middle in all_values((1 << voters) - 2)]
    return tuple([table for table in tables if is_rule(agenda, same_rule(agenda.issues, voters, table))])
