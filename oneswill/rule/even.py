"""Even-handed rules: rules for two voters that stay the same when both are exchanged."""

from oneswill.errors import InvalidOperation
from oneswill.base.agendas import has_issues_as_keys
from oneswill.base.checks import need_agenda, need_issue
from oneswill.base.names import all_values, is_value
from oneswill.link.links import chain, is_chain, led_to, link_web
from oneswill.rule.rules import Rule, need_two_voters, need_voters
from oneswill.rule.twos import leaves_none, rule_of


def is_even_handed(rule):
    """Whether a rule for two voters stays the same when both are exchanged."""
    need_two_voters(rule)
    return rule.spoken((1, 0), 2) == rule


def sides(rule):
    """The dict of the sides of an even-handed rule: what it says where the voters differ."""
    if not is_even_handed(rule):
        raise InvalidOperation("the rule is not even-handed")
    return {issue: rule[issue][1] for issue in rule.issues}


def _are_sides(value):
    """Whether the value is a dict from one to six names to 0 and 1."""
    return has_issues_as_keys(value) and all([is_value(side) for side in value.values()])


def even_rule(sides, voters):
    """The rule that says what all say, and elsewhere the side."""
    if not _are_sides(sides):
        raise InvalidOperation("no dict from one to six names to 0 and 1")
    need_voters(voters)
    many = (1 << voters) - 2
    return Rule(voters, {issue: (0,) + (side,) * many + (1,) for issue, side in sides.items()})


def _fits(web, told):
    """Whether the even-handed rule with these sides, for the issues of a web of links, is one for their agenda."""
    return leaves_none(web, list(told.items()))


def even_sides(agenda):
    """The tuple of the sides of all even-handed rules for the agenda, ascending by their values."""
    need_agenda(agenda)
    web, issues = link_web(agenda), agenda.issues
    every = [dict(zip(issues, values)) for values in all_values(len(issues))]
    return tuple([told for told in every if _fits(web, told)])


def has_even(agenda):
    """Whether the agenda has an even-handed rule."""
    return len(even_sides(agenda)) > 0


def even_paper(agenda):
    """A paper: the sides of an even-handed rule, or an issue with chains between its answers both ways."""
    need_agenda(agenda)
    for issue in agenda.issues:
        there = chain(agenda, (issue, 0), (issue, 1))
        back = chain(agenda, (issue, 1), (issue, 0))
        if there is not None and back is not None:
            return ("odd", issue, there, back)
    # No knot has both answers of an issue, and so there is such a rule.
    return ("even", even_sides(agenda)[0])


def _joins(agenda, value, one, other):
    """Whether the value is a chain from an answer to another one."""
    return is_chain(agenda, value) and value[0] == one and value[-1] == other


def is_even_paper(agenda, value):
    """Whether the value is a paper of even-handed rules for the agenda."""
    need_agenda(agenda)
    if not isinstance(value, tuple) or len(value) not in (2, 4):
        return False
    if len(value) == 2:
        told = value[1]
        if value[0] != "even" or not _are_sides(told) or tuple(sorted(told)) != agenda.issues:
            return False
        return _fits(link_web(agenda), told)
    if value[0] != "odd" or value[1] not in agenda.issues:
        return False
    no, yes = (value[1], 0), (value[1], 1)
    return _joins(agenda, value[2], no, yes) and _joins(agenda, value[3], yes, no)


def fair_at(agenda, issue):
    """A rule for two voters for the agenda whose table for the issue treats both alike, or None."""
    need_agenda(agenda)
    need_issue(agenda, issue)
    for value in (0, 1):
        # Such a rule belongs to a closed set with just one answer for the issue.
        answers = led_to(agenda, (issue, value))
        if (issue, 1 - value) not in answers:
            return rule_of(agenda, answers)
    return None
