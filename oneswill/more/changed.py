"""Agendas that change: what gives them another rule, and how they are put together."""

from oneswill.errors import InvalidAgenda, InvalidNumber, InvalidOperation, TooMany
from oneswill.base.agendas import MAX_ISSUES, Agenda
from oneswill.base.checks import need_agenda
from oneswill.base.clashes import least_clashes
from oneswill.base.names import all_values, is_integer
from oneswill.rule.rules import Rule, need_any_rule
from oneswill.rule.twos import closed_sets
from oneswill.rule.verdict import has_another

MAX_SETS = 500


def _sets_up_to(items, most):
    """All sets of at most so many of some items, which are told ascending; smaller sets come first."""
    found, last = [()], [()]
    for _ in range(most):
        last = [(*chosen, item) for chosen in last for item in items if chosen == () or chosen[-1] < item]
        found = found + last
    return found


def _has_another_with(issues, rows):
    """Whether these are the rows of an agenda that has another rule."""
    try:
        agenda = Agenda(issues, rows)
    except InvalidAgenda:
        return False
    return has_another(agenda)


def _least(cases):
    """The ascending tuple of the least sets with whose issues and rows there is another rule; smaller come first."""
    found = []
    for chosen, issues, rows in cases:
        if any([all([item in chosen for item in less]) for less in found]):
            continue
        if _has_another_with(issues, rows):
            found.append(chosen)
    return tuple(sorted(found))


def _few_sets(items, most):
    """All sets of at most so many of some items, unless they are too many."""
    if not is_integer(most) or not 0 <= most <= 3:
        raise InvalidNumber(most)
    found = _sets_up_to(items, most)
    if len(found) > MAX_SETS:
        raise TooMany(MAX_SETS)
    return found


def rows_to_add(agenda, most):
    """The ascending tuple of the least sets of at most so many new rows with which there is another rule."""
    need_agenda(agenda)
    issues, rows = agenda.issues, agenda.rows
    sets = _few_sets([values for values in all_values(len(issues)) if values not in rows], most)
    return _least([(chosen, issues, tuple(sorted([*rows, *chosen]))) for chosen in sets])


def rows_to_take(agenda, most):
    """The ascending tuple of the least sets of at most so many rows without which there is another rule."""
    need_agenda(agenda)
    issues, rows = agenda.issues, agenda.rows
    sets = _few_sets(rows, most)
    return _least([(chosen, issues, tuple([row for row in rows if row not in chosen])) for chosen in sets])


def _without(agenda, dropped):
    """The agenda without some issues, the rows being cut."""
    return agenda.only(tuple([issue for issue in agenda.issues if issue not in dropped]))


def issues_to_drop(agenda):
    """The ascending tuple of the least sets of issues, not of all, without which there is another rule."""
    need_agenda(agenda)
    cases = [(dropped, _without(agenda, dropped)) for dropped in _sets_up_to(agenda.issues, len(agenda.issues) - 1)]
    return _least([(dropped, rest.issues, rest.rows) for dropped, rest in cases])


def side_parts(agenda):
    """The ascending tuple of the sets of issues that least clashes join."""
    need_agenda(agenda)
    parts = [(issue,) for issue in agenda.issues]
    for clash in least_clashes(agenda):
        named = [answer[0] for answer in clash]
        joined = [part for part in parts if any([issue in named for issue in part])]
        apart = [part for part in parts if part not in joined]
        parts = apart + [tuple(sorted([issue for part in joined for issue in part]))]
    return tuple(sorted(parts))


def beside(first, second):
    """The rule with the tables of two rules."""
    need_any_rule(first)
    need_any_rule(second)
    if any([issue in second for issue in first]) or len(first) + len(second) > MAX_ISSUES:
        raise InvalidOperation("a common issue, or too many issues together")
    if first.voters != second.voters:
        raise InvalidOperation("unlike numbers of voters")
    tables = {issue: rule[issue] for rule in (first, second) for issue in rule}
    return Rule(first.voters, tables)


def cut_rules(agenda, issues):
    """The ascending tuple of the closed sets of the rules for two for the cut agenda that are no cut rules."""
    need_agenda(agenda)
    every = closed_sets(agenda.only(issues))
    cut = {tuple([answer for answer in answers if answer[0] in issues]): True for answers in closed_sets(agenda)}
    return tuple([answers for answers in every if answers not in cut])
