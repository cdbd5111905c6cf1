"""All rules for two voters: each belongs to a set of answers that no link leaves."""

from oneswill.errors import InvalidOperation
from oneswill.base.agendas import are_answers_to
from oneswill.base.checks import need_agenda
from oneswill.base.names import all_sets
from oneswill.link.links import led_from, link_web
from oneswill.rule.rules import Rule, need_rule, need_rule_for, need_two_voters


def _need_answers(agenda, answers):
    """Refuse what is no set of answers of the agenda."""
    if not are_answers_to(agenda.issues, answers):
        raise InvalidOperation("no set of answers of the agenda")


def leaves_none(web, answers):
    """Whether no link of a web leads from one of these answers to one that is not among them."""
    return all([other in answers for one in answers for other in web[one]])


def is_closed(agenda, value):
    """Whether the value is a closed set of answers of the agenda."""
    need_agenda(agenda)
    return are_answers_to(agenda.issues, value) and leaves_none(link_web(agenda), value)


def closed_sets(agenda):
    """The ascending tuple of all closed sets."""
    need_agenda(agenda)
    web = link_web(agenda)
    return tuple([answers for answers in all_sets(agenda.answers) if leaves_none(web, answers)])


def least_closed(agenda, answers):
    """The least closed set that contains these answers."""
    need_agenda(agenda)
    _need_answers(agenda, answers)
    web = link_web(agenda)
    return tuple(sorted({other for one in answers for other in led_from(web, one)}))


def _table_of(issue, answers):
    """The table that says what both say, and else the first voter's answer if it is one of these."""
    # Where both differ and the first voter's answer is none of these, the other value is the second voter's.
    return (0, int((issue, 0) not in answers), int((issue, 1) in answers), 1)


def rule_of(agenda, answers):
    """The rule for two voters of a set of answers, closed or not."""
    need_agenda(agenda)
    _need_answers(agenda, answers)
    return Rule(2, {issue: _table_of(issue, answers) for issue in agenda.issues})


def _answers_of(rule):
    """The set of answers whose rule for two voters this is."""
    said = {issue: (1 - rule[issue][1], rule[issue][2]) for issue in rule.issues}
    return tuple([(issue, value) for issue in rule.issues for value in (0, 1) if said[issue][value] == 1])


def set_of(agenda, rule):
    """The closed set of a rule for two voters for the agenda."""
    need_agenda(agenda)
    need_rule(agenda, rule)
    need_two_voters(rule)
    need_rule_for(agenda, rule)
    return _answers_of(rule)


def rules_for_two(agenda):
    """A generator of all rules for two voters for the agenda, in the order of their closed sets."""
    for answers in closed_sets(agenda):
        yield rule_of(agenda, answers)
