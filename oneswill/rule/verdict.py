"""The verdict on an agenda: another rule, or one person's will."""

from oneswill.errors import InvalidOperation
from oneswill.base.agendas import contrary, is_answer_to
from oneswill.base.checks import need_agenda
from oneswill.base.clashes import is_least_clash
from oneswill.link.links import is_blocked, led_from, led_to, shown_links, web_of
from oneswill.rule.rules import has_few_votes, has_issues_of, is_rule, need_rule, need_rule_for, need_voters
from oneswill.rule.sums import is_summed, shows_no_sums, sum_rule, summed_voters, sums_paper
from oneswill.rule.twos import rule_of


def has_another(agenda):
    """Whether some rule for the agenda, for any number of voters, follows no voter."""
    return not is_blocked(agenda) or is_summed(agenda)


def _rule_of_some(agenda):
    """A rule for two voters that follows neither, for an agenda that is not blocked."""
    closed = [led_to(agenda, answer) for answer in agenda.answers]
    return rule_of(agenda, [answers for answers in closed if answers != agenda.answers][0])


def another(agenda, voters):
    """A rule for the agenda for so many voters that follows none of them, or None."""
    need_agenda(agenda)
    need_voters(voters)
    if voters >= 2 and not is_blocked(agenda):
        return _rule_of_some(agenda).spoken((0, 1), voters)
    if voters >= 3 and is_summed(agenda):
        return sum_rule(agenda.issues, voters, (0, 1, 2))
    return None


def paper(agenda):
    """A paper: a rule for the agenda that follows no voter, or what shows that there is none."""
    for voters in (2, 3):
        rule = another(agenda, voters)
        if rule is not None:
            return ("another", rule)
    triples = [(one, other, clash) for (one, other), clash in shown_links(agenda).items()]
    return ("one", tuple(sorted(triples)), sums_paper(agenda)[1])


def _is_shown_link(agenda, value):
    """Whether the value is a triple of two answers and a least clash that shows a link between them."""
    if not isinstance(value, tuple) or len(value) != 3:
        return False
    if not all([is_answer_to(agenda.issues, answer) for answer in value[:2]]) or not is_least_clash(agenda, value[2]):
        return False
    one, other = value[0], contrary(value[1])
    return one != other and one in value[2] and other in value[2]


def _leads_round(agenda, value):
    """Whether the value is a tuple of shown links by which alone each answer leads to each."""
    if not isinstance(value, tuple) or not all([_is_shown_link(agenda, triple) for triple in value]):
        return False
    web = web_of(agenda, [triple[:2] for triple in value])
    return all([len(led_from(web, answer)) == len(web) for answer in web])


def is_paper(agenda, value):
    """Whether the value is a paper for the agenda."""
    need_agenda(agenda)
    if not isinstance(value, tuple) or not 2 <= len(value) <= 3:
        return False
    if len(value) == 3:
        return value[0] == "one" and _leads_round(agenda, value[1]) and shows_no_sums(agenda, value[2])
    if value[0] != "another" or not has_issues_of(agenda, value[1]):
        return False
    return is_rule(agenda, value[1]) and value[1].followed() is None


def only_sums(agenda, rule):
    """The odd set of the voters whose sum a rule for a blocked agenda is."""
    need_agenda(agenda)
    need_rule(agenda, rule)
    blocked = is_blocked(agenda)
    # A rule that is none for the agenda is told first, but that votes are too many to look at comes last.
    if blocked or has_few_votes(agenda, rule.voters):
        need_rule_for(agenda, rule)
    if not blocked:
        raise InvalidOperation("the agenda is not blocked")
    return summed_voters(rule)
