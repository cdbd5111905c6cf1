"""Who wins which answers in a rule, and how winners grow along links."""

from oneswill.errors import InvalidOperation
from oneswill.base.agendas import contrary, is_answer_to
from oneswill.base.checks import need_agenda
from oneswill.base.clashes import rows_with
from oneswill.base.names import all_sets
from oneswill.link.links import clashes_for, knots, led_to, links
from oneswill.rule.rules import are_voters, need_any_rule, need_rule, place_of


def _wins(rule, voters, answer):
    """Whether the rule says the answer whenever just these voters say so."""
    issue, said = answer
    return rule[issue][place_of([said if voter in voters else 1 - said for voter in range(rule.voters)])] == said


def _need_answer_to(rule, answer):
    """Refuse what is no answer to an issue of the rule."""
    if not is_answer_to(rule.issues, answer):
        raise InvalidOperation("no answer to an issue of the rule")


def does_win(rule, voters, answer):
    """Whether a set of voters wins an answer."""
    need_any_rule(rule)
    if not are_voters(voters, rule.voters):
        raise InvalidOperation("no set of voters of the rule")
    _need_answer_to(rule, answer)
    return _wins(rule, voters, answer)


def winners(rule, answer):
    """The ascending tuple of the sets of voters that win an answer."""
    need_any_rule(rule)
    _need_answer_to(rule, answer)
    return tuple([voters for voters in all_sets(list(range(rule.voters))) if _wins(rule, voters, answer)])


def all_heard(rule):
    """The set of the voters who are heard for some issue."""
    need_any_rule(rule)
    return tuple(sorted({voter for issue in rule for voter in rule.heard(issue)}))


def loss(agenda, rule):
    """A link and a set of voters that wins the answer ahead, but not the one behind; or None."""
    need_agenda(agenda)
    need_rule(agenda, rule)
    for one, other in links(agenda):
        for voters in winners(rule, one):
            if not _wins(rule, voters, other):
                return (one, other, voters)
    return None


def is_loss(agenda, rule, value):
    """Whether the value is a link and a set of voters that wins the answer ahead, but not the one behind."""
    need_agenda(agenda)
    need_rule(agenda, rule)
    if not isinstance(value, tuple) or len(value) != 3:
        return False
    one, other, voters = value
    if not is_answer_to(agenda.issues, one) or not is_answer_to(agenda.issues, other):
        return False
    if not are_voters(voters, rule.voters) or clashes_for(agenda, one, other) == ():
        return False
    return _wins(rule, voters, one) and not _wins(rule, voters, other)


def _row_without(agenda, clash, answer):
    """A row that has a least clash but for this answer."""
    return rows_with(agenda, tuple([kept for kept in clash if kept != answer]))[0]


def votes_of(agenda, rule, triple):
    """Rows of the agenda, as votes, whose outcome has a whole least clash, as a loss tells."""
    if not is_loss(agenda, rule, triple):
        raise InvalidOperation("no loss")
    one, other, voters = triple
    clash = clashes_for(agenda, one, other)[0]
    theirs, others = _row_without(agenda, clash, contrary(other)), _row_without(agenda, clash, one)
    return tuple([theirs if voter in voters else others for voter in range(rule.voters)])


def ranked_knots(agenda):
    """The tuple of the knots, each ahead of those to which its answers lead, else in Python's order."""
    left, ranked = knots(agenda), []
    led = {knot: led_to(agenda, knot[0]) for knot in left}
    while len(left) > 0:
        free = [knot for knot in left if not any([knot[0] in led[other] for other in left if other != knot])]
        ranked.append(free[0])
        left = [knot for knot in left if knot != free[0]]
    return tuple(ranked)
