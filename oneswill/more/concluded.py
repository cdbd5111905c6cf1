"""Concluded agendas: premises that are free, and a conclusion that a sentence draws from them."""

from oneswill.errors import InvalidOperation, UnknownName
from oneswill.base.agendas import MAX_ISSUES, Agenda
from oneswill.base.checks import need_agenda, need_issue, need_name
from oneswill.base.names import all_values, is_set_of_names
from oneswill.base.sentences import names_in, need_sentence, rows_for, sentence_for_row


def _need_premises(premises):
    """Refuse what is no set of one to five names."""
    if not is_set_of_names(premises) or not 1 <= len(premises) <= MAX_ISSUES - 1:
        raise InvalidOperation("no set of one to five names")


def _need_known_names(premises, sentence):
    """Refuse a sentence with a name that is no premise."""
    for name in names_in(sentence):
        if name not in premises:
            raise UnknownName(name)


def concluded(premises, name, sentence):
    """The concluded agenda: all values of the premises, and the conclusion that the sentence draws from them."""
    _need_premises(premises)
    need_name(name)
    need_sentence(sentence)
    if name in premises:
        raise InvalidOperation("the conclusion is a premise")
    _need_known_names(premises, sentence)
    ones = rows_for(premises, sentence)
    at = len([premise for premise in premises if premise < name])
    rows = [values[:at] + (int(values in ones),) + values[at:] for values in all_values(len(premises))]
    # A conclusion with one value only is refused with the agenda.
    return Agenda(premises[:at] + (name,) + premises[at:], tuple(sorted(rows)))


def _hangs(ones, at):
    """Whether a sentence, told by the values for which it has value 1, hangs on the premise at this place."""
    return any([values[:at] + (1 - values[at],) + values[at + 1:] not in ones for values in ones])


def _kind(premises, ones):
    """The kind of a sentence, by the values of the premises for which it has value 1."""
    for at, premise in enumerate(premises):
        if not _hangs(ones, at):
            return ("free", premise)
    every = all_values(len(premises))
    zeros = tuple([values for values in every if values not in ones])
    if len(ones) == 1:
        return ("all", dict(zip(premises, ones[0])))
    if len(zeros) == 1:
        # Only where each premise has another value than the one that is told, the value is 0.
        return ("some", {premise: 1 - value for premise, value in zip(premises, zeros[0])})
    odd = tuple([values for values in every if sum(values) & 1 == 1])
    if odd in (ones, zeros):
        return ("sum", int(odd == zeros))
    return ("none",)


def kind(premises, sentence):
    """The first kind that a sentence is of: free, all, some, sum, none."""
    _need_premises(premises)
    need_sentence(sentence)
    _need_known_names(premises, sentence)
    return _kind(premises, rows_for(premises, sentence))


def is_conclusion(agenda, issue):
    """Whether the agenda is a concluded one with this conclusion."""
    need_agenda(agenda)
    need_issue(agenda, issue)
    premises = [other for other in agenda.issues if other != issue]
    # That is not so without premises: both values of an issue alone are two rows.
    if len(agenda) != 1 << len(premises):
        return False
    # So many rows have all values of the premises if no two of them have the same ones.
    return len(agenda.only(tuple(premises))) == len(agenda)


def sentence_of(agenda, issue):
    """A sentence of the other issues that has the value of the conclusion in each row."""
    if not is_conclusion(agenda, issue):
        raise InvalidOperation("the issue is no conclusion")
    at, issues = agenda[issue], agenda.issues
    premises = issues[:at] + issues[at + 1:]
    parts = [sentence_for_row(premises, row[:at] + row[at + 1:]) for row in agenda.rows if row[at] == 1]
    return ("or", *parts)


def conclusions(agenda):
    """The ascending tuple of the issues that are conclusions."""
    need_agenda(agenda)
    return tuple([issue for issue in agenda.issues if is_conclusion(agenda, issue)])
