"""Checks of arguments that several modules make."""

from oneswill.errors import InvalidAgenda, InvalidName, InvalidOperation, UnknownName
from oneswill.base.agendas import Agenda, is_answer_to
from oneswill.base.names import is_name


def need_agenda(agenda):
    """Refuse what is no agenda."""
    if not isinstance(agenda, Agenda):
        raise InvalidAgenda("no agenda")


def need_name(value):
    """Refuse what is no name."""
    if not is_name(value):
        raise InvalidName("no name")


def need_issue(agenda, issue):
    """Refuse what is no issue of the agenda."""
    if issue not in agenda.issues:
        raise UnknownName(issue)


def need_answer(agenda, answer):
    """Refuse what is no answer of the agenda."""
    if not is_answer_to(agenda.issues, answer):
        raise InvalidOperation("no answer of the agenda")
