"""A shell: a desk that is told by lines what to do."""

from oneswill.errors import Broken, InvalidAgenda, InvalidNumber, InvalidOperation, InvalidRule
from oneswill.errors import NoRow, NothingToUndo, TooMany, UnknownName
from oneswill.base.names import is_name
from oneswill.desk.desk import Desk
from oneswill.text.commands import do_line
from oneswill.text.formats import figures_of, read_agenda, read_rule


def _are_texts(value):
    """Whether the value is a dict from names to strings."""
    return isinstance(value, dict) and all([is_name(name) and isinstance(text, str) for name, text in value.items()])


def _told_votes(words, votes):
    """The words, and behind them the votes."""
    return " ".join(words + [figures_of(row) for row in votes])


class Shell:
    """A shell over a desk of its own."""

    def __init__(self, agenda_text, rule_texts):
        if not _are_texts(rule_texts):
            raise InvalidOperation("no dict from names to strings")
        self._desk = Desk(read_agenda(agenda_text))
        for name in sorted(rule_texts):
            self._desk.keep(name, read_rule(self._desk.agenda, rule_texts[name]))

    def desk(self):
        """A twin of the desk."""
        return self._desk.twin()

    def __call__(self, line):
        return self.answer(line)

    def answer(self, line):
        """Do the command of a line, and return the answer."""
        try:
            return do_line(self._desk, line)
        except UnknownName as unknown:
            return f"unknown {unknown.name}"
        except InvalidNumber as wrong:
            return f"number {wrong.value}"
        except InvalidOperation:
            return "operation"
        except InvalidAgenda:
            return "agenda"
        except InvalidRule:
            return "rule"
        except TooMany as more:
            return f"many {more.limit}"
        except NothingToUndo as nothing:
            return f"undo {nothing.many}"
        except NoRow as lost:
            return _told_votes(["norow"], lost.votes)
        except Broken as broken:
            return _told_votes(["broken", broken.which], broken.votes)
