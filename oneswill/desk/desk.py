"""A desk: an agenda that changes, rules that stay rules for it, and voters whose rows stay rows."""

from oneswill.errors import Broken, InvalidNumber, InvalidOperation, NothingToUndo, UnknownName
from oneswill.base.agendas import cut_row, turned_row
from oneswill.base.checks import need_agenda, need_issue, need_name
from oneswill.base.names import is_integer, is_name
from oneswill.rule.rules import breach, need_rule_for


class Page:
    """What a desk has at one time: its agenda, and its rules and the voters' rows by names; it never changes."""

    def __init__(self, subject, kept, cast):
        self.subject = subject
        self.kept = kept
        self.cast = cast


class Mark:
    """What a desk was at the begin of a block, and the mark of the block around it, or None."""

    def __init__(self, page, done, undone, outer):
        self.page = page
        self.done = done
        self.undone = undone
        self.outer = outer


def _are_equal(page, other):
    """Whether two pages have equal agendas, rules and rows."""
    return page.subject == other.subject and page.kept == other.kept and page.cast == other.cast


def _with(table, name, item):
    """The dict with an item more, or with another one, by ascending names."""
    changed = {**table, name: item}
    return {key: changed[key] for key in sorted(changed)}


def _without(table, name):
    """The dict without an item."""
    return {key: item for key, item in table.items() if key != name}


def _need_kept(table, name):
    """Refuse what is no name of an item."""
    if not is_name(name) or name not in table:
        raise UnknownName(name)


def _need_unbroken(agenda, rules):
    """Refuse an agenda for which one of the rules is none."""
    for name, rule in rules.items():
        votes = breach(agenda, rule)
        if votes is not None:
            raise Broken(name, votes)


def _need_steps(steps, many):
    """Refuse what is no number of steps, or more than there are."""
    if not is_integer(many) or many < 0:
        raise InvalidNumber(many)
    if many > len(steps):
        raise NothingToUndo(many)


class Desk:
    """A desk: whatever is done, its rules are rules for its agenda, and the voters' rows are rows of it."""

    def __init__(self, agenda):
        need_agenda(agenda)
        self._page = Page(agenda, {}, {})
        self._done = []
        self._undone = []
        self._mark = None

    @property
    def agenda(self):
        """The agenda."""
        return self._page.subject

    @property
    def names(self):
        """The set of the names of the rules."""
        return tuple(self._page.kept)

    @property
    def people(self):
        """The set of the names of the voters."""
        return tuple(self._page.cast)

    def __getitem__(self, name):
        _need_kept(self._page.kept, name)
        return self._page.kept[name]

    def __contains__(self, value):
        return is_name(value) and value in self._page.kept

    def __len__(self):
        return len(self._page.kept)

    def __iter__(self):
        return iter(self._page.kept)

    def __eq__(self, other):
        return isinstance(other, Desk) and _are_equal(self._page, other._page)

    def __str__(self):
        return f"desk of {len(self.agenda.issues)} issues, {len(self.names)} rules, {len(self.people)} voters"

    def row_by(self, name):
        """The row that a voter has handed in."""
        _need_kept(self._page.cast, name)
        return self._page.cast[name]

    def _go_on(self, agenda, rules, rows):
        """Go on with what the desk has now, and forget what could have been done again."""
        self._done.append(self._page)
        self._undone = []
        self._page = Page(agenda, rules, rows)

    def keep(self, name, rule):
        """Keep a rule for the agenda under a name."""
        need_name(name)
        page = self._page
        need_rule_for(page.subject, rule)
        self._go_on(page.subject, _with(page.kept, name, rule), page.cast)

    def forget(self, name):
        """Keep the rule with this name no longer."""
        page = self._page
        _need_kept(page.kept, name)
        self._go_on(page.subject, _without(page.kept, name), page.cast)

    def vote(self, name, row):
        """Take the row that the voter with this name hands in."""
        need_name(name)
        page = self._page
        if row not in page.subject:
            raise InvalidOperation("no row")
        self._go_on(page.subject, page.kept, _with(page.cast, name, row))

    def leave(self, name):
        """Let the voter with this name go."""
        page = self._page
        _need_kept(page.cast, name)
        self._go_on(page.subject, page.kept, _without(page.cast, name))

    def add(self, row):
        """Let the agenda have this row more."""
        page = self._page
        agenda = page.subject.with_row(row)
        _need_unbroken(agenda, page.kept)
        self._go_on(agenda, page.kept, page.cast)

    def take(self, row):
        """Let the agenda have this row no longer."""
        page = self._page
        agenda = page.subject.without_row(row)
        if row in list(page.cast.values()):
            raise InvalidOperation("a voter has handed in the row")
        _need_unbroken(agenda, page.kept)
        self._go_on(agenda, page.kept, page.cast)

    def drop(self, issue):
        """Drop an issue from the agenda, the rules and the voters' rows."""
        page = self._page
        agenda, issues = page.subject, page.subject.issues
        need_issue(agenda, issue)
        rest = tuple([other for other in issues if other != issue])
        # Without the only issue there is none to cut to, which the agenda refuses.
        cut = agenda.only(rest)
        rules = {name: rule.only(rest) for name, rule in page.kept.items()}
        self._go_on(cut, rules, {name: cut_row(issues, row, rest) for name, row in page.cast.items()})

    def turn(self, issues):
        """Exchange the values of some issues in the agenda, the rules and the voters' rows."""
        page = self._page
        agenda = page.subject.turned(issues)
        rules = {name: rule.turned(issues) for name, rule in page.kept.items()}
        self._go_on(agenda, rules, {name: turned_row(agenda.issues, row, issues) for name, row in page.cast.items()})

    def outcome(self, name, voters):
        """The outcome of a kept rule for the rows of the voters with these names."""
        rule, cast = self[name], self._page.cast
        if not isinstance(voters, tuple):
            raise InvalidOperation("no tuple of names of voters")
        for voter in voters:
            _need_kept(cast, voter)
        # The rule refuses another number of rows.
        return rule(tuple([cast[voter] for voter in voters]))

    def undo(self, *, many=1):
        """Take back so many calls, and return how many can be undone then."""
        _need_steps(self._done, many)
        for _ in range(many):
            self._undone.append(self._page)
            self._page = self._done.pop()
        return len(self._done)

    def redo(self, *, many=1):
        """Do so many calls again, and return how many can be undone then."""
        _need_steps(self._undone, many)
        for _ in range(many):
            self._done.append(self._page)
            self._page = self._undone.pop()
        return len(self._done)

    def trial(self):
        """A block at whose end the desk is as it was at its begin."""
        return self

    def __enter__(self):
        self._mark = Mark(self._page, self._done, self._undone, self._mark)
        self._done = list(self._done)
        self._undone = list(self._undone)
        return self

    def __exit__(self, kind, value, trace):
        mark = self._mark
        self._page = mark.page
        self._done = mark.done
        self._undone = mark.undone
        self._mark = mark.outer

    def during(self, call):
        """What the call returns for the desk, which is behind it as it was."""
        with self.trial() as desk:
            found = call(desk)
        return found

    def twin(self):
        """An independent copy, with what can be undone and done again."""
        other = Desk(self._page.subject)
        other._page = self._page
        other._done = list(self._done)
        other._undone = list(self._undone)
        return other
