"""Rules: a table for each issue, and what they make of votes."""

from oneswill.errors import InvalidNumber, InvalidOperation, InvalidRule, NoRow, TooMany, UnknownName
from oneswill.base.agendas import has_issues_as_keys, is_issues, new_names
from oneswill.base.checks import need_agenda
from oneswill.base.names import all_values, has_values, is_ascending, is_integer, is_subset

MAX_VOTERS = 4
MAX_VOTES = 200000


def need_issues(issues):
    """Refuse what is no set of issues for a rule."""
    if not is_issues(issues):
        raise InvalidRule("the issues are no set of one to six names")


def need_voters(voters):
    """Refuse what is no number of voters."""
    if not is_integer(voters) or not 1 <= voters <= MAX_VOTERS:
        raise InvalidNumber(voters)


def _is_table(value, voters):
    """Whether the value is a table for so many voters."""
    return has_values(value, 1 << voters) and value[0] == 0 and value[-1] == 1


def _are_tables(value, voters):
    """Whether the value is a dict from one to six names to tables."""
    return has_issues_as_keys(value) and all([_is_table(table, voters) for table in value.values()])


def _follow_table(voters, voter):
    """The table that says what this voter says."""
    return tuple([values[voter] for values in all_values(voters)])


def are_voters(value, voters):
    """Whether the value is a set of some of so many voters, perhaps of none."""
    if not isinstance(value, tuple) or not all([is_integer(voter) and 0 <= voter < voters for voter in value]):
        return False
    return is_ascending(value)


def place_of(values):
    """The place of the values in Python's order of all such tuples: they are the bits of this number."""
    place = 0
    for value in values:
        place = 2 * place + value
    return place


def _hangs_on(table, step):
    """Whether the table changes with the values of the voter, by which places go up and down by this step."""
    return any([value != table[at ^ step] for at, value in enumerate(table)])


class Rule:
    """A table for each issue, all for the same number of voters; it never changes."""

    def __init__(self, voters, tables):
        need_voters(voters)
        if not _are_tables(tables, voters):
            raise InvalidRule("no dict from one to six names to tables for so many voters")
        self._voters = voters
        self._issues = tuple(sorted(tables))
        self._tables = {issue: tables[issue] for issue in self._issues}

    @classmethod
    def of_voter(cls, issues, voters, voter):
        """The rule that follows a voter."""
        need_issues(issues)
        need_voters(voters)
        if not is_integer(voter) or not 0 <= voter < voters:
            raise InvalidNumber(voter)
        table = _follow_table(voters, voter)
        return cls(voters, {issue: table for issue in issues})

    @property
    def voters(self):
        """The number of the voters."""
        return self._voters

    @property
    def issues(self):
        """The set of the issues."""
        return self._issues

    def __getitem__(self, issue):
        if issue not in self._issues:
            raise UnknownName(issue)
        return self._tables[issue]

    def __call__(self, votes):
        if not self._are_votes(votes):
            raise InvalidOperation("no tuple of one value for each issue for each voter")
        columns = list(zip(*votes))
        return tuple([self[issue][place_of(column)] for issue, column in zip(self._issues, columns)])

    def _are_votes(self, value):
        """Whether the value is a tuple of one value, any, for each issue for each voter."""
        if not isinstance(value, tuple) or len(value) != self._voters:
            return False
        return all([has_values(values, len(self._issues)) for values in value])

    def __contains__(self, value):
        return value in self._issues

    def __len__(self):
        return len(self._issues)

    def __eq__(self, other):
        return isinstance(other, Rule) and self._voters == other._voters and self._tables == other._tables

    def __str__(self):
        return f"rule of {self._voters} voters, {len(self._issues)} issues"

    def __iter__(self):
        return iter(self._issues)

    def followed(self):
        """The voter whom the rule follows, or None."""
        for voter in range(self._voters):
            table = _follow_table(self._voters, voter)
            if all([self[issue] == table for issue in self._issues]):
                return voter
        return None

    def heard(self, issue):
        """The set of the voters whose value can change the rule's value for the issue."""
        table = self[issue]
        # The first voter's value counts most in the order of the tuples.
        steps = [1 << (self._voters - 1 - voter) for voter in range(self._voters)]
        return tuple([voter for voter, step in enumerate(steps) if _hangs_on(table, step)])

    def only(self, issues):
        """The rule with these issues alone."""
        if issues == () or not is_subset(issues, self._issues):
            raise InvalidOperation("no set of one or more issues of the rule")
        return Rule(self._voters, {issue: self[issue] for issue in issues})

    def turned(self, issues):
        """The rule with all values, of voters and of the rule, exchanged for these issues."""
        if not is_subset(issues, self._issues):
            raise InvalidOperation("no set of issues of the rule")
        tables = {name: self[name] for name in self._issues}
        for issue in issues:
            tables[issue] = tuple([1 - value for value in self[issue][::-1]])
        return Rule(self._voters, tables)

    def renamed(self, names):
        """The rule with other names of issues, by a dict from old names to new ones."""
        renamed = new_names(self._issues, names)
        return Rule(self._voters, {name: self[issue] for name, issue in zip(renamed, self._issues)})

    def spoken(self, voices, voters):
        """The rule for so many voters in which a voter of them speaks for each voter of this rule."""
        if not isinstance(voices, tuple) or len(voices) != self._voters:
            raise InvalidOperation("no tuple of one voter for each voter of the rule")
        if not all([is_integer(voice) and voice >= 0 for voice in voices]):
            raise InvalidOperation("a voter is no integer of at least 0")
        need_voters(voters)
        if not all([voice < voters for voice in voices]):
            raise InvalidOperation("no such voter")
        places = [place_of([values[voice] for voice in voices]) for values in all_values(voters)]
        return Rule(voters, {issue: tuple([self[issue][at] for at in places]) for issue in self._issues})

    def put_in(self, rules):
        """The rule in which each voter of this rule says what the rule at its place says."""
        if not self._can_put_in(rules):
            raise InvalidOperation("no tuple of one rule like the others for each voter of the rule")
        tables = {}
        for issue in self._issues:
            inner = [rule[issue] for rule in rules]
            tables[issue] = tuple([self[issue][place_of(values)] for values in zip(*inner)])
        return Rule(rules[0].voters, tables)

    def _can_put_in(self, value):
        """Whether the value is a tuple of one rule for each voter, with these issues and equally many voters."""
        if not isinstance(value, tuple) or len(value) != self._voters:
            return False
        if not all([isinstance(rule, Rule) and rule.issues == self._issues for rule in value]):
            return False
        return all([rule.voters == value[0].voters for rule in value])


def has_issues_of(agenda, value):
    """Whether the value is a rule with the issues of the agenda."""
    return isinstance(value, Rule) and value.issues == agenda.issues


def need_rule(agenda, rule):
    """Refuse what is no rule with the issues of the agenda."""
    if not has_issues_of(agenda, rule):
        raise InvalidRule("no rule with the issues of the agenda")


def need_any_rule(rule):
    """Refuse what is no rule."""
    if not isinstance(rule, Rule):
        raise InvalidRule("no rule")


def need_two_voters(rule):
    """Refuse what is no rule for two voters."""
    need_any_rule(rule)
    if rule.voters != 2:
        raise InvalidRule("no rule for two voters")


def has_few_votes(agenda, voters):
    """Whether rows of the agenda, as votes of so many voters, are few enough to look at all of them."""
    many = 1
    for _ in range(voters):
        many = many * len(agenda)
    return many <= MAX_VOTES


def _one_voter_more(rows, cases):
    """The cases behind one voter more: from the parts of the tables that are left to votes that leave them."""
    found = {}
    for tables, votes in cases.items():
        half = len(tables) // 2
        pairs = list(zip(tables[:half], tables[half:]))
        for bits, row in rows.items():
            left = tuple([no ^ ((no ^ yes) & bits) for no, yes in pairs])
            if left not in found:
                found[left] = (*votes, row)
    return found


def _first_breach(agenda, rule):
    """Rows of the agenda, as votes, whose outcome is no row, or None."""
    # All issues are looked at together, as the bits of one number for each row and for each place of the tables.
    rows = {place_of(row): row for row in agenda.rows}
    tables = [rule[issue] for issue in agenda.issues]
    # Votes that leave the same parts of all tables have the same outcomes from there on, so one of them is enough.
    cases = {tuple([place_of(column) for column in zip(*tables)]): ()}
    for _ in range(rule.voters):
        cases = _one_voter_more(rows, cases)
    for told, votes in cases.items():
        if told[0] not in rows:
            return votes
    return None


def is_rule(agenda, value):
    """Whether the value is a rule for the agenda."""
    need_agenda(agenda)
    return has_issues_of(agenda, value) and breach(agenda, value) is None


def breach(agenda, rule):
    """Rows of the agenda, as votes, whose outcome is no row, or None if the rule is one for the agenda."""
    need_agenda(agenda)
    need_rule(agenda, rule)
    if not has_few_votes(agenda, rule.voters):
        raise TooMany(MAX_VOTES)
    return _first_breach(agenda, rule)


def need_rule_for(agenda, rule):
    """Refuse what is no rule for the agenda: no rule with its issues, too many votes, or an outcome that is no row."""
    votes = breach(agenda, rule)
    if votes is not None:
        raise NoRow(votes)


def _are_votes_of(agenda, rule, value):
    """Whether the value is a tuple of one row of the agenda for each voter."""
    return isinstance(value, tuple) and len(value) == rule.voters and all([row in agenda for row in value])


def is_breach(agenda, rule, value):
    """Whether the value is rows of the agenda, as votes, whose outcome is no row."""
    need_agenda(agenda)
    need_rule(agenda, rule)
    return _are_votes_of(agenda, rule, value) and rule(value) not in agenda


def outcome(agenda, rule, votes):
    """The outcome of rows of the agenda, as votes."""
    need_agenda(agenda)
    need_rule(agenda, rule)
    if not _are_votes_of(agenda, rule, votes):
        raise InvalidOperation("no tuple of one row of the agenda for each voter")
    row = rule(votes)
    if row not in agenda:
        raise NoRow(votes)
    return row
