"""The commands of the shell: what stands behind each, and what it does at a desk."""

from oneswill.base.clashes import least_clashes
from oneswill.base.names import is_name
from oneswill.link.links import is_blocked, knots, links
from oneswill.rule.even import even_sides
from oneswill.rule.rules import Rule
from oneswill.rule.same import ways
from oneswill.rule.twos import closed_sets
from oneswill.rule.verdict import another, paper
from oneswill.text.formats import figures_of, is_figures, is_number_word, values_of
from oneswill.text.formats import write_agenda, write_rule, write_value


def _or_none(text):
    """The text, or a word for an empty one."""
    return "none" if text == "" else text


def _line_of(answers):
    """The line that tells some answers."""
    return ", ".join([f"{issue} {value}" for issue, value in answers])


def _lines_of(parts):
    """A line for each of some parts, or a word for none."""
    return _or_none("\n".join([_line_of(part) for part in parts]))


def _keep(desk, told):
    """Keep a rule."""
    tables, issues = told[2:], desk.agenda.issues
    if len(tables) != len(issues):
        return "rule"
    desk.keep(told[0], Rule(told[1], dict(zip(issues, tables))))
    return "done"


def _forget(desk, told):
    """Forget a rule."""
    desk.forget(told[0])
    return "done"


def _vote(desk, told):
    """Hand in a row."""
    desk.vote(told[0], told[1])
    return "done"


def _leave(desk, told):
    """Let a voter go."""
    desk.leave(told[0])
    return "done"


def _add(desk, told):
    """Add a row."""
    desk.add(told[0])
    return "done"


def _take(desk, told):
    """Take a row."""
    desk.take(told[0])
    return "done"


def _drop(desk, told):
    """Drop an issue."""
    desk.drop(told[0])
    return "done"


def _turn(desk, told):
    """Turn issues."""
    desk.turn(tuple(told))
    return "done"


def _undo(desk, told):
    """Take back calls."""
    desk.undo(many=told[0])
    return "done"


def _redo(desk, told):
    """Do calls again."""
    desk.redo(many=told[0])
    return "done"


def _agenda(desk, _):
    """The text of the agenda."""
    return write_agenda(desk.agenda)


def _names(desk, _):
    """The names of the rules."""
    return _or_none(" ".join(desk.names))


def _people(desk, _):
    """The names of the voters."""
    return _or_none(" ".join(desk.people))


def _rule(desk, told):
    """The text of a rule."""
    return write_rule(desk.agenda, desk[told[0]])


def _row(desk, told):
    """The row of a voter."""
    return figures_of(desk.row_by(told[0]))


def _outcome(desk, told):
    """The outcome of a rule for some voters."""
    return figures_of(desk.outcome(told[0], tuple(told[1:])))


def _clashes(desk, _):
    """The least clashes."""
    return _lines_of(least_clashes(desk.agenda))


def _links(desk, _):
    """The links."""
    return _lines_of(links(desk.agenda))


def _knots(desk, _):
    """The knots."""
    return _lines_of(knots(desk.agenda))


def _blocked(desk, _):
    """Whether the agenda is blocked."""
    return "yes" if is_blocked(desk.agenda) else "no"


def _twos(desk, _):
    """The number of the rules for two voters."""
    return str(len(closed_sets(desk.agenda)))


def _another(desk, told):
    """The text of a rule for so many voters that follows none of them."""
    rule = another(desk.agenda, told[0])
    return "none" if rule is None else write_rule(desk.agenda, rule)


def _paper(desk, _):
    """The paper of the agenda."""
    found = paper(desk.agenda)
    if found[0] == "another":
        return "another\n" + write_rule(desk.agenda, found[1])
    return "\n".join(["one", write_value(found[1]), write_value(found[2])])


def _even(desk, _):
    """The sides of the even-handed rules."""
    return _lines_of([list(told.items()) for told in even_sides(desk.agenda)])


def _ways(desk, _):
    """The ways whose rules are rules for the agenda."""
    return _or_none(" ".join(ways(desk.agenda)))


# What stands behind each command; the last of it stands once or several times where "more" is behind it.
_FORMS = {
    "keep": ("name", "number", "figures", "more"),
    "forget": ("name",),
    "vote": ("name", "figures"),
    "leave": ("name",),
    "add": ("figures",),
    "take": ("figures",),
    "drop": ("name",),
    "turn": ("name", "more"),
    "undo": ("number",),
    "redo": ("number",),
    "agenda": (),
    "names": (),
    "people": (),
    "rule": ("name",),
    "row": ("name",),
    "outcome": ("name", "name", "more"),
    "clashes": (),
    "links": (),
    "knots": (),
    "blocked": (),
    "twos": (),
    "another": ("number",),
    "paper": (),
    "even": (),
    "ways": (),
}

_ACTIONS = {
    "keep": _keep,
    "forget": _forget,
    "vote": _vote,
    "leave": _leave,
    "add": _add,
    "take": _take,
    "drop": _drop,
    "turn": _turn,
    "undo": _undo,
    "redo": _redo,
    "agenda": _agenda,
    "names": _names,
    "people": _people,
    "rule": _rule,
    "row": _row,
    "outcome": _outcome,
    "clashes": _clashes,
    "links": _links,
    "knots": _knots,
    "blocked": _blocked,
    "twos": _twos,
    "another": _another,
    "paper": _paper,
    "even": _even,
    "ways": _ways,
}


def _kinds_of(form, many):
    """What so many words are by a form, which perhaps takes another number of them."""
    if form[-1:] != ("more",):
        return form
    # Less than none of the last one is none.
    return form[:-1] + form[-2:-1] * (many - len(form) + 1)


def _is_told(kind, word):
    """Whether a word is of a kind."""
    if kind == "name":
        return is_name(word)
    return is_number_word(word) if kind == "number" else is_figures(word)


def _told_by(kind, word):
    """The value that a word of a kind tells."""
    if kind == "name":
        return word
    return int(word) if kind == "number" else values_of(word)


def _told_behind(form, words):
    """The values that the words tell by a form, or None if they do not have it."""
    kinds = _kinds_of(form, len(words))
    if len(kinds) != len(words) or not all([_is_told(kind, word) for kind, word in zip(kinds, words)]):
        return None
    return [_told_by(kind, word) for kind, word in zip(kinds, words)]


def do_line(desk, line):
    """Do the command of a line at a desk, and return the answer."""
    if not isinstance(line, str):
        return "what"
    # Without a number it is one call that is undone, or done again.
    words = [line, "1"] if line in ("undo", "redo") else line.split(" ")
    if words[0] not in _FORMS:
        return "what"
    told = _told_behind(_FORMS[words[0]], words[1:])
    if told is None:
        return "what"
    action = _ACTIONS[words[0]]
    return action(desk, told)
