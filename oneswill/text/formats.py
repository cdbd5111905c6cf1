"""Texts of agendas, rules and values."""

from oneswill.errors import InvalidAgenda, InvalidNumber, InvalidOperation, InvalidRule, ParseError
from oneswill.base.agendas import Agenda
from oneswill.base.checks import need_agenda
from oneswill.base.names import is_integer, is_name
from oneswill.rule.rules import Rule, need_rule

_MAX_DEPTH = 8
_MAX_DIGITS = 60
_ENDS = {"(": ")", "{": "}"}
_WORDS = {"yes": True, "no": False, "none": None}


def is_number_word(word):
    """Whether a word is an integer of at least 0, without leading zeros, of at most sixty digits."""
    if not 1 <= len(word) <= _MAX_DIGITS or not all(["0" <= sign <= "9" for sign in word]):
        return False
    return word == "0" or word[0] != "0"


def is_figures(word):
    """Whether a word is one or more of the signs 0 and 1."""
    return len(word) >= 1 and all([sign in ("0", "1") for sign in word])


def figures_of(values):
    """The figures of values."""
    return "".join([str(value) for value in values])


def values_of(figures):
    """The values that figures tell."""
    return tuple([int(sign) for sign in figures])


def write_agenda(agenda):
    """The text of an agenda."""
    need_agenda(agenda)
    rows = [f"row {figures_of(row)}" for row in agenda.rows]
    return "\n".join([" ".join(["issues"] + list(agenda.issues))] + rows)


def write_rule(agenda, rule):
    """The text of a rule with the issues of the agenda."""
    need_agenda(agenda)
    need_rule(agenda, rule)
    tables = [f"issue {issue} {figures_of(rule[issue])}" for issue in rule]
    return "\n".join([f"voters {rule.voters}"] + tables)


def _words_inside(value, depth):
    """The words between the signs around a tuple or a dict, in which so many more can stand one in another."""
    if isinstance(value, tuple):
        return [word for item in value for word in _words_of(item, depth)]
    keys = sorted(value, key=lambda one: repr(one))
    return [word for key in keys for item in (key, value[key]) for word in _words_of(item, depth)]


def _words_of(value, depth):
    """The words of a value in which at most so many tuples and dicts stand one in another."""
    if value is None:
        return ["none"]
    if isinstance(value, bool):
        return ["yes" if value else "no"]
    if is_name(value):
        return [f"={value}"]
    if is_integer(value) and value >= 0:
        return [str(value)]
    if depth == 0 or not isinstance(value, (tuple, dict)):
        raise InvalidOperation("a value without a text")
    opening = "(" if isinstance(value, tuple) else "{"
    return [opening] + _words_inside(value, depth - 1) + [_ENDS[opening]]


def write_value(value):
    """The text of a value."""
    return " ".join(_words_of(value, _MAX_DEPTH))


def _lines_of(text):
    """The lines of a text."""
    if not isinstance(text, str):
        raise InvalidOperation("no string")
    return text.split("\n")


def _is_agenda_line(words, is_first):
    """Whether the words are those of a line that can stand in the text of an agenda."""
    if is_first:
        return words[0] == "issues" and len(words) >= 2 and all([is_name(word) for word in words[1:]])
    return words[0] == "row" and len(words) == 2 and is_figures(words[1])


def _is_rule_line(words, is_first):
    """Whether the words are those of a line that can stand in the text of a rule."""
    if is_first:
        return words[0] == "voters" and len(words) == 2 and is_number_word(words[1])
    return words[0] == "issue" and len(words) == 3 and is_name(words[1]) and is_figures(words[2])


def read_agenda(text):
    """The agenda with this text."""
    lines = [line.split(" ") for line in _lines_of(text)]
    for at, words in enumerate(lines):
        if not _is_agenda_line(words, at == 0):
            raise ParseError(at)
    issues, rows = tuple(lines[0][1:]), tuple([values_of(words[1]) for words in lines[1:]])
    # What an agenda takes ascends, and so has just this text.
    try:
        return Agenda(issues, rows)
    except InvalidAgenda:
        raise ParseError(len(lines))


def _rule_of_lines(lines):
    """The rule that lines of the right forms tell, or None if there is none."""
    voters, tables = int(lines[0][1]), {words[1]: values_of(words[2]) for words in lines[1:]}
    try:
        return Rule(voters, tables)
    except (InvalidNumber, InvalidRule):
        return None


def read_rule(agenda, text):
    """The rule with the issues of the agenda that has this text."""
    need_agenda(agenda)
    lines = [line.split(" ") for line in _lines_of(text)]
    for at, words in enumerate(lines):
        if not _is_rule_line(words, at == 0):
            raise ParseError(at)
    rule = _rule_of_lines(lines)
    if rule is None or tuple([words[1] for words in lines[1:]]) != agenda.issues:
        raise ParseError(len(lines))
    return rule


def _has_no_dict(value):
    """Whether no dict is, or stands in, a value that was read."""
    if isinstance(value, tuple):
        return all([_has_no_dict(item) for item in value])
    return not isinstance(value, dict)


def _read_word(word):
    """The name, number or other value without parts that a word tells."""
    if word in _WORDS:
        return _WORDS[word]
    if word[:1] == "=" and is_name(word[1:]):
        return word[1:]
    if not is_number_word(word):
        raise ParseError(0)
    return int(word)


def _closed(opening, parts):
    """The tuple or the dict with these parts, behind its opening sign."""
    if opening == "(":
        return tuple(parts)
    keys, items = parts[::2], parts[1::2]
    if len(keys) != len(items) or not all([_has_no_dict(key) for key in keys]):
        raise ParseError(0)
    return dict(zip(keys, items))


def _read_line(line):
    """The value that a line tells, perhaps not as its text would tell it."""
    # The parts that were read, for each tuple and dict that is open, behind those of the line itself.
    opened, parts = [], [[]]
    for word in line.split(" "):
        if word in _ENDS:
            opened.append(word)
            parts.append([])
            if len(opened) > _MAX_DEPTH:
                raise ParseError(0)
        elif len(opened) > 0 and word == _ENDS[opened[-1]]:
            inner = parts.pop()
            parts[-1].append(_closed(opened.pop(), inner))
        else:
            parts[-1].append(_read_word(word))
    if len(opened) > 0 or len(parts[0]) != 1:
        raise ParseError(0)
    return parts[0][0]


def read_value(text):
    """The value with this text."""
    lines = _lines_of(text)
    value = _read_line(lines[0])
    # Equal keys, or keys in another order, are not told so by the text of a value.
    if write_value(value) != lines[0]:
        raise ParseError(0)
    if len(lines) > 1:
        raise ParseError(1)
    return value
