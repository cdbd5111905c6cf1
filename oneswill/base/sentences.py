"""Sentences: names joined by not, and, or, same."""

from oneswill.errors import InvalidAgenda, InvalidOperation, InvalidSentence, UnknownName
from oneswill.base.agendas import Agenda, is_issues
from oneswill.base.checks import need_agenda
from oneswill.base.names import all_values, is_name, is_value

MAX_DEPTH = 8
MAX_PARTS = 200


def _has_right_length(word, many):
    """Whether so many sentences can stand behind the word."""
    if word == "not":
        return many == 1
    if word == "same":
        return many == 2
    return word in ("and", "or") and 1 <= many <= MAX_PARTS


def _is_sentence(value, depth):
    """Whether the value is a sentence with at most so many tuples one in another."""
    if not isinstance(value, tuple):
        return is_name(value)
    if depth == 0 or len(value) == 0 or not _has_right_length(value[0], len(value) - 1):
        return False
    return all([_is_sentence(part, depth - 1) for part in value[1:]])


def is_sentence(value):
    """Whether the value is a sentence."""
    return _is_sentence(value, MAX_DEPTH)


def need_sentence(sentence):
    """Refuse what is no sentence."""
    if not is_sentence(sentence):
        raise InvalidSentence("no sentence")


def _all_names(sentence):
    """The names in a sentence, as they come."""
    if isinstance(sentence, str):
        return [sentence]
    return [name for part in sentence[1:] for name in _all_names(part)]


def names_in(sentence):
    """The set of the names in a sentence."""
    need_sentence(sentence)
    return tuple(sorted(set(_all_names(sentence))))


def _both(parts, full):
    """The cases that all of these have."""
    for part in parts:
        full = full & part
    return full


def _joined(word, parts, full):
    """The bits of a sentence with this word, by those of the sentences behind it."""
    if word == "not":
        return full ^ parts[0]
    if word == "same":
        return full ^ parts[0] ^ parts[1]
    if word == "and":
        return _both(parts, full)
    # Some part has value 1 unless all have value 0.
    return full ^ _both([full ^ part for part in parts], full)


def _bits_of(sentence, bits, full):
    """The values of a sentence in several cases, as bits; so are told those of its names, and value 1 in all cases."""
    if isinstance(sentence, str):
        return bits[sentence]
    return _joined(sentence[0], [_bits_of(part, bits, full) for part in sentence[1:]], full)


def _has_right_values(value, names):
    """Whether the value is a dict from all of these names, and perhaps other names, to 0 and 1."""
    if not isinstance(value, dict) or not all([name in value for name in names]):
        return False
    return all([is_name(key) and is_value(item) for key, item in value.items()])


def value_of(sentence, values):
    """The value of a sentence, by a dict from its names to 0 and 1."""
    if not _has_right_values(values, names_in(sentence)):
        raise InvalidOperation("no dict from all names of the sentence to 0 and 1")
    return _bits_of(sentence, values, 1)


def rows_for(issues, sentence):
    """The ascending tuple of all rows for these issues for which the sentence has value 1."""
    rows = all_values(len(issues))
    bits = {}
    for at, issue in enumerate(issues):
        bits[issue] = sum([row[at] << number for number, row in enumerate(rows)])
    told = _bits_of(sentence, bits, (1 << len(rows)) - 1)
    return tuple([row for number, row in enumerate(rows) if (told >> number) & 1 == 1])


def agenda_of(issues, sentence):
    """The agenda with these issues of all rows for which the sentence has value 1."""
    if not is_issues(issues):
        raise InvalidAgenda("the issues are no set of one to six names")
    for name in names_in(sentence):
        if name not in issues:
            raise UnknownName(name)
    return Agenda(issues, rows_for(issues, sentence))


def sentence_for_row(issues, row):
    """A sentence that has value 1 for this row alone."""
    parts = [issue if value == 1 else ("not", issue) for issue, value in zip(issues, row)]
    return ("and", *parts)


def sentence_for(agenda):
    """A sentence by which agenda_of returns this agenda."""
    need_agenda(agenda)
    parts = [sentence_for_row(agenda.issues, row) for row in agenda.rows]
    return ("or", *parts)
