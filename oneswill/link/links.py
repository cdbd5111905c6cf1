"""Links between answers, chains of links, and the knots that they make."""

from oneswill.base.agendas import contrary, is_answer_to
from oneswill.base.checks import need_agenda, need_answer
from oneswill.base.clashes import least_clashes


def _pairs_in(clash):
    """The pairs of answers between which a least clash shows a link."""
    return [(one, contrary(other)) for one in clash for other in clash if one != other]


def shown_links(agenda):
    """A dict from the links, as pairs of answers, to the first least clash that shows each."""
    shown = {}
    for clash in least_clashes(agenda):
        for pair in _pairs_in(clash):
            if pair not in shown:
                shown[pair] = clash
    return shown


def web_of(agenda, pairs):
    """For each answer of the agenda the answers that stand behind it in these pairs."""
    web = {answer: [] for answer in agenda.answers}
    for one, other in pairs:
        web[one].append(other)
    return web


def link_web(agenda):
    """For each answer of the agenda the answers to which links lead from it."""
    return web_of(agenda, list(shown_links(agenda)))


def led_from(web, start):
    """For each answer to which chains lead from the first one: the answer ahead of it in a shortest chain."""
    ahead = {start: None}
    level = [start]
    while len(level) > 0:
        found = {}
        for one in level:
            for other in web[one]:
                if other not in ahead and other not in found:
                    found[other] = one
        ahead.update(found)
        level = list(found)
    return ahead


def links(agenda):
    """The ascending tuple of the pairs of answers between which there is a link."""
    need_agenda(agenda)
    return tuple(sorted(shown_links(agenda)))


def clashes_for(agenda, one, other):
    """The ascending tuple of the least clashes that show a link from an answer to another one."""
    need_agenda(agenda)
    need_answer(agenda, one)
    need_answer(agenda, other)
    return tuple([clash for clash in least_clashes(agenda) if (one, other) in _pairs_in(clash)])


def is_chain(agenda, value):
    """Whether the value is a tuple of answers in which a link leads from each to the next one."""
    need_agenda(agenda)
    if not isinstance(value, tuple) or not all([is_answer_to(agenda.issues, answer) for answer in value]):
        return False
    web = link_web(agenda)
    return len(value) > 0 and all([other in web[one] for one, other in zip(value, value[1:])])


def chain(agenda, one, other):
    """A chain from an answer to another one with as few answers as possible, or None."""
    need_agenda(agenda)
    need_answer(agenda, one)
    need_answer(agenda, other)
    ahead = led_from(link_web(agenda), one)
    if other not in ahead:
        return None
    found = [other]
    while found[-1] != one:
        found.append(ahead[found[-1]])
    return tuple(found[::-1])


def led_to(agenda, answer):
    """The set of the answers to which an answer leads, with itself."""
    need_agenda(agenda)
    need_answer(agenda, answer)
    return tuple(sorted(led_from(link_web(agenda), answer)))


def knots(agenda):
    """The ascending tuple of the knots: the greatest sets of answers each of which leads to each other one."""
    need_agenda(agenda)
    web = link_web(agenda)
    led = {answer: led_from(web, answer) for answer in web}
    return tuple(sorted({tuple([other for other in led if other in led[one] and one in led[other]]) for one in led}))


def is_blocked(agenda):
    """Whether all answers of the agenda are one knot."""
    return knots(agenda) == (agenda.answers,)
