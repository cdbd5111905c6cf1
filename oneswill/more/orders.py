"""Agendas of orders: which of each two things stands ahead."""

from oneswill.errors import InvalidOperation
from oneswill.base.agendas import Agenda
from oneswill.base.names import has_values, is_set_of_names
from oneswill.rule.rules import is_rule, need_rule, outcome


def _need_things(things):
    """Refuse what is no set of two to four names of one letter."""
    if not is_set_of_names(things) or not 2 <= len(things) <= 4 or not all([len(thing) == 1 for thing in things]):
        raise InvalidOperation("no set of two to four names of one letter")


def _pairs(things):
    """Each two things, the lower one ahead."""
    return [(one, other) for one in things for other in things if one < other]


def _issues_of(things):
    """The issues of the agenda of orders."""
    return tuple([one + other for one, other in _pairs(things)])


def _all_orders(things):
    """All orders of the things, ascending."""
    found = [()]
    for _ in things:
        found = [(*order, thing) for order in found for thing in things if thing not in order]
    return found


def _row(things, order):
    """The row of an order."""
    places = {thing: at for at, thing in enumerate(order)}
    return tuple([int(places[one] < places[other]) for one, other in _pairs(things)])


def orders_agenda(things):
    """The agenda of orders."""
    _need_things(things)
    return Agenda(_issues_of(things), tuple(sorted([_row(things, order) for order in _all_orders(things)])))


def row_of(things, order):
    """The row of an order."""
    _need_things(things)
    if order not in _all_orders(things):
        raise InvalidOperation("no order of the things")
    return _row(things, order)


def _need_values(things, values):
    """Refuse what is no tuple of one value for each issue."""
    if not has_values(values, len(_pairs(things))):
        raise InvalidOperation("no tuple of one value for each issue")


def order_of(things, values):
    """The order with this row, or None."""
    _need_things(things)
    _need_values(things, values)
    for order in _all_orders(things):
        if _row(things, order) == values:
            return order
    return None


def ring(things, values):
    """None for a row, otherwise three things each of which is ahead of the next one, and the last one of the first."""
    _need_things(things)
    _need_values(things, values)
    ahead = [(one, other) if value == 1 else (other, one) for (one, other), value in zip(_pairs(things), values)]
    for one, other in ahead:
        for third in things:
            if (other, third) in ahead and (third, one) in ahead:
                return (one, other, third)
    # If no three go round, no more do, and who is ahead of all others stands first.
    return None


def _are_orders(things, value):
    """Whether the value is a tuple of orders of the things."""
    every = _all_orders(things)
    return isinstance(value, tuple) and all([order in every for order in value])


def order_outcome(things, rule, orders):
    """The order of the outcome of the rows of some orders, as votes."""
    agenda = orders_agenda(things)
    need_rule(agenda, rule)
    if not _are_orders(things, orders):
        raise InvalidOperation("no tuple of orders")
    # That there is one order for each voter is looked at with their rows.
    return order_of(things, outcome(agenda, rule, tuple([_row(things, order) for order in orders])))


def least_orders(things, rule):
    """The first set of three things such that the rule, cut to their issues, is none for their orders; or None."""
    need_rule(orders_agenda(things), rule)
    for three in [(*pair, third) for pair in _pairs(things) for third in things if pair[1] < third]:
        if not is_rule(orders_agenda(three), rule.only(_issues_of(three))):
            return three
    return None
