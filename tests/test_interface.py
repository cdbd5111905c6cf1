"""The names, arguments and places that the interface lists."""

import importlib
import inspect
import unittest

FUNCTIONS = {
    "oneswill.base.names": "is_integer(value) is_name(value) is_values(value)",
    "oneswill.base.agendas": "contrary(answer)",
    "oneswill.base.clashes": """is_part(agenda, value) rows_with(agenda, part) is_clash(agenda, value)
        is_least_clash(agenda, value) least_clashes(agenda) clash_in(agenda, values) by_clashes(issues, clashes)""",
    "oneswill.base.sentences": """is_sentence(value) names_in(sentence) value_of(sentence, values)
        agenda_of(issues, sentence) sentence_for(agenda)""",
    "oneswill.link.links": """links(agenda) clashes_for(agenda, one, other) is_chain(agenda, value)
        chain(agenda, one, other) led_to(agenda, answer) knots(agenda) is_blocked(agenda)""",
    "oneswill.rule.rules": """is_rule(agenda, value) breach(agenda, rule) is_breach(agenda, rule, value)
        outcome(agenda, rule, votes)""",
    "oneswill.rule.twos": """is_closed(agenda, value) closed_sets(agenda) least_closed(agenda, answers)
        rule_of(agenda, answers) set_of(agenda, rule) rules_for_two(agenda)""",
    "oneswill.rule.sums": """is_summed(agenda) sums_paper(agenda) is_sums_paper(agenda, value)
        sum_rule(issues, voters, summed) summed_voters(rule)""",
    "oneswill.rule.verdict": """has_another(agenda) another(agenda, voters) paper(agenda) is_paper(agenda, value)
        only_sums(agenda, rule)""",
    "oneswill.rule.even": """is_even_handed(rule) sides(rule) even_rule(sides, voters) has_even(agenda)
        even_sides(agenda) even_paper(agenda) is_even_paper(agenda, value) fair_at(agenda, issue)""",
    "oneswill.rule.same": """same_rule(issues, voters, table) is_same(rule) way_rule(issues, way)
        way_paper(agenda, way) is_way_paper(agenda, way, value) ways(agenda) tables_for_all(agenda, voters)""",
    "oneswill.rule.winners": """does_win(rule, voters, answer) winners(rule, answer) all_heard(rule) loss(agenda, rule)
        is_loss(agenda, rule, value) votes_of(agenda, rule, triple) ranked_knots(agenda)""",
    "oneswill.more.changed": """rows_to_add(agenda, most) rows_to_take(agenda, most) issues_to_drop(agenda)
        side_parts(agenda) beside(first, second) cut_rules(agenda, issues)""",
    "oneswill.more.orders": """orders_agenda(things) row_of(things, order) order_of(things, values) ring(things, values)
        order_outcome(things, rule, orders) least_orders(things, rule)""",
    "oneswill.more.concluded": """concluded(premises, name, sentence) kind(premises, sentence)
        is_conclusion(agenda, issue) sentence_of(agenda, issue) conclusions(agenda)""",
    "oneswill.text.formats": """write_agenda(agenda) write_rule(agenda, rule) write_value(value) read_agenda(text)
        read_rule(agenda, text) read_value(text)""",
}
METHODS = {
    "oneswill.base.agendas Agenda": """__init__(issues, rows) free(issues) with_row(row) without_row(row) turned(issues)
        renamed(names) only(issues) fixed(answer)""",
    "oneswill.rule.rules Rule": """__init__(voters, tables) of_voter(issues, voters, voter) __call__(votes) followed()
        heard(issue) only(issues) turned(issues) renamed(names) spoken(voices, voters) put_in(rules)""",
    "oneswill.desk.desk Desk": """__init__(agenda) keep(name, rule) forget(name) vote(name, row) leave(name) add(row)
        take(row) drop(issue) turn(issues) outcome(name, voters) undo(many) redo(many) trial() during(call) twin()
        row_by(name) __getitem__(name) __contains__(value) __len__() __iter__() __eq__(other) __str__()""",
    "oneswill.text.shell Shell": "__init__(agenda_text, rule_texts) desk() __call__(line) answer(line)",
}
CONSTANTS = {
    "oneswill.base.names": {"MAX_LETTERS": 8},
    "oneswill.base.agendas": {"MAX_ISSUES": 6},
    "oneswill.base.sentences": {"MAX_DEPTH": 8, "MAX_PARTS": 200},
    "oneswill.rule.rules": {"MAX_VOTERS": 4, "MAX_VOTES": 200000},
    "oneswill.rule.same": {"WAYS": ("both", "either", "most", "sum")},
    "oneswill.more.changed": {"MAX_SETS": 500},
}


def listed(text):
    """The names with the names of their parameters."""
    parts = [part.strip().split("(") for part in text.split(")") if part.strip()]
    return {name: [word.strip() for word in words.split(",") if word.strip()] for name, words in parts}


class InterfaceTest(unittest.TestCase):
    def test_functions(self):
        for name, text in FUNCTIONS.items():
            module = importlib.import_module(name)
            for function, parameters in listed(text).items():
                found = getattr(module, function)
                self.assertEqual(found.__module__, name)
                self.assertEqual(list(inspect.signature(found).parameters), parameters, function)

    def test_methods(self):
        for place, text in METHODS.items():
            name, kind = place.split()
            made = getattr(importlib.import_module(name), kind)
            self.assertEqual(made.__module__, name)
            for method, parameters in listed(text).items():
                found = vars(made)[method]
                told = list(inspect.signature(getattr(found, "__func__", found)).parameters)
                self.assertEqual(told[1:], parameters, method)

    def test_constants(self):
        for name, values in CONSTANTS.items():
            for constant, value in values.items():
                self.assertEqual(repr(getattr(importlib.import_module(name), constant)), repr(value))


if __name__ == "__main__":
    unittest.main()
