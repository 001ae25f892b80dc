"""The names, arguments and classes that the interface lists, in the files under which it lists them."""

import importlib
import inspect
import unittest

FUNCTIONS = {
    "names": ("is_name(value)", "is_number(value, least, most)", "is_names(value, least, most)"),
    "parts": ("is_fraction(value)", "made(part, whole)", "plus(one, other)", "minus(one, other)", "times(one, other)",
              "through(one, other)", "less(one, other)", "rounded(fraction, way)", "write(fraction)", "read(text)",
              "dealt(amount, weights)"),
    "lines": ("is_word(value)", "line_of(words)", "words_of(line)", "number_word(number)", "number_of(word)",
              "read_sheet(text)", "write_sheet(rows)"),
    "days": ("is_day(value)", "weekday(day)"),
    "civil": ("is_leap(year)", "month_days(year, month)", "date_of(day)", "day_of(year, month, day)",
              "months_later(day, months)", "easter(year)"),
    "calendars": ("is_calendar(value)", "kind_of(calendar, day)", "open_days(calendar, first, behind)",
                  "next_open(calendar, day)", "last_open(calendar, day)", "same_kinds(calendar, other, first, behind)"),
    "terms": ("is_rule(value)", "last_day(calendar, rule, start)", "paper_of(calendar, rule, start)",
              "shows_last(calendar, rule, start, paper)", "last_start(calendar, rule, day)",
              "first_start(calendar, rule, day)"),
    "regimes": ("is_regimes(value)", "regime_at(regimes, day)", "rule_at(regimes, day, word)",
                "last_by(regimes, start, word)", "history(regimes, start, word)",
                "is_in_time(regimes, start, word, day)", "starts_in_time(regimes, word, day, low)",
                "least_inversion(regimes, word, low, high)"),
    "kinds": ("is_duty_rule(value)", "is_kind(value)", "is_parties(value)", "is_deed(value)"),
    "rulebook": ("is_rule_book(value)", "duty_rule(book, duty)", "kind_rule(book, kind)", "roles_of(book)"),
    "docket": ("docket_of(book, regimes, entries)",),
    "standing": ("scene(docket, d, k)", "words(docket, d, k)"),
    "asof": ("duty_state(docket, cause, opened, party, duty, d, k)", "grounds(docket, cause, opened, party, duty, d, k)",
             "tells(docket, numbers, cause, opened, party, duty, d, k)", "overtaken(docket, k)",
             "turns(docket, cause, opened, party, duty, d)", "news(docket, d, k, m)",
             "windows(docket, cause, party, kind, d, k)"),
    "loose": ("loose_moves(book, state)", "after(book, state, move)", "reached_states(book)", "course_to(book, kind)",
              "dead_course(book)", "laid(book, regimes, course)"),
    "levels": ("is_ladder(value)", "is_heads(value)", "is_allowances(value)", "top(ladder)"),
    "appeals": ("matter_of(ladder, heads, allowances, regimes, stays, moves)",),
    "finality": ("endings(matter, day)", "may_end(matter, day, head)", "is_final(matter, day, head)",
                 "becomes_final(matter, day, head)", "way_to(matter, day, head, value)",
                 "way_to_ending(matter, day, ending)", "is_way(matter, day, way)", "ending_of(matter, way)"),
    "fees": ("is_tariff(value)", "is_fee_book(value)", "fee_of(tariff, value)", "first_unfair(tariff)",
             "fee_due(book, name, value, begun, filed)"),
    "bills": ("is_rates(value)", "is_bill(value)", "interest(principal, rates, first, behind)",
              "owed(bill, rates, way, day)", "clearing(bill, rates, way, day)"),
    "shifting": ("is_expense(value)", "is_judgment(value)", "is_rule(value)", "plain(debts)",
                 "order(expenses, judgment, rule)", "turn(expenses, earlier, later, rule)",
                 "burden(expenses, judgment, rule, party)",
                 "greatest_burden(expenses, judgment, open_heads, rule, party)",
                 "is_enough(expenses, judgment, open_heads, rule, party, security)"),
    "nets": ("balances(debts)", "settles(debts, payments)", "groups(debts)", "payments(debts)", "fewest(debts)"),
    "lowering": ("is_lowering(debts, left)", "least_lowering(debts)", "shows(debts, left, prices)"),
    "benches": ("is_hours(value)", "is_bench(value)", "has_slot(hours, day, slot)", "judge_of(bench, name)",
                "able_judges(bench, kind, day)", "rooms_in(bench, day)"),
    "slots": ("is_list(bench, value)", "usable(bench, day, hearing)", "demand(hearings, names)",
              "supply(bench, day, hearings, names)", "is_part(bench, day, hearings, value)",
              "is_placing(bench, day, hearings, value)", "is_lack(bench, day, hearings, value)"),
    "placing": ("place(bench, day, hearings)", "lack(bench, day, hearings)", "most_part(bench, day, hearings)",
                "most_set(bench, day, hearings)", "rooms_of(bench, day, hearings, value)",
                "first_good(bench, calendar, hearings, day, many)"),
    "wheels": ("is_wheel(value)", "is_log(value)", "full_state(wheel)", "deal(wheel, state, barred, draw)",
               "first_fault(wheel, log)", "run_wheel(wheel, causes)", "fills(wheel, log)"),
    "chances": ("chances(wheel, state, barred)", "chance_of(wheel, record)",
                "tail(wheel, barred_rows, judge, number)"),
    "bounds": ("is_day(promise, value)", "is_within(promise, course)", "start_state(promise)",
               "is_state(promise, value)", "moves(promise, state)", "is_move(promise, state, move)"),
    "courses": ("filed_rows(promise, state, move)", "is_lawful(promise, state, move, dealing)",
                "dealings(promise, state, move)", "next_morning(promise, state, move, dealing)",
                "earliest_first(promise, state, move)", "run_course(promise, course, dealer)"),
    "games": ("reached(promise)", "lost_states(promise)", "can_keep(promise)"),
    "books": ("made_book(promise)", "made_trap(promise)", "closes(promise, book)", "shuts(promise, trap)",
              "deal_by(promise, book, course)", "spring(promise, trap, choices)"),
    "demand": ("most_filed(promise, kind, n)", "most_absent(promise, n)", "demand(promise, n)", "supply(promise, n)",
               "period(promise)", "first_lack(promise)", "burst(promise, n)"),
    "least": ("fewest_judges(promise)", "shortest_term(promise, kind)"),
    "pledges": ("is_pledge(value)", "suits(pledge, bench)", "promise_of(pledge, bench)",
                "court_days(calendar, day, many)", "is_filings(pledge, value)", "counted(filings, days)",
                "course_of(pledge, bench, filings, days)"),
    "rolls": ("roll_by(pledge, bench, filings, days, dealings)", "is_sound(pledge, bench, filings, days, roll)",
              "forfeits(pledge, bench, filings, days, roll)", "dealt_roll(pledge, bench, filings, days, book)"),
    "service": ("is_manner(value)", "is_powers(value)", "is_events(value)",
                "is_chain(powers, party, taker, day, longest, chain)",
                "least_chain(powers, party, taker, day, longest)", "agents(powers, party, day, longest)",
                "counts_on(calendar, manner, powers, party, events, number)",
                "served_on(calendar, manner, powers, party, events)",
                "known_on(calendar, manner, powers, party, events, day)",
                "all_served(calendar, manner, powers, parties, events)",
                "unserved(calendar, manner, powers, parties, events, day)"),
    "proofs": ("shows(calendar, manner, powers, party, events, proof)",
               "made_proof(calendar, manner, powers, party, events)"),
    "charter": ("is_charter(value)", "is_office_deed(value)"),
    "office": ("office_of(charter, log)",),
    "answers": ("certify(office, question)",),
    "judge": ("holds(charter, log, certificate)",),
    "notices": ("notices(office, n)", "lying_still(office)", "surprises(office, k)"),
    "scripts": ("line_of_deed(deed)", "deed_of_line(line)", "log_text(log)", "log_of(text)", "run_script(office, text)"),
    "stays": ("is_stay(value)", "is_stays(value)", "touching(stays, cause, party)", "state_of(stays, day)",
              "union_of(stays)", "lifted(stays, number, day)"),
    "running": ("last_under(calendar, rule, stays, start)", "paper_under(calendar, rule, stays, start)",
                "shows_under(calendar, rule, stays, start, paper)", "left_on(calendar, rule, stays, start, day)",
                "last_day(regimes, stays, start, word)", "is_in_time(regimes, stays, start, word, day)",
                "starts_in_time(regimes, stays, word, day, low)"),
}
CLASSES = {
    ("docket", "Docket"): ("__init__(self, book, regimes)", "enter(self, entered, held, deed)", "entries(self)",
                           "rows(self, k)", "struck(self, k)"),
    ("standing", "Scene"): ("__init__(self, docket)", "play(self, number, day)", "causes(self)",
                            "is_ended(self, cause)", "filings(self, cause)", "duties(self, cause, d)", "stays(self)"),
    ("appeals", "Matter"): ("__init__(self, ladder, heads, allowances, regimes, stays)", "judge(self, day, head, result)",
                            "appeal(self, day, head)", "send(self, day, head)", "moves(self)", "state(self, head)",
                            "left(self)", "value(self, head)", "can_appeal(self, day, head)"),
    ("bounds", "Promise"): ("__init__(self, judges, kinds, absences)",),
    ("office", "Office"): ("__init__(self, charter)", "do(self, deed)", "today(self)", "log(self)", "docket(self)",
                           "judge_for(self, cause)", "served(self, number, party, k)", "matter(self, cause, k)",
                           "judgment(self, cause, k)", "order(self, cause, k)", "turn(self, cause, k, m)",
                           "fees(self, cause, k)", "hearings(self, day, k)", "as_of(self, k)"),
}


class Interface(unittest.TestCase):
    def check(self, told, found, module):
        self.assertEqual(told, told.partition("(")[0] + str(inspect.signature(found)))
        self.assertEqual(found.__module__, module)

    def test_functions(self):
        for stem, rows in FUNCTIONS.items():
            module = importlib.import_module("docketloom." + stem)
            for told in rows:
                self.check(told, getattr(module, told.partition("(")[0]), module.__name__)

    def test_classes(self):
        for (stem, name), rows in CLASSES.items():
            found = getattr(importlib.import_module("docketloom." + stem), name)
            self.assertEqual(found.__module__, "docketloom." + stem)
            for told in rows:
                # The method stands in the class itself.
                self.check(told, vars(found)[told.partition("(")[0]], "docketloom." + stem)


if __name__ == "__main__":
    unittest.main()
