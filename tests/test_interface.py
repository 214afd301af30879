"""What the interface lists is defined under its heading, with its arguments in their order."""

import ast
import pathlib
import unittest

PACKAGE = pathlib.Path(__file__).resolve().parent.parent / "lotshown"

CLASSES = {"errors": ("LotError", "OutOfRange", "Malformed", "NotThere", "Refused", "TooMuch"), "office": ("Round", "Claimed", "Office")}

# The rules of the language allow no parameter with the name of a builtin, so that "round" is called otherwise.
METHODS = ("do(self, deed)", "time(self)", "log(self)", "current(self)", "publications(self)", "accounts(self)", "state(self, at_round, number)",
           "prize(self, at_round, number)")

FUNCTIONS = {
    "names": ("is_name(value)", "is_number(value, least, most)", "is_names(value, least, most)"),
    "parts": ("is_fraction(value)", "made(part, whole)", "plus(one, other)", "minus(one, other)", "times(one, other)",
              "through(one, other)", "less(one, other)", "rounded(fraction, way)", "write(fraction)", "read(text)",
              "dealt(amount, weights)"),
    "lines": ("is_word(value)", "line_of(words)", "words_of(line)", "number_word(number)", "number_of(word)", "read_sheet(text)",
              "write_sheet(rows)"),
    "octets": ("is_octets(value, most)", "of_number(number, size)", "number_of(octets)", "of_text(text)", "hexed(octets)",
               "unhexed(text)", "packed(parts)", "unpacked(octets)"),
    "digest": ("constants()", "start_words()", "digest(octets)", "seal(width, octets)", "is_seal(width, value)",
               "is_coincidence(width, value)"),
    "promises": ("is_salt(value)", "promise_input(salt, value)", "promise(width, salt, value)",
                 "opens(width, promise, salt, value)"),
    "books": ("extension(width, entries, old)", "extends(width, old_root, old, root, size, extension)",
              "extension_inputs(width, old_root, old, size, extension)", "is_sorted(entries)", "absence(width, entries, entry)",
              "is_absent(width, root, size, entry, absence)", "absence_inputs(width, size, entry, absence)"),
    "games": ("is_game(value)", "is_pick(game, value)", "is_system(game, value)", "many(game)", "alone(game, pick)",
              "holds(game, system, pick)", "held(game, system)", "picks_of(game, system)", "common(game, one, other)",
              "different(game, systems)"),
    "ranks": ("number_of(game, pick)", "pick_of(game, number)", "choice_number(n, part)", "choice_part(n, k, number)"),
    "hits": ("hits(game, pick, drawn)", "is_classes(game, value)", "class_of(game, classes, pick, drawn)",
             "wins(game, classes, system, drawn)", "best_class(game, classes, systems, drawn)"),
    "chances": ("ways_to_hit(field, h)", "chance(game, classes, place)", "escaping(game, classes, systems, place)",
                "share(game, classes, systems, place)"),
    "blocks": ("is_blocks(value)", "seller_of(blocks, number)", "may_sell(blocks, sold, seller, number)",
               "left(blocks, sold, seller)"),
    "fields": ("is_prime(value)", "power(base, exponent, modulus)", "inverse(number, q)", "value_at(q, polynomial, x)",
               "through(q, points)"),
    "sharing": ("deal(q, polynomial, n)", "secret_of(q, threshold, points)", "count(q, threshold, points, secret)",
                "polynomials(q, threshold, points, secret)"),
    "checked": ("is_group(value)", "is_element(group, value)", "promise(group, value, blind)", "row_of(group, dealing)",
                "share_of(group, dealing, index)", "checks(group, row, value)", "open_checked(group, row, shares)",
                "told(group, one, other)", "openings(group, row, shares)"),
    "joint": ("stands(group, threshold, n, paper)", "standing(group, threshold, n, papers)", "joint_row(group, rows)",
              "joint_share(group, shares)"),
    "opened": ("agreeing(q, polynomial, points)", "best_readings(q, threshold, points)", "only_reading(q, threshold, points)",
               "two_readings(q, threshold, m, changes)"),
    "machines": ("is_machine(value)", "is_plan(machine, value)", "is_payoffs(value)", "is_told(value)", "results(machine)",
                 "honest_plan(machine)", "chances(machine, plan)", "trimmed(machine)"),
    "values": ("earned(machine, plan, payoffs)", "worth_table(machine, payoffs)", "worth(machine, payoffs)",
               "made_plan(machine, payoffs)"),
    "papers": ("shows_bound(machine, payoffs, bound, paper)", "shows_worth(machine, payoffs, amount, plan, paper)"),
    "fair": ("is_fair(machine, told)", "gain(machine, told)", "is_proof(machine, payoffs)", "least_stake(machine, payoffs)"),
    "schemes": ("is_scheme(value)", "is_coalition(scheme, value)", "machine_of(scheme, coalition)", "even_chances(scheme)"),
    "tails": ("tail(scheme, coalition)", "effective_tail(scheme, coalition)", "greatest_chance(scheme, coalition, wanted)",
              "is_fair_for(scheme, coalition)", "needed_honest(scheme)"),
    "deceits": ("best_deceit(scheme, coalition, wanted)", "play(scheme, coalition, plan, values)",
                "counted(scheme, coalition, plan, wanted)"),
    "stakes": ("lure(scheme, coalition, payoffs)", "least_deterrent(scheme, coalition, payoffs)"),
    "streams": ("is_seed(value)", "block(seed, number)", "stream(seed, count)", "digits(seed, base, count)"),
    "picks": ("is_manner(value)", "draw_below(n, manner, base, row)", "chance_below(n, manner, base, result)",
              "unfairness(n, manner, base)", "drawn(game, seed)"),
    "shuffles": ("is_recipe(value)", "is_draw(value)", "play(draw, row)", "play_seed(recipe, manner, base, seed)", "most_read(draw)"),
    "bias": ("table(draw)", "ideal(recipe)", "distance(one, other)", "is_fair(draw)", "parting_row(one, other)",
             "least_digits(kind, tries, base, n, most)", "least_tries(m, base, n, most)"),
    "prizes": ("is_class(value)", "is_table(value)", "is_outcome(table, value)", "is_state(table, value)", "start_state(table)",
               "settle(table, state, outcome)"),
    "rounds": ("play(table, course)", "reserves(table, course, reserve)", "paid(table, course)"),
    "reserves": ("is_program(value)", "reached(program)", "least_reserve(program)", "made_book(program)", "made_loss(program)",
                 "tight_course(program)", "holds(program, book)", "loses(program, loss)", "is_tight(program, reserve, course)"),
    "alike": ("first_parting(one, other, outcomes)", "failing(program, weights, reserve, rounds)"),
    "dealt": ("is_parts(value)", "got(parts, coins)", "owner(parts, coin)", "dealt(parts, before, money)"),
    "circles": ("is_entry(value)", "is_course(rule, value)", "parts_behind(course)", "spells(course)"),
    "dues": ("accounts(rule, course)", "exact_account(rule, course, member)", "late(rule, course, member, number)"),
    "funds": ("is_fund_course(value)", "fund_behind(course)", "least_entry(coins, parts, number)",
              "greatest_leave(coins, parts, member)", "worth(coins, parts)", "first_worse(course)"),
    "claims": ("is_ticket(width, value)", "is_terms(value)", "is_claims(value)", "slip_value(number)", "stub_value(number)",
               "words(terms, ticket, prize, events, now)", "state(terms, ticket, prize, events, now)"),
    "payouts": ("paid_of(terms, tickets, prizes, courses, now)", "paid_to(terms, tickets, prizes, courses, now)"),
    "lapses": ("is_cast(terms, ticket, events, value)", "ends(terms, ticket, prize, events, now, cast)",
               "course_to(terms, ticket, prize, events, now, cast, end)", "is_course(terms, ticket, prize, events, now, cast, value)"),
    "charter": ("is_charter(value)", "size_of(charter)", "pick_by(charter, result)", "scheme_of(charter)", "is_deed(charter, value)"),
    "drawing": ("binding(round_number, number)", "may_show(charter, round_number, promises, party, paper, salt)",
                "outs(charter, promises, papers)", "turn(charter, promises, papers, deeds)",
                "may_do(charter, round_number, promises, papers, deeds, deed)", "is_ready(charter, promises, papers, end, time)",
                "may_draw(charter, promises, papers, deeds, times)", "result(charter, promises, papers, deeds)"),
    "office": ("office_of(charter, log)",),
    "audit": ("entry_of(charter, deed)", "sale_of(charter, entry)", "fault(charter, publications)", "settled(charter, publications)",
              "clash(width, one, other)"),
    "answers": ("certify(charter, publications, question)",),
    "judge": ("holds(charter, bulletins, certificate)",),
    "scripts": ("line_of_deed(charter, deed)", "deed_of_line(charter, line)", "log_text(charter, log)", "log_of(charter, text)",
                "run_script(office, text)"),
    "groves": ("root(width, entries)", "paper(width, entries, place)", "shows(width, root, size, place, entry, paper)",
               "inputs(width, size, place, entry, paper)", "coincidence(width, inputs)"),
}


def told(name):
    """Return the names of the classes, and the functions with their arguments, that a file defines."""
    rows = ast.parse((PACKAGE / (name + ".py")).read_text()).body
    classes = [row.name for row in rows if isinstance(row, ast.ClassDef)]
    functions = [f"{row.name}({ast.unparse(row.args)})" for row in rows if isinstance(row, ast.FunctionDef)]
    return classes, functions


class Interface(unittest.TestCase):
    def test_classes(self):
        for name, wanted in CLASSES.items():
            self.assertEqual(told(name)[0], list(wanted))

    def test_methods(self):
        rows = ast.parse((PACKAGE / "office.py").read_text()).body
        office, = [row for row in rows if isinstance(row, ast.ClassDef) and row.name == "Office"]
        found = [f"{row.name}({ast.unparse(row.args)})" for row in office.body if isinstance(row, ast.FunctionDef)]
        self.assertEqual(found[0], "__init__(self, charter)")
        self.assertEqual([row for row in METHODS if row not in found], [])
        self.assertEqual(office.bases, [])

    def test_functions(self):
        for name, wanted in FUNCTIONS.items():
            self.assertEqual([row for row in wanted if row not in told(name)[1]], [], name)


if __name__ == "__main__":
    unittest.main()
