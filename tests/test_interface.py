import importlib
import inspect
import unittest

# the interface of the document, but for the errors, which stand in test_errors: file by file
INTERFACE = """
booktexts: book_text(book), read_book(text), book_fault(text), book_goes_on(text)
rowtexts: row_text(row), read_row(text), row_fault(text), word_text(word), read_word(text), word_fault(text)
tabletexts: table_text(table), read_table(text), table_text_fault(text)
plantexts: plan_text(plan), read_plan(text), plan_text_fault(text)
programtexts: program_text(program), read_program(text), program_fault(text)
steps: steps_of(book, row), behind(book, row, letter), lessening(book, row)
logs: log_fault(book, row, thing), is_log(book, row, thing), rows_after(book, row, word), ends_by(book, row, word)
logs: log_for(book, row, word)
norms: norm(book, row), norms(book), norms_fault(book, thing)
shortest: shortest_end(book, row), count_shortest(book, row), shortest_at(book, row, number)
shortest: shortest_number(book, row, word)
sides: mirrored(book), is_simple(book), is_sided(book)
levels: alike_to(book, row, other, depth), depth_apart(book, row, other, most), lots_to(book, rows, depth)
plans: plan_fault(book, row, other, thing), is_plan(book, row, other, thing), plan_depth(book, row, other, plan)
plans: plan_for(book, row, other, most), played(book, row, other, plan, answers), count_plays(book, row, other, plan)
tables: word_by(book, table, row), table_fault(book, thing), is_table(book, thing)
rounds: way_down(book, row, many), rounds(book), rounds_fault(book, thing), is_rounds(book, thing)
rounds: parts_at(book, row, other)
primes: prime_table(book), primes(book), prime_row(book, row), is_prime(book, row), alike(book, row, other)
primes: why_prime(book, name)
parts: without_left(book, row, part), without_right(book, row, part), common_left(book, row, other)
parts: common_right(book, row, other), places_in(book, row, part)
roots: root(book, row), common_root(book, rows), may_change(book, row, other)
turning: turn_of(book, row, other), least_turn(book, row), leader(book, row, other)
codes: strung(book, rows), is_strung(book, rows, thing), count_strings(book, rows, row)
codes: string_at(book, rows, row, number), string_number(book, rows, row, string)
joining: joined(book, second), renamed(book, names), talks_from(book, row), only_from(book, row)
across: alike_across(book, row, second, last), changed_talk(book, second)
least: ranks(book, row), least_book(book, row), prime_book(book)
idle: idle_rules(book), is_idle(book, name, rule), thinned(book)
allalike: count_alike(book, row), alike_at(book, row, number), alike_number(book, row, other)
allalike: shortest_alike(book, row)
words: left_by(book, row, word), next_letters(book, row, word), letter_fault(book, row, word)
words: is_finished(book, row, word), rest_of(book, row, word)
spokenwords: spoken(book, row, word), is_spoken(book, row, word, thing)
counted: count_words(book, row, most), count_apart(book, row, other, most), word_at(book, row, long, number)
counted: word_number(book, row, word)
parting: parting_word(book, row, other), is_parting_word(book, row, other, thing)
checks: check_fault(book, program), is_checked(book, program), kept_lots(book, program)
checks: gone_through(book, program, row, body), doable(book, program, row)
runs: run(program, name, choices, told, most), run_fault(book, program, name, choices, told, most)
together: together(program, name, other, last, choices, chosen, most), are_made(book, program, name, other, last)
audits: audit_table(book_text, table_text), audit_plan(book_text, row_text, other_text, plan_text)
audits: audit_word(book_text, row_text, word_text)
programaudits: audit_program(book_text, program_text), audit_pair(book_text, row_text, program_text, other_text)
sessiontexts: write_session(session), read_session(text)
books: Book(talks)
programs: Program(procs)
sessions: Session()
"""
METHODS = """
books Book: talks(), rules(name)
programs Program: procs()
sessions Session: do(deed), is_question(thing), answer(question), would(deed), count(), deeds(), undo(), again()
sessions Session: at(number), copy(), trial(work), book(), watched()
"""


def told(listed):
    """The triples of a line's head, a name and the list of its parameters, for all that is listed."""
    found = []
    for line in listed.strip().split("\n"):
        head, _, rest = line.partition(": ")
        for call in rest[:-1].split("), "):
            name, params = call.split("(")
            found.append((head, name, [param for param in params.split(", ") if param]))
    return found


class InterfaceTest(unittest.TestCase):
    """The interface, with [2]: names, files, parameters and their order"""

    def test_functions_and_classes(self):
        self.assertEqual(len(told(INTERFACE)), 124)
        for file, name, params in told(INTERFACE):
            module = importlib.import_module("primetalks." + file)
            thing = getattr(module, name)
            self.assertEqual(thing.__module__, module.__name__)
            found = inspect.signature(thing).parameters.values()
            self.assertEqual([param.name for param in found], params)
            self.assertTrue(all(param.kind == param.POSITIONAL_OR_KEYWORD and param.default is param.empty
                                for param in found), name)

    def test_methods(self):
        for head, name, params in told(METHODS):
            file, kind = head.split(" ")
            own = vars(getattr(importlib.import_module("primetalks." + file), kind))
            self.assertIn("__eq__", own)
            found = list(inspect.signature(own[name]).parameters.values())
            self.assertEqual([param.name for param in found[1:]], params)
            self.assertTrue(all(param.default is param.empty for param in found))


if __name__ == "__main__":
    unittest.main()
