"""Each function and class of the interface that has landed stands in its file, with its names of parameters."""

import ast
import importlib
import inspect
import pathlib
import unittest

ROOT = pathlib.Path(__file__).resolve().parent.parent / "eithershown"
FUNCTIONS = {
    "grammar": ["is_word(names, thing)", "is_sentence(names, thing)", "is_closed(names, thing)",
                "is_clause(names, thing)"],
    "sentencetexts": ["sentence_text(sentence)", "read_sentence(names, text)", "sentence_fault(names, text)",
                      "sentence_goes_on(names, text)"],
    "theorytexts": ["theory_text(theory)", "read_theory(text)", "theory_fault(text)", "problem_text(problem)",
                    "read_problem(text)", "problem_fault(text)"],
    "clausetexts": ["clauses_text(clauses)", "read_clauses(names, text)", "clauses_fault(names, text)"],
    "worldtexts": ["world_text(names, world)", "read_world(names, text)", "world_text_fault(names, text)"],
    "papertexts": ["derivation_text(derivation)", "read_derivation(names, text)",
                   "derivation_text_fault(names, text)", "answer_text(answer)", "read_answer(names, text)",
                   "answer_fault(names, text)"],
    "worlds": ["all_rows(many, arity)", "world_fault(names, thing)", "forgotten(world, names)",
               "grown(world, functions, predicates)"],
    "meaning": ["value(world, word, giving)", "truth(world, sentence, giving)", "holds(world, sentence)",
                "first_false(world, theory)", "false_giving(world, clause)"],
    "binding": ["free_in(sentence)", "same_but_names(one, other)", "names_apart(sentence)",
                "substituted(sentence, words)"],
    "normal": ["plain(sentence)", "inward(sentence)", "normal(sentence)", "denied(sentence)"],
    "words": ["places(word)", "word_at(word, place)", "word_put(word, place, part)", "depth(word)",
              "variables_of(word)"],
    "puts": ["put(word, substitution)", "behind(first, later)", "match(pattern, word)", "match_fault(pattern, word)"],
    "steps": ["instance_of(clause, substitution)", "literal_at(literal, place)", "literal_with(literal, place, word)",
              "resolved(one, other, atom)", "replaced(one, other, left, right, literal, place)",
              "same_gone(clause, word)"],
    "checking": ["derivation_fault(clauses, thing)", "is_refutation(clauses, thing)"],
    "shapes": ["turned(world, turn)", "turn_between(one, other)", "telling(names, world)"],
    "listing": ["count_worlds(names, many)", "world_at(names, many, number)", "world_number(names, world)",
                "count_shapes(names, many)", "first_shape(names, world)"],
    "trimming": ["trimmed(literals)", "told_clause(literals)"],
    "naming": ["sides_named(sentence, taken)"],
    "witnesses": ["witnessed(sentence, taken)"],
    "spreading": ["spread(sentence, taken)", "size_of(sentence)"],
    "clauseforms": ["problem_form(problem)"],
    "unifying": ["unify(pairs)", "unify_paper(pairs)", "is_unify_paper(pairs, thing)"],
    "orders": ["compare(order, one, other)"],
    "laying": ["form(clause)", "named_apart(clause, taken)", "is_trivial(clause)", "laid(one, other, is_strict)",
               "laid_tree(one, other, is_strict)", "condensed(clause)"],
    "needed": ["needed_rows(clauses, derivation)", "shortened(clauses, derivation)",
               "needed_clauses(clauses, derivation)"],
    "joining": ["discharged(clauses, literal, derivation)", "joined(clauses, atom, one, other)"],
    "lifting": ["lifted(clauses, derivation)"],
    "groundwords": ["symbols_of(clauses)", "words_at(symbols, depth)", "count_words(symbols, depth)"],
    "instancing": ["count_instances(clauses, depth)", "instances(clauses, depth, bound)"],
    "classing": ["classes(words, equations)", "chain(words, equations, one, other)",
                 "is_chain(equations, one, other, thing)"],
    "splitting": ["table_fault(clauses, thing)", "ground_answer(clauses)"],
    "levels": ["level(clauses, depth, bound)", "least_depth(clauses, most, bound)", "needed(clauses, depth, bound)",
               "is_needed(clauses, depth, bound, thing)"],
    "fulltables": ["table_of(clauses, depth, bound, world)", "is_full(clauses, depth, bound, table)",
                   "world_of(clauses, depth, bound, table)"],
    "trees": ["tree_fault(clauses, many, thing)", "tree_size(tree)"],
    "searching": ["world_sized(clauses, many)", "least_size(clauses, most)"],
    "bounds": ["kind_of(clauses)", "size_bound(clauses)", "one_place_bound(sentences)"],
    "shrinking": ["cut_down(world)", "merged(world)", "twin(world, thing)"],
    "howmany": ["how_many(clauses, many)", "world_there(clauses, many, number)"],
    "conclusions": ["conclusions(order, one, other)", "factors(order, clause)"],
    "loop": ["loop(order, clauses, rounds)", "saturation_fault(order, clauses)"],
    "candidate": ["maker(order, arities, clauses, atom)", "fails_at(order, arities, clauses, weight)"],
    "rewriting": ["steps_at(order, rules, word)", "last_form(order, rules, word)"],
    "meetings": ["meetings(order, rules)", "unjoined(order, rules)"],
    "wordchains": ["equal_by(order, rules, one, other)", "is_word_chain(equations, one, other, thing)"],
    "completing": ["complete(order, equations, rounds)", "chains_for(order, equations, rounds)"],
    "answers": ["answer_for(problem, depth, size, bound)", "answer_why(problem, depth, size, thing)"],
    "answeraudits": ["audit(problem_text, answer_text, depth, size)"],
    "lots": ["needed_names(problem, depth, bound)", "atoms_known(theory, depth, atoms, bound)"],
    "sessiontexts": ["write_session(session)", "read_session(text)"],
}
CLASSES = {
    "signatures": {"Names(functions, predicates)": ["functions()", "predicates()", "__eq__(other)"]},
    "theories": {"Theory(names, axioms)": ["names()", "axioms()", "__eq__(other)"],
                 "Problem(theory, goal)": ["theory()", "goal()", "__eq__(other)"]},
    "clauseforms": {"Form(theory, goal)": ["clauses()", "rows()", "names()", "with_tables(world)",
                                           "without_tables(world)", "bound()", "__eq__(other)"]},
    "orders": {"Order(rows)": ["rows()", "__eq__(other)"]},
    "sessions": {"Session()": ["now()", "watched()", "do(deed)", "is_question(thing)", "answer(question)", "would(deed)", "count()", "deeds()",
                               "undo()", "again()", "at(number)", "copy()", "trial(work)", "__eq__(other)"]},
}


class InterfaceTests(unittest.TestCase):
    def defined(self, module):
        return ast.parse((ROOT / (module + ".py")).read_text()).body

    def test_functions(self):
        for module, rows in FUNCTIONS.items():
            told = importlib.import_module("eithershown." + module)
            here = [node.name for node in self.defined(module) if isinstance(node, ast.FunctionDef)]
            for row in rows:
                name = row.partition("(")[0]
                self.assertIn(name, here, module)
                self.assertEqual(name + str(inspect.signature(getattr(told, name))), row)

    def test_classes(self):
        for module, groups in CLASSES.items():
            told = importlib.import_module("eithershown." + module)
            here = [node.name for node in self.defined(module) if isinstance(node, ast.ClassDef)]
            for row, methods in groups.items():
                name = row.partition("(")[0]
                self.assertIn(name, here, module)
                made = getattr(told, name)
                self.assertEqual(name + str(inspect.signature(made)), row)
                for method in methods:
                    word = method.partition("(")[0]
                    self.assertIn(word, vars(made))
                    parameters = list(inspect.signature(vars(made)[word]).parameters)[1:]
                    self.assertEqual(f"{word}({', '.join(parameters)})", method)


if __name__ == "__main__":
    unittest.main()
