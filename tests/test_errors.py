import inspect
import unittest

from eithershown import errors

INTERFACE = """BadArities(index) BadArity(thing) BadAtom(thing) BadAtoms(index) BadAxioms(index) BadBound(thing)
BadClause(thing) BadClauses(index) BadDeed(thing) BadDepth(thing) BadDerivation(thing) BadEquations(index)
BadFunctions(index) BadGiving(variable) BadGoal(thing) BadLiteral(thing) BadMany(thing) BadName(thing) BadNames(thing)
BadNumber(thing) BadOrder(thing) BadPairs(index) BadPaper(thing) BadPlace(thing) BadPredicates(index) BadProblem(thing)
BadQuestion(thing) BadRefutation(thing) BadRows(index) BadRules(index) BadSentence(thing) BadSentences(index)
BadSession(thing) BadSize(thing) BadSubstitution(thing) BadSymbols(index) BadTable(fault) BadTaken(index)
BadText(line,sign) BadTheory(thing) BadThing(thing) BadTruth(thing) BadTurn(thing) BadWord(thing) BadWords(index)
BadWorld(thing) Crowded(many) HasAxiom(name) HasVariables(index) InUse(question) IsWatched(question) NoClash()
NoCount(thing) NoWord(thing) NoWorld(world) NotComplete(meeting) NotFull() NotGround(thing) NotOrdered(name)
NotWatched(question) WouldChange(question,was,becomes)"""


def listed():
    """The name of each error of the interface and the list of its parameters."""
    told = []
    for row in INTERFACE.split():
        name, _, rest = row.partition("(")
        told.append((name, [word for word in rest[:-1].split(",") if word]))
    return told


class ErrorTests(unittest.TestCase):
    def test_each_is_of_its_own_right_beneath_show_error(self):
        self.assertEqual(errors.ShowError.__bases__, (ValueError,))
        for name, parameters in listed():
            made = getattr(errors, name)
            self.assertEqual(made.__bases__, (errors.ShowError,), name)
            self.assertEqual(made.__name__, name)
            self.assertEqual(made.__module__, "eithershown.errors")

    def test_all_that_are_there_are_listed(self):
        there = [name for name, thing in vars(errors).items() if inspect.isclass(thing)]
        self.assertEqual(sorted(there), sorted([name for name, _ in listed()] + ["ShowError"]))

    def test_each_keeps_the_very_objects_by_its_parameters_names(self):
        for name, parameters in listed():
            things = [[name], {}, object()][:len(parameters)]
            by_place = getattr(errors, name)(*things)
            by_name = getattr(errors, name)(**dict(zip(parameters, things)))
            for parameter, thing in zip(parameters, things):
                self.assertIs(getattr(by_place, parameter), thing, name)
                self.assertIs(getattr(by_name, parameter), thing, name)
            if parameters:
                self.assertEqual(list(inspect.signature(getattr(errors, name).__init__).parameters)[1:], parameters)
                with self.assertRaises(TypeError):
                    getattr(errors, name)()

    def test_show_error_can_be_made_and_caught(self):
        with self.assertRaises(ValueError):
            raise errors.ShowError()
        for name, parameters in listed():
            with self.assertRaises(errors.ShowError):
                raise getattr(errors, name)(*[1, 2, 3][:len(parameters)])


if __name__ == "__main__":
    unittest.main()
