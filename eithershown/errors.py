"""Every error of the program; each keeps what it is made with."""


class ShowError(ValueError):
    """What all errors of the program are."""


class BadArities(ShowError):
    def __init__(self, index):
        self.index = index


class BadArity(ShowError):
    def __init__(self, thing):
        self.thing = thing


class BadAtom(ShowError):
    def __init__(self, thing):
        self.thing = thing


class BadAtoms(ShowError):
    def __init__(self, index):
        self.index = index


class BadAxioms(ShowError):
    def __init__(self, index):
        self.index = index


class BadBound(ShowError):
    def __init__(self, thing):
        self.thing = thing


class BadClause(ShowError):
    def __init__(self, thing):
        self.thing = thing


class BadClauses(ShowError):
    def __init__(self, index):
        self.index = index


class BadDeed(ShowError):
    def __init__(self, thing):
        self.thing = thing


class BadDepth(ShowError):
    def __init__(self, thing):
        self.thing = thing


class BadDerivation(ShowError):
    def __init__(self, thing):
        self.thing = thing


class BadEquations(ShowError):
    def __init__(self, index):
        self.index = index


class BadFunctions(ShowError):
    def __init__(self, index):
        self.index = index


class BadGiving(ShowError):
    def __init__(self, variable):
        self.variable = variable


class BadGoal(ShowError):
    def __init__(self, thing):
        self.thing = thing


class BadLiteral(ShowError):
    def __init__(self, thing):
        self.thing = thing


class BadMany(ShowError):
    def __init__(self, thing):
        self.thing = thing


class BadName(ShowError):
    def __init__(self, thing):
        self.thing = thing


class BadNames(ShowError):
    def __init__(self, thing):
        self.thing = thing


class BadNumber(ShowError):
    def __init__(self, thing):
        self.thing = thing


class BadOrder(ShowError):
    def __init__(self, thing):
        self.thing = thing


class BadPairs(ShowError):
    def __init__(self, index):
        self.index = index


class BadPaper(ShowError):
    def __init__(self, thing):
        self.thing = thing


class BadPlace(ShowError):
    def __init__(self, thing):
        self.thing = thing


class BadPredicates(ShowError):
    def __init__(self, index):
        self.index = index


class BadProblem(ShowError):
    def __init__(self, thing):
        self.thing = thing


class BadQuestion(ShowError):
    def __init__(self, thing):
        self.thing = thing


class BadRefutation(ShowError):
    def __init__(self, thing):
        self.thing = thing


class BadRows(ShowError):
    def __init__(self, index):
        self.index = index


class BadRules(ShowError):
    def __init__(self, index):
        self.index = index


class BadSentence(ShowError):
    def __init__(self, thing):
        self.thing = thing


class BadSentences(ShowError):
    def __init__(self, index):
        self.index = index


class BadSession(ShowError):
    def __init__(self, thing):
        self.thing = thing


class BadSize(ShowError):
    def __init__(self, thing):
        self.thing = thing


class BadSubstitution(ShowError):
    def __init__(self, thing):
        self.thing = thing


class BadSymbols(ShowError):
    def __init__(self, index):
        self.index = index


class BadTable(ShowError):
    def __init__(self, fault):
        self.fault = fault


class BadTaken(ShowError):
    def __init__(self, index):
        self.index = index


class BadText(ShowError):
    def __init__(self, line, sign):
        self.line = line
        self.sign = sign


class BadTheory(ShowError):
    def __init__(self, thing):
        self.thing = thing


class BadThing(ShowError):
    def __init__(self, thing):
        self.thing = thing


class BadTruth(ShowError):
    def __init__(self, thing):
        self.thing = thing


class BadTurn(ShowError):
    def __init__(self, thing):
        self.thing = thing


class BadWord(ShowError):
    def __init__(self, thing):
        self.thing = thing


class BadWords(ShowError):
    def __init__(self, index):
        self.index = index


class BadWorld(ShowError):
    def __init__(self, thing):
        self.thing = thing


class Crowded(ShowError):
    def __init__(self, many):
        self.many = many


class HasAxiom(ShowError):
    def __init__(self, name):
        self.name = name


class HasVariables(ShowError):
    def __init__(self, index):
        self.index = index


class InUse(ShowError):
    def __init__(self, question):
        self.question = question


class IsWatched(ShowError):
    def __init__(self, question):
        self.question = question


class NoClash(ShowError):
    """There is a table, so nothing clashes."""


class NoCount(ShowError):
    def __init__(self, thing):
        self.thing = thing


class NoWord(ShowError):
    def __init__(self, thing):
        self.thing = thing


class NoWorld(ShowError):
    def __init__(self, world):
        self.world = world


class NotComplete(ShowError):
    def __init__(self, meeting):
        self.meeting = meeting


class NotFull(ShowError):
    """The table is not full, so it is no world."""


class NotGround(ShowError):
    def __init__(self, thing):
        self.thing = thing


class NotOrdered(ShowError):
    def __init__(self, name):
        self.name = name


class NotWatched(ShowError):
    def __init__(self, question):
        self.question = question


class WouldChange(ShowError):
    def __init__(self, question, was, becomes):
        self.question = question
        self.was = was
        self.becomes = becomes
