"""The store: facts with worths of one house, and questions that are kept up to date."""

from anyworth.deeds import facts_after
from anyworth.engine import engine_answers
from anyworth.errors import NoHouse, NoKept
from anyworth.formulas import without_tags
from anyworth.houses import is_house
from anyworth.keeping import answers_in, changes_between, formulas_after, formulas_of
from anyworth.questions import check_question
from anyworth.reducing import reduced


class Store:
    """Facts with worths of a house, and kept questions with a formula for each of their rows."""

    def __init__(self, house):
        if not is_house(house):
            raise NoHouse("not a valid house")
        self._house = house
        self._facts = {}
        self._last_fact = 0
        self._questions = {}
        self._formulas = {}
        self._last_question = 0
        self._changes = ()

    @property
    def store_house(self):
        """The house of the store."""
        return self._house

    def do(self, deeds):
        """Do the deeds, all or none of them, and return the numbers of the facts that they told."""
        facts, numbers = facts_after(self._house, self._facts, self._last_fact, deeds)
        formulas = {}
        changes = []
        for number, question in self._questions.items():
            before = self._formulas[number]
            formulas[number] = formulas_after(question, before, self._facts, facts)
            changes.append((number, changes_between(before, formulas[number])))
        # From here on nothing raises an error any more.
        self._facts = facts
        self._last_fact = self._last_fact + len(numbers)
        self._formulas = formulas
        self._changes = tuple(changes)
        return tuple(numbers)

    def facts(self):
        """Return the facts with their numbers, in ascending order of these."""
        return tuple([(number, name, row, worth) for number, (name, row, worth) in self._facts.items()])

    def ask(self, question):
        """Return the answers of a question."""
        check_question(question)
        return engine_answers(self._house, list(self._facts.values()), question)

    def keep(self, question):
        """Keep a question and return its number."""
        check_question(question)
        number = self._last_question + 1
        self._formulas[number] = formulas_of(question, self._facts)
        self._questions[number] = question
        self._last_question = number
        return number

    def drop(self, number):
        """Keep the question with this number no longer."""
        self.check_kept(number)
        del self._questions[number]
        del self._formulas[number]

    def kept(self, number):
        """Return the answers of a kept question."""
        return self.without([], number)

    def formulas(self, number):
        """Return the rows of a kept question with their formulas."""
        self.check_kept(number)
        return self._formulas[number]

    def changes(self):
        """Return the papers of changes of the last list of deeds."""
        return self._changes

    def sources(self, number, row):
        """Return the smallest lots of facts that give the row of a kept question."""
        for told, formula in self.formulas(number):
            if told == row:
                return tuple([tuple([tag for tag, _ in monomial]) for monomial, _ in reduced("yes", formula)])
        return ()

    def read_in(self, house, worths, number):
        """Return the answers of a kept question in a house in which the facts have these worths."""
        return answers_in(house, self.formulas(number), worths)

    def without(self, numbers, number):
        """Return the answers that a kept question would have without the facts with these numbers."""
        left = [(row, without_tags(formula, numbers)) for row, formula in self.formulas(number)]
        worths = {told: worth for told, (_, _, worth) in self._facts.items()}
        return answers_in(self._house, left, worths)

    def check_kept(self, number):
        """Raise NoKept if no kept question has the number."""
        if number not in self._questions:
            raise NoKept(number)
