"""The desk: a program and a start that are kept, and lines that are answered."""

from twinpurse.asked import least_with, number_with
from twinpurse.errors import BadLine, BadText
from twinpurse.fans import has
from twinpurse.findings import greatest_in, lasso_in, stuck_in
from twinpurse.gaps import least_outside
from twinpurse.lots import number_in
from twinpurse.programs import is_place
from twinpurse.reach import MOST_AT_START, paper_parts, sources
from twinpurse.runs import able, is_word, play
from twinpurse.texts import format_standing, parse_program, parse_question
from twinpurse.words import numbers_in


class Desk:
    """Keeps a program and a start, and does what lines say."""

    def __init__(self):
        self.program = None
        self.start = None
        # What was found from the start, once something was asked of it.
        self.founds = None

    def do(self, line):
        """Do what a line says and return the answer; raise BadLine for what is no line, and change nothing then."""
        if not isinstance(line, str):
            raise BadLine("a line is a text")
        name, blank, text = line.partition(" ")
        if name == "program":
            return self.keep_program(text)
        if self.program is None:
            raise BadLine("there is no program yet")
        if name == "start":
            return self.keep_start(text)
        if name == "able":
            return _joined(able(self.program, self.standing_in(text)))
        if self.start is None:
            raise BadLine("there is no start yet")
        return self.answer(name, text) if blank else self.tell(name)

    def keep_program(self, text):
        try:
            program = parse_program(text)
        except BadText:
            raise BadLine("this is not a program")
        self.program = program
        self.start = self.founds = None
        return "ok"

    def keep_start(self, text):
        start = self.standing_in(text)
        if max(start[1:]) > MOST_AT_START:
            raise BadLine("there is too much in a purse")
        self.start = start
        self.founds = None
        return "ok"

    def answer(self, name, text):
        """Answer a line that has something behind its first word."""
        if name == "play":
            return _told_or(play(self.program, self.start, self.word_in(text)), "no")
        if name == "has":
            return "yes" if has(self.reached(), self.standing_in(text)) else "no"
        if name not in ("count", "least", "every"):
            raise BadLine("there is no such line")
        question = _question_in(text)
        if name == "count":
            return _number_or_endless(number_with(self.reached(), question))
        if name == "least":
            return _told_or(least_with(self.reached(), question), "none")
        return _told_or(least_with(self.reached(), ("not", question)), "yes")

    def tell(self, name):
        """Answer a line of one word."""
        if name == "number":
            return _number_or_endless(number_in(self.reached()))
        if name == "stuck":
            return _told_or(stuck_in(self.program, self.reached()), "none")
        if name == "home":
            return _told_or(least_outside(self.reached(), sources(self.program, self.start)), "yes")
        if name == "greatest":
            return " ".join(["none" if most is None else str(most) for most in greatest_in(self.reached())])
        if name == "endless":
            self.reached()
            return "no" if lasso_in(self.program, self.founds) is None else "yes"
        raise BadLine("there is no such line")

    def reached(self):
        """Return the list of the fans with all that the start reaches."""
        if self.founds is None:
            self.founds = paper_parts(self.program, self.start)[0]
        return [found.fan for found in self.founds]

    def standing_in(self, text):
        standing = numbers_in(text.split(" "))
        if not is_place(standing, self.program[0]):
            raise BadLine("this is not a standing of the program")
        return standing

    def word_in(self, text):
        word = () if text == "-" else numbers_in(text.split(" "))
        if not is_word(self.program, word):
            raise BadLine("these are not moves of the program")
        return word


def _question_in(text):
    try:
        return parse_question(text)
    except BadText:
        raise BadLine("this is not a question")


def _told_or(standing, other):
    return other if standing is None else format_standing(standing)


def _number_or_endless(number):
    return "endless" if number is None else str(number)


def _joined(moves):
    return " ".join([str(move) for move in moves]) if moves else "none"
