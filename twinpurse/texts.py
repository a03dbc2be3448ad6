"""Programs, standings, lots and questions as texts, and read back.

What is read is looked at as a whole: it must be what is asked for, and have just the text as its textual form.
"""

from twinpurse.errors import BadText
from twinpurse.fans import check_lot, is_lot
from twinpurse.programs import MOST_ROOMS, check_place, check_program, is_place, is_program
from twinpurse.questions import check_question, is_question
from twinpurse.words import numbers_in, read_number

NUMBERS_BEHIND = {"room": 1, "most": 3, "rest": 4}
QUESTIONS_BEHIND = {"not": 1, "and": 2, "or": 2}
# Four times five words, and six others: no question has more.
MOST_WORDS = 26


def format_program(program):
    """Return the textual form of a program."""
    check_program(program)
    return _text_of_program(program)


def format_standing(standing):
    """Return the textual form of a standing in a room from 0 to 2."""
    check_place(standing, MOST_ROOMS)
    return _text_of_numbers(standing)


def format_lot(lot):
    """Return the textual form of a lot."""
    check_lot(lot)
    return _text_of_lot(lot)


def format_question(question):
    """Return the textual form of a question."""
    check_question(question)
    return _text_of_question(question)


def parse_program(text):
    """Return the program with this textual form."""
    program = _program_in(text) if isinstance(text, str) else None
    if not is_program(program) or _text_of_program(program) != text:
        raise BadText("this is not the textual form of a program")
    return program


def parse_standing(text):
    """Return the standing with this textual form, in a room from 0 to 2."""
    standing = numbers_in(text.split(" ")) if isinstance(text, str) else None
    if not is_place(standing, MOST_ROOMS) or _text_of_numbers(standing) != text:
        raise BadText("this is not the textual form of a standing")
    return standing


def parse_lot(text):
    """Return the lot with this textual form."""
    lot = _lot_in(text) if isinstance(text, str) else None
    if not is_lot(lot) or _text_of_lot(lot) != text:
        raise BadText("this is not the textual form of a lot")
    return lot


def parse_question(text):
    """Return the question with this textual form."""
    question = _question_in(text) if isinstance(text, str) else None
    if not is_question(question) or _text_of_question(question) != text:
        raise BadText("this is not the textual form of a question")
    return question


def _text_of_numbers(numbers):
    return " ".join([str(number) for number in numbers])


def _text_of_program(program):
    rooms, steps, tests = program
    parts = [f"rooms {rooms}"]
    parts.extend([f"{source}>{target} {first} {second}" for source, target, first, second in steps])
    parts.extend([f"test {source}>{target}" for source, target in tests])
    return "; ".join(parts)


def _text_of_lot(lot):
    return " | ".join([_text_of_fan(fan) for fan in lot]) if lot else "none"


def _text_of_fan(fan):
    room, base, rays = fan
    return "; ".join([_text_of_numbers(numbers) for numbers in ((room, *base), *rays)])


def _text_of_question(question):
    if question[0] in NUMBERS_BEHIND:
        return question[0] + " " + _text_of_numbers(question[1:])
    return " ".join([question[0], *[_text_of_question(part) for part in question[1:]]])


def _program_in(text):
    head, *parts = text.split("; ")
    steps, tests = [], []
    for part in parts:
        word, *words = part.split(" ")
        if word == "test":
            tests.append(numbers_in(" ".join(words).split(">")))
        else:
            steps.append(numbers_in([*word.split(">"), *words]))
    return (read_number(head.removeprefix("rooms ")), tuple(steps), tuple(tests))


def _lot_in(text):
    return [_fan_in(part) for part in text.split(" | ")] if text != "none" else []


def _fan_in(text):
    head, *parts = text.split("; ")
    numbers = numbers_in(head.split(" "))
    return (numbers[0], numbers[1:], tuple([numbers_in(part.split(" ")) for part in parts]))


def _question_in(text):
    words = text.split(" ")
    if len(words) > MOST_WORDS:
        return None
    return _question_from(words, 0)[0]


def _question_from(words, at):
    """Return the question that begins at a place, or something else that is none, and the place behind it."""
    name = words[at] if at < len(words) else ""
    at += 1
    if name in NUMBERS_BEHIND:
        many = NUMBERS_BEHIND[name]
        return (name, *numbers_in(words[at:at + many])), at + many
    if name not in QUESTIONS_BEHIND:
        return None, at
    parts = []
    for _ in range(QUESTIONS_BEHIND[name]):
        part, at = _question_from(words, at)
        parts.append(part)
    return (name, *parts), at
