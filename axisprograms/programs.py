"""The calls on one object that holds a program, told and answered as lists of whole numbers."""

from axisprograms.grammar import read_lines
from axisprograms.lines import SIZE
from axisprograms.names import wrong_name
from axisprograms.needs import reaches
from axisprograms.printing import printed_line
from axisprograms.tokens import tokens_of

READ = 0
LINES = 1
LINE = 2
FIND = 3
TEXT = 4
PRINT = 5
NEEDS = 6

LONGEST_TEXT = 1024
LINE_FEED = 10

TOO_LONG = -6
NO_PROGRAM = -1
NO_LINE = -1


class UnknownCall(ValueError):
    """A number stands where a call's should, and is none."""


class Book:
    """The object that the calls are on: its program's lines, and the printed form of each."""

    def __init__(self):
        self.program = []
        self.printed = []


class Row:
    """The list of calls, and how far it has been gone through; the list itself is only read."""

    def __init__(self, numbers):
        self.numbers = numbers
        self.reached = 0


def answers(calls):
    book = Book()
    row = Row(calls)
    given = []
    while row.reached < len(calls):
        answer = answer_to_next(book, row)
        given.append(len(answer))
        given.extend(answer)
    return given


def answer_to_next(book, row):
    call = next_number(row)
    if call == READ:
        return read_answer(book, next_list(row))
    if call == LINES:
        return [len(book.program)]
    if call == LINE:
        return line_answer(book, next_number(row))
    if call == FIND:
        return find_answer(book, next_list(row))
    if call == TEXT:
        return text_answer(book, next_number(row))
    if call == PRINT:
        return print_answer(book)
    if call == NEEDS:
        needing = next_number(row)
        return needs_answer(book, needing, next_number(row))
    raise UnknownCall(call)


def next_number(row):
    number = row.numbers[row.reached]
    row.reached += 1
    return number


def next_list(row):
    length = next_number(row)
    begin = row.reached
    row.reached += length
    return row.numbers[begin:row.reached]


def read_answer(book, text):
    if len(text) > LONGEST_TEXT:
        return [TOO_LONG]
    reading = read_lines(tokens_of(text), len(text))
    fault = reading[0]
    if fault is not None:
        return [NO_PROGRAM, fault]
    lines = reading[1]
    wrong = wrong_name(lines)
    if wrong is not None:
        return [-wrong[0], wrong[1]]
    book.program = lines
    book.printed = [printed_line(line.tokens) for line in lines]
    return [0]


def line_answer(book, number):
    if number >= len(book.program):
        return [NO_LINE]
    line = book.program[number]
    name = name_bytes(line)
    return [0, len(name)] + name + [line.role, line.kind, line.rank]


def find_answer(book, name):
    for number, line in enumerate(book.program):
        if name_bytes(line) == name:
            return [number]
    return [NO_LINE]


def text_answer(book, number):
    if number >= len(book.printed):
        return [NO_LINE]
    return told_text(book.printed[number])


def print_answer(book):
    whole = []
    for printed in book.printed:
        whole.extend(printed)
        whole.append(LINE_FEED)
    return told_text(whole)


def told_text(text):
    return [0, len(text)] + text


def needs_answer(book, needing, needed):
    if not is_array(book, needing) or not is_array(book, needed):
        return [NO_LINE]
    return [1 if reaches(book.program, needing, needed) else 0]


def is_array(book, number):
    if number >= len(book.program):
        return False
    line = book.program[number]
    return line.role != SIZE


def name_bytes(line):
    return [ord(sign) for sign in line.name]
