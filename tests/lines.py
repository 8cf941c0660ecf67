"""Writes lines of calls, and reads what is answered to them."""

from comesback.office import answers

LARGEST = 4294967295


def piece(name, text):
    return [0, name, text]


def text(name, number):
    return [1, name, number]


def gone(name):
    return [2, name]


def put(name, translation):
    return [3, name, translation]


def send(*names):
    return [4, len(names), *names]


def back(number, *pairs):
    """pairs: the name and their translation, one pair for each piece."""
    row = [one for pair in pairs for one in pair]
    return [5, number, len(row), *row]


def off(number):
    return [6, number]


def choose_theirs(name, number):
    return [7, name, number, 1]


def choose_ours(name, number):
    return [7, name, number, 0]


def opened():
    return [8]


def pieces():
    return [9]


def package(number):
    return [10, number]


def out(name):
    return [11, name]


def line(*calls):
    return [number for call in calls for number in call]


def split_answers(given):
    split = []
    at = 0
    while at < len(given):
        behind = at + 1 + given[at]
        split.append(given[at + 1:behind])
        at = behind
    return split


def ask(*calls):
    """What is answered to each of the calls, a list each."""
    return split_answers(answers(line(*calls)))


def last(*calls):
    """What is answered to the last one of the calls."""
    return ask(*calls)[-1]


def pieces_told(how_many):
    return [piece(name, 500 + name) for name in range(how_many)]


def rows_of(answered, width):
    """What an answer tells of each, behind how many: a tuple of that many numbers each."""
    numbers = answered[1:]
    if len(numbers) != answered[0] * width:
        raise AssertionError(f"not {width} numbers for each: {answered}")
    return [tuple(numbers[at:at + width]) for at in range(0, len(numbers), width)]


def open_behind(*calls):
    """Name, package, the text that was sent, theirs and how it is now, of all that is open behind the calls."""
    return rows_of(last(*calls, opened()), 5)


def pieces_behind(*calls):
    """Name, text and translation of all pieces behind the calls."""
    return rows_of(last(*calls, pieces()), 3)


def all_seen(*calls):
    """All that an office tells of itself behind the calls, each question in a line of its own."""
    questions = [opened(), pieces(), *[package(number) for number in range(11)], *[out(name) for name in range(12)]]
    return [last(*calls, question) for question in questions]
