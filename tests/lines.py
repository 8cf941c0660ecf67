"""Writes lines of calls, and reads what is answered to them."""

from comesback.office import answers

LARGEST = 4294967295


def piece(name, text):
    return [0, name, text]


def text(name, number):
    return [1, name, number]


def gone(name):
    return [2, name]


def put(name, translation):
    return [3, name, translation]


def send(*names):
    return [4, len(names), *names]


def back(package, *pieces):
    """pieces: a pair (name, their translation) each."""
    row = [number for pair in pieces for number in pair]
    return [5, package, len(row), *row]


def line(*calls):
    return [number for call in calls for number in call]


def split_answers(given):
    split = []
    at = 0
    while at < len(given):
        behind = at + 1 + given[at]
        split.append(given[at + 1:behind])
        at = behind
    return split


def ask(*calls):
    """What is answered to each of the calls, a list each."""
    return split_answers(answers(line(*calls)))


def last(*calls):
    """What is answered to the last one of the calls."""
    return ask(*calls)[-1]


def pieces_told(how_many):
    return [piece(name, 500 + name) for name in range(how_many)]
