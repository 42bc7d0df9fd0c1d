"""The desk: takes a list of calls, each a row of numbers, and gives back their answers."""

from tanglemoves.hitch import Hitch
from tanglemoves.refusals import Refusal

LOAD_FIRST = 1
LOAD_SECOND = 2
FIND_PATH = 3
PATH_WORD = 4
COMMON = 5
SMALLEST = 6
DIFFERENCE = 7


class UnknownCall(ValueError):
    """There is no call with this number."""


class Tape:
    """A list of calls that is read from its beginning on, and left as it is."""

    def __init__(self, numbers):
        self.numbers = numbers
        self.place = 0

    def ended(self):
        """Whether all numbers have been read."""
        return self.place == len(self.numbers)

    def take_number(self):
        """The number that comes next."""
        number = self.numbers[self.place]
        self.place += 1
        return number

    def take_row(self):
        """The row that comes next, behind its length."""
        length = self.take_number()
        row = self.numbers[self.place:self.place + length]
        self.place += length
        return row


def answers(calls):
    """The answers to a list of calls, each behind how many numbers it has."""
    tape = Tape(calls)
    hitch = Hitch()
    numbers = []
    while not tape.ended():
        answer = answer_of_next(tape, hitch)
        numbers.append(len(answer))
        numbers.extend(answer)
    return numbers


def answer_of_next(tape, hitch):
    """The answer to the call that comes next: what it tells, or the code of its error alone."""
    try:
        return outcome(tape, hitch)
    except Refusal as refusal:
        return [refusal.code]


def outcome(tape, hitch):
    """What the call that comes next tells if it does not fail."""
    call = tape.take_number()
    if call == LOAD_FIRST:
        return hitch.load_first(tape.take_row())
    if call == LOAD_SECOND:
        return hitch.load_second(tape.take_row())
    if call == FIND_PATH:
        return hitch.find_path(tape.take_number())
    if call == PATH_WORD:
        return hitch.path_word(tape.take_number())
    if call == COMMON:
        return hitch.common(tape.take_number())
    if call == SMALLEST:
        which = tape.take_number()
        return hitch.smallest(which, tape.take_number())
    if call == DIFFERENCE:
        return hitch.first_difference()
    raise UnknownCall()
