"""The calls on one study, answered in their order."""

from logworth.changes import CHANGES, create
from logworth.questions import QUESTIONS
from logworth.ranked import RANKED
from logworth.reader import Reader
from logworth.refusals import NoStudy, Refusal
from logworth.truth import TRUTHS

CREATE = 0

# For each call, by its number: how many whole numbers it has, then how many rows.
SHAPES = (
    (2, 0),
    (5, 0),
    (0, 0),
    (4, 0),
    (2, 1),
    (2, 0),
    (1, 1),
    (0, 0),
    (2, 1),
    (3, 0),
    (3, 0),
    (1, 0),
    (1, 0),
    (1, 0),
    (3, 0),
    (4, 0),
    (4, 0),
    (3, 0),
    (1, 0),
    (1, 0),
    (1, 0),
    (4, 0),
    (2, 0),
    (5, 0),
    (1, 1),
    (0, 1),
    (0, 1),
    (0, 1),
    (0, 0),
)


class Session:
    """Holds the study, of which there is none at first."""

    def __init__(self):
        self.study = None

    def answer(self, number, given):
        """Carry out one call and give back what it answers."""
        try:
            if number == CREATE:
                self.study = create(given[0], given[1])
                return [0]
            if self.study is None:
                raise NoStudy()
            if number in RANKED:
                return carry_out(RANKED[number], given)
            return carry_out(operation_of(number), [self.study] + given)
        except Refusal as refusal:
            return [refusal.code]


def operation_of(number):
    """Give back the function that carries out a call on the study."""
    if number in CHANGES:
        return CHANGES[number]
    if number in TRUTHS:
        return TRUTHS[number]
    return QUESTIONS[number]


def carry_out(operation, given):
    """Hand on what an operation is given, one by one."""
    if len(given) == 1:
        return operation(given[0])
    if len(given) == 2:
        return operation(given[0], given[1])
    if len(given) == 3:
        return operation(given[0], given[1], given[2])
    if len(given) == 4:
        return operation(given[0], given[1], given[2], given[3])
    if len(given) == 5:
        return operation(given[0], given[1], given[2], given[3], given[4])
    return operation(given[0], given[1], given[2], given[3], given[4], given[5])


def answers(calls):
    """Answer calls that lie one behind another in one list, each with how many numbers it answers."""
    session = Session()
    reader = Reader(calls)
    result = []
    while not reader.ended():
        number = reader.number()
        shape = SHAPES[number]
        answered = session.answer(number, reader.arguments(shape[0], shape[1]))
        result.append(len(answered))
        result.extend(answered)
    return result
