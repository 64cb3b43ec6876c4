"""The desk: it reads the calls of one request, has each answered and tells the answers."""

from nearstores.changes import answer_change
from nearstores.checks import check_place_count
from nearstores.instance import Instance
from nearstores.proposals import answer_proposal
from nearstores.questions import answer_question
from nearstores.refusals import NoInstance, Refusal
from nearstores.trials import answer_trial

# How many arguments each call has, by its number.
ARGUMENT_COUNTS = (1, 2, 3, 2, 2, 0, 0, 1, 1, 0, 0, 0, 1, 0, 1, 1, 1, 1, 1, 1, 1, 1, 1, 0, 3, 1, 0)

CREATE = 0
LAST_CHANGE = 3
FIRST_PROPOSAL = 14
LAST_PROPOSAL = 21
FIRST_TRIAL = 22
LAST_TRIAL = 24


class Desk:
    """What one request keeps from call to call: its instance, which is None at first."""

    def __init__(self):
        self.instance = None

    def create(self, place_count):
        """Answer create(place_count)."""
        check_place_count(place_count)
        self.instance = Instance(place_count)
        return [0]

    def operate(self, number, values):
        """Answer the call of this number with these arguments, or raise its refusal."""
        if number == CREATE:
            return self.create(values[0])
        if self.instance is None:
            raise NoInstance()
        if number <= LAST_CHANGE:
            return answer_change(self.instance, number, values)
        if number >= FIRST_PROPOSAL and number <= LAST_PROPOSAL:
            return answer_proposal(self.instance, number, values)
        if number >= FIRST_TRIAL and number <= LAST_TRIAL:
            return answer_trial(self.instance, number, values)
        return answer_question(self.instance, number, values)

    def answer_call(self, number, values):
        """Answer the call of this number with these arguments, be it by a refusal's code alone."""
        try:
            return self.operate(number, values)
        except Refusal as refusal:
            return [refusal.code]


def answers(calls):
    """Answer the calls of one request: for each, how many numbers are answered, then these."""
    desk = Desk()
    told = []
    start = 0
    while start < len(calls):
        number = calls[start]
        end = start + 1 + ARGUMENT_COUNTS[number]
        answer = desk.answer_call(number, calls[start + 1:end])
        told.append(len(answer))
        told.extend(answer)
        start = end
    return told
