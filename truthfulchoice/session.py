"""A request: calls carried out one behind another, with the instance that they share."""

from truthfulchoice.instance import Instance
from truthfulchoice.operations import perform
from truthfulchoice.refusals import INVALID, NO_INSTANCE

CREATE = 0


class Session:
    def __init__(self):
        self.instance = None

    def carry_out(self, call):
        if call.number == CREATE:
            return self.create(call.numbers[0], call.numbers[1])
        if self.instance is None:
            return [NO_INSTANCE]
        return perform(self.instance, call)

    def create(self, agent_count, alternative_count):
        if not 1 <= agent_count <= 3 or not 2 <= alternative_count <= 4:
            return [INVALID]
        self.instance = Instance(agent_count, alternative_count)
        return [0]
