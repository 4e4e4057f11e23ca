"""What a call sends and tells, gathered in order."""

SENT = 1
TOLD = 2
LOST = 3


class Report:
    def __init__(self):
        self.things = 0
        self.numbers = []

    def add(self, kind, transaction_number, octets):
        self.things += 1
        self.numbers.extend([kind, transaction_number, len(octets)])
        self.numbers.extend(octets)

    def answer(self):
        return [self.things] + self.numbers
