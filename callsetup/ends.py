"""One end: its time, its transactions, and what each call does there."""

from callsetup.answering import Answering
from callsetup.asking import Asking
from callsetup.messages import read_message
from callsetup.refusals import NoTransaction, WrongMessage, WrongMoment, WrongTransaction
from callsetup.reports import TOLD, Report

MOST_TRANSACTIONS = 64
TIME_LIMIT = 2147483648


# A refused call must leave no trace, so each call asks all its questions before it passes the time.
class End:
    def __init__(self):
        self.time = 0
        self.begun = 0
        self.transactions = []

    def send(self, octets, now):
        self.check_moment(now)
        request = read_message(octets)
        if not request.is_request() or request.has_method("ACK"):
            raise WrongMessage()
        self.check_may_ask(request, now)
        report = self.pass_time(now)
        asking = Asking(self.new_number(), request)
        self.transactions.append(asking)
        asking.begin(now, report)
        return report.answer()

    def reply(self, number, octets, now):
        self.check_moment(now)
        reply = read_message(octets)
        if reply.is_request():
            raise WrongMessage()
        answering = self.find_to_answer(number, reply, now)
        report = self.pass_time(now)
        answering.send_reply(reply, now, report)
        self.drop_those_over()
        return report.answer()

    def receive(self, octets, now):
        report = self.tick(now)
        try:
            message = read_message(octets)
        except WrongMessage:
            return report.answer()
        if message.is_request():
            self.take_request(message, now, report)
        else:
            self.take_reply(message, now, report)
        self.drop_those_over()
        return report.answer()

    def tick(self, now):
        self.check_moment(now)
        return self.pass_time(now)

    def state_of(self, number):
        for transaction in self.transactions:
            if transaction.number == number:
                return transaction.state
        raise NoTransaction()

    def check_moment(self, now):
        if now < self.time or now >= TIME_LIMIT:
            raise WrongMoment()

    def check_may_ask(self, request, now):
        staying = self.staying_at(now)
        if len(staying) >= MOST_TRANSACTIONS:
            raise WrongTransaction()
        for transaction in staying:
            if isinstance(transaction, Asking) and transaction.asks_like(request):
                raise WrongTransaction()

    def find_to_answer(self, number, reply, now):
        for transaction in self.staying_at(now):
            if transaction.number == number and isinstance(transaction, Answering):
                if transaction.is_early() and transaction.fits(reply):
                    return transaction
        raise WrongTransaction()

    def staying_at(self, now):
        return [transaction for transaction in self.transactions if not transaction.end_has_come(now)]

    def pass_time(self, now):
        report = Report()
        self.time = now
        for transaction in self.transactions:
            transaction.run_timers(now, report)
        self.drop_those_over()
        return report

    def drop_those_over(self):
        self.transactions = [transaction for transaction in self.transactions if not transaction.over]

    def new_number(self):
        self.begun += 1
        return self.begun

    def take_reply(self, reply, now, report):
        for transaction in self.transactions:
            if isinstance(transaction, Asking) and transaction.asks_like(reply):
                transaction.take_reply(reply, now, report)
                return
        report.add(TOLD, 0, reply.octets)

    def take_request(self, request, now, report):
        for transaction in self.transactions:
            if isinstance(transaction, Answering) and transaction.owns_request(request):
                transaction.take_request(request, now, report)
                return
        if request.has_method("ACK"):
            report.add(TOLD, 0, request.octets)
        elif len(self.transactions) < MOST_TRANSACTIONS:
            answering = Answering(self.new_number(), request)
            self.transactions.append(answering)
            answering.tell(request, report)
