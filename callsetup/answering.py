"""One that answers: a request that came, told to the user once, and the user's replies to it."""

from callsetup.timed import COMPLETED, CONFIRMED, FIRST_WAIT, LONG_END, LONGEST_WAIT, PROCEEDING, SHORT_END, TRYING
from callsetup.timed import Transaction


class Answering(Transaction):
    def __init__(self, number, request):
        Transaction.__init__(self, number, request, TRYING)
        if self.invites():
            self.state = PROCEEDING

    def is_from_there(self, message):
        return self.request.branch == message.branch and self.request.by_whom == message.by_whom

    def fits(self, message):
        return self.is_from_there(message) and self.request.method == message.method

    def owns_request(self, request):
        if request.has_method("ACK"):
            return self.is_from_there(request) and self.invites()
        return self.fits(request)

    def next_wait(self):
        return min(2 * self.wait, LONGEST_WAIT)

    def is_lost_at_end(self):
        return self.invites() and self.state == COMPLETED

    def take_request(self, request, now, report):
        if request.has_method("ACK"):
            self.take_acknowledgement(now)
        elif self.state != CONFIRMED and len(self.last_sent) > 0:
            self.send_again(report)

    def take_acknowledgement(self, now):
        if self.state == COMPLETED:
            self.state = CONFIRMED
            self.stop_again()
            self.start_end(now, SHORT_END)

    def send_reply(self, reply, now, report):
        self.send(reply.octets, report)
        if reply.status < 200:
            self.state = PROCEEDING
        elif self.invites() and reply.status < 300:
            self.over = True
        else:
            self.complete(now)

    def complete(self, now):
        self.state = COMPLETED
        self.start_end(now, LONG_END)
        if self.invites():
            self.start_again(now, FIRST_WAIT)
