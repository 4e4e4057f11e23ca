"""One that asks: the user's request, sent until it is answered or lost."""

from callsetup.acknowledgements import acknowledgement
from callsetup.timed import COMPLETED, FIRST_WAIT, LONG_END, LONGEST_WAIT, PROCEEDING, SHORT_END, TRYING
from callsetup.timed import Transaction


class Asking(Transaction):
    def __init__(self, number, request):
        Transaction.__init__(self, number, request, TRYING)

    def begin(self, now, report):
        self.send(self.request.octets, report)
        self.start_again(now, FIRST_WAIT)
        self.start_end(now, LONG_END)

    def asks_like(self, message):
        return self.request.branch == message.branch and self.request.method == message.method

    def next_wait(self):
        if self.invites():
            return 2 * self.wait
        if self.state == PROCEEDING:
            return LONGEST_WAIT
        return min(2 * self.wait, LONGEST_WAIT)

    # An INVITE that is proceeding has no end to come: its timers stopped.
    def is_lost_at_end(self):
        return self.is_early()

    def take_reply(self, reply, now, report):
        if self.invites():
            self.take_invite_reply(reply, now, report)
        elif self.is_early():
            self.take_other_reply(reply, now, report)

    def take_invite_reply(self, reply, now, report):
        if self.state == COMPLETED:
            # What was sent last is the acknowledgement, so a reply that comes again gets the same one.
            if reply.status >= 300:
                self.send_again(report)
        elif reply.status >= 300:
            self.send(acknowledgement(self.request, reply), report)
            self.tell(reply, report)
            self.complete(now, LONG_END)
        else:
            self.tell(reply, report)
            self.state = PROCEEDING
            self.stop_again()
            self.stop_end()
            self.over = reply.status >= 200

    def take_other_reply(self, reply, now, report):
        self.tell(reply, report)
        if reply.status >= 200:
            self.complete(now, SHORT_END)
        else:
            # The wait that runs is left as it is; only the next ones are the longest.
            self.state = PROCEEDING

    def complete(self, now, wait):
        self.state = COMPLETED
        self.stop_again()
        self.start_end(now, wait)
