"""What both kinds of transaction share: the state, what was sent last, the two timers."""

from callsetup.reports import LOST, SENT, TOLD

TRYING = 0
PROCEEDING = 1
COMPLETED = 2
CONFIRMED = 3

FIRST_WAIT = 500
LONGEST_WAIT = 4000
LONG_END = 32000
SHORT_END = 5000


# The kinds below it say how long the next wait is, and whether the end is a loss.
class Transaction:
    def __init__(self, number, request, state):
        self.number = number
        self.request = request
        self.state = state
        self.last_sent = []
        self.wait = 0
        self.again_at = None
        self.end_at = None
        self.over = False

    def start_again(self, now, wait):
        self.wait = wait
        self.again_at = now + wait

    def stop_again(self):
        self.again_at = None

    def start_end(self, now, wait):
        self.end_at = now + wait

    def stop_end(self):
        self.end_at = None

    def end_has_come(self, now):
        return self.end_at is not None and self.end_at <= now

    def again_has_come(self, now):
        return self.again_at is not None and self.again_at <= now

    def run_timers(self, now, report):
        if self.end_has_come(now):
            self.over = True
            if self.is_lost_at_end():
                report.add(LOST, self.number, [])
        elif self.again_has_come(now):
            self.send_again(report)
            self.start_again(now, self.next_wait())

    def send(self, octets, report):
        self.last_sent = octets
        self.send_again(report)

    def send_again(self, report):
        report.add(SENT, self.number, self.last_sent)

    def tell(self, message, report):
        report.add(TOLD, self.number, message.octets)

    def invites(self):
        return self.request.has_method("INVITE")

    def is_early(self):
        return self.state == TRYING or self.state == PROCEEDING
