"""Whole courses through all six calls, from both sides, over a line that loses, doubles and delays."""

import random
import unittest

from tests.helper import (
    LOST, SENT, TOLD, answer, begin, build, last, lost, receive, reply, request, run, send, send_many, sent, state,
    tick, told, via)

INVITE = request("INVITE")
OPTIONS = request("OPTIONS")
ACK = build("ACK u SIP/2.0", [
    ("Via", via()), ("Max-Forwards", "70"), ("From", "a"), ("To", "b;tag=1"), ("Call-ID", "c"), ("CSeq", "1 ACK"),
    ("Content-Length", "0")])
RINGING = reply(180, "INVITE")
TAKEN = reply(200, "INVITE")
REFUSED = reply(486, "INVITE", To="b;tag=1")


class Side:
    """One end in a course: each call is answered as it is made."""

    def __init__(self):
        self.calls = []

    def does(self, call):
        self.calls.append(call)
        return last(*self.calls)


class CourseCase(unittest.TestCase):
    def setUp(self):
        self.asks, self.answers = Side(), Side()

    def asking(self, call, wanted):
        self.assertEqual(self.asks.does(call), wanted)

    def answering(self, call, wanted):
        self.assertEqual(self.answers.does(call), wanted)

    def both(self, call, wanted):
        self.asking(call, wanted)
        self.answering(call, wanted)


class AnInvite(CourseCase):
    def test_refused_and_each_message_once_lost(self):
        self.asking(send(1000, INVITE), [sent(1, INVITE)])
        self.asking(tick(1500), [sent(1, INVITE)])
        self.answering(receive(1510, INVITE), [told(1, INVITE)])
        self.answering(answer(1, 1520, RINGING), [sent(1, RINGING)])
        self.asking(tick(2500), [sent(1, INVITE)])
        self.answering(receive(2510, INVITE), [sent(1, RINGING)])
        self.asking(receive(2520, RINGING), [told(1, RINGING)])
        self.both(state(1), 1)
        self.both(tick(60000), [])
        self.answering(answer(1, 60000, REFUSED), [sent(1, REFUSED)])
        self.answering(tick(60500), [sent(1, REFUSED)])
        self.asking(receive(60510, REFUSED), [sent(1, ACK), told(1, REFUSED)])
        self.both(state(1), 2)
        self.answering(tick(61500), [sent(1, REFUSED)])
        self.asking(receive(61510, REFUSED), [sent(1, ACK)])
        self.answering(receive(61520, ACK), [])
        self.answering(state(1), 3)
        self.answering(receive(61530, ACK), [])
        self.answering(tick(66519), [])
        self.answering(state(1), 3)
        self.answering(tick(66520), [])
        self.answering(state(1), -1)
        self.asking(tick(92509), [])
        self.asking(state(1), 2)
        self.asking(tick(92510), [])
        self.asking(state(1), -1)

    def test_taken(self):
        self.asking(send(0, INVITE), [sent(1, INVITE)])
        self.answering(receive(10, INVITE), [told(1, INVITE)])
        self.answering(receive(11, INVITE), [])
        self.answering(answer(1, 20, RINGING), [sent(1, RINGING)])
        self.asking(receive(30, RINGING), [told(1, RINGING)])
        self.answering(answer(1, 5000, TAKEN), [sent(1, TAKEN)])
        self.answering(state(1), -1)
        self.asking(receive(5010, TAKEN), [told(1, TAKEN)])
        self.asking(state(1), -1)
        self.asking(receive(5011, TAKEN), [told(0, TAKEN)])
        self.answering(receive(5020, ACK), [told(0, ACK)])
        self.answering(answer(1, 5030, TAKEN), -3)
        self.both(tick(90000), [])

    def test_lost_on_both_sides(self):
        self.asking(send(0, INVITE), [sent(1, INVITE)])
        self.answering(receive(10, INVITE), [told(1, INVITE)])
        self.answering(answer(1, 10, REFUSED), [sent(1, REFUSED)])
        self.asking(tick(31999), [sent(1, INVITE)])
        self.answering(receive(32009, INVITE), [sent(1, REFUSED), sent(1, REFUSED)])
        self.asking(receive(32000, REFUSED), [lost(1), told(0, REFUSED)])
        self.answering(tick(32010), [lost(1)])
        self.both(state(1), -1)


class Another(CourseCase):
    def test_answered_and_each_message_once_lost(self):
        trying, done = reply(100), reply(200, body="hi", Content_Length="2")
        self.asking(send(1000, OPTIONS), [sent(1, OPTIONS)])
        self.asking(tick(1500), [sent(1, OPTIONS)])
        self.answering(receive(1510, OPTIONS), [told(1, OPTIONS)])
        self.answering(state(1), 0)
        self.answering(receive(1511, OPTIONS), [])
        self.answering(answer(1, 1520, trying), [sent(1, trying)])
        self.asking(receive(1530, trying), [told(1, trying)])
        self.both(state(1), 1)
        self.asking(tick(2500), [sent(1, OPTIONS)])
        self.answering(receive(2510, OPTIONS), [sent(1, trying)])
        self.answering(answer(1, 3000, done), [sent(1, done)])
        self.answering(answer(1, 3000, done), -3)
        self.answering(tick(3500), [])
        self.asking(tick(6499), [])
        self.asking(tick(6500), [sent(1, OPTIONS)])
        self.answering(receive(6510, OPTIONS), [sent(1, done)])
        self.asking(receive(6520, done), [told(1, done)])
        self.both(state(1), 2)
        self.asking(receive(6530, done), [])
        self.asking(tick(11519), [])
        self.asking(state(1), 2)
        self.asking(tick(11520), [])
        self.asking(state(1), -1)
        self.answering(tick(34999), [])
        self.answering(state(1), 2)
        self.answering(tick(35000), [])
        self.answering(state(1), -1)

    def test_never_answered(self):
        self.asking(send(0, OPTIONS), [sent(1, OPTIONS)])
        self.answering(receive(10, OPTIONS), [told(1, OPTIONS)])
        self.asking(tick(32000), [lost(1)])
        self.asking(state(1), -1)
        self.answering(tick(90000), [])
        self.answering(state(1), 0)
        self.answering(answer(1, 90000, reply()), [sent(1, reply())])
        self.asking(receive(90010, reply()), [told(0, reply())])


class OneEndInBothParts(unittest.TestCase):
    def test_with_equal_branch_and_method(self):
        for method, first_state in (("INVITE", 1), ("OPTIONS", 0)):
            message, refused = request(method), reply(486, method)
            calls = [send(0, message), receive(0, message), receive(0, refused), state(1), state(2),
                     answer(2, 0, refused), state(2), receive(0, message)]
            answered = run(*calls)
            self.assertEqual(answered[:2], [[sent(1, message)], [told(2, message)]])
            self.assertEqual(answered[2][-1], told(1, refused))
            self.assertEqual(answered[3:], [2, first_state, [sent(2, refused)], 2, [sent(2, refused)]])


class Full(unittest.TestCase):
    def test_64_of_both_kinds(self):
        asked = [request("INVITE" if k % 2 else "OPTIONS", str(k)) for k in range(32)]
        came = [request("INVITE", "c" + str(k)) for k in range(32)]
        refused = [reply(486, "INVITE", "c" + str(k)) for k in range(32)]
        calls = []
        for k in range(32):
            calls += [send(0, asked[k]), receive(0, came[k])]
        calls += [answer(2 * k + 2, 0, refused[k]) for k in range(32)]
        both = [row for k in range(32) for row in (sent(2 * k + 1, asked[k]), sent(2 * k + 2, refused[k]))]
        self.assertEqual(last(*calls, tick(500)), both)
        self.assertEqual(last(*calls, tick(32000)), [lost(number) for number in range(1, 65)])
        self.assertEqual(run(*calls, *[state(number) for number in range(1, 66)])[96:], [0, 2] * 32 + [-1])
        full = [send(0, request(branch="x")), receive(0, request(branch="x")), state(65)]
        self.assertEqual(run(*calls, *full)[96:], [-3, [], -1])
        self.assertEqual(run(*calls, receive(0, reply(200, "INVITE", "1")), *full)[96:], [
            [told(3, reply(200, "INVITE", "1"))], [sent(65, request(branch="x"))], [], 0])

    def test_over_one_by_one(self):
        calls = send_many(64, method="INVITE")
        calls += [receive(0, reply(200, "INVITE", str(k))) for k in range(64, 0, -1)]
        self.assertEqual(run(*calls, tick(40000), state(1))[64:], [
            [told(k, reply(200, "INVITE", str(k)))] for k in range(64, 0, -1)] + [[], -1])


class BegunAnew(unittest.TestCase):
    def test_in_between(self):
        calls = [send(9000, INVITE), receive(9000, OPTIONS), tick(9500), begin(), state(1), state(2),
                 receive(0, REFUSED), answer(2, 0, reply()), receive(0, OPTIONS), state(1), answer(1, 0, reply()),
                 tick(31999), state(1), begin(), state(1), tick(0), send(0, INVITE), tick(500)]
        self.assertEqual(run(*calls)[3:], [
            0, -1, -1, [told(0, REFUSED)], -3, [told(1, OPTIONS)], 0, [sent(1, reply())], [], 2, 0, -1, [],
            [sent(1, INVITE)], [sent(1, INVITE)]])

    def test_the_same_course_twice(self):
        course = [send(100, INVITE), receive(100, OPTIONS), tick(600), receive(700, REFUSED), answer(2, 700, reply()),
                  receive(800, OPTIONS), state(1), state(2), tick(32700), state(1), state(2)]
        answered = run(*course, begin(), *course)
        self.assertEqual(answered[:len(course)], answered[len(course) + 1:])

    def test_behind_64(self):
        calls = send_many(64) + [begin()] + send_many(64) + [send(0, request(branch="65")), tick(500)]
        answered = run(*calls)
        self.assertEqual(answered[65:129], answered[:64])
        self.assertEqual(answered[129], -3)
        self.assertEqual(len(answered[130]), 64)


class BadLine:
    """Two ends and what is under way between them; the user who is told a request replies to it at once.

    Nothing is under way for longer than the ends of the transactions allow: what comes behind them is a new request.
    """

    def __init__(self, seed, method, losses):
        self.chance = random.Random(seed)
        self.losses = losses
        self.asks, self.answers = Side(), Side()
        self.final = reply(486, method)
        self.under_way = []
        self.asker_heard, self.answerer_heard = [], []
        self.done_by_asker(0, send(0, request(method)))
        for now in range(500, 70001, 500):
            self.deliver(now)
            self.done_by_asker(now, tick(now))
            self.done_by_answerer(now, tick(now))

    def done_by_asker(self, now, call):
        self.asker_heard += self.post(now, self.asks.does(call), self.done_by_answerer)

    def done_by_answerer(self, now, call):
        heard = self.post(now, self.answers.does(call), self.done_by_asker)
        self.answerer_heard += heard
        for kind, number, message in heard:
            if kind == TOLD and number > 0:
                self.done_by_answerer(now, answer(number, now, self.final))

    def post(self, now, things, to_whom):
        """Puts what is sent on the line, and gives back the rest."""
        for kind, number, message in things:
            if kind == SENT:
                for copy in range(self.chance.choice((1, 1, 2))):
                    if self.chance.random() >= self.losses:
                        self.under_way.append((now + self.chance.randrange(1, 501), to_whom, message))
        return [thing for thing in things if thing[0] != SENT]

    def deliver(self, now):
        arrived = [each for each in self.under_way if each[0] <= now]
        self.under_way = [each for each in self.under_way if each[0] > now]
        self.chance.shuffle(arrived)
        for moment, to_whom, message in arrived:
            to_whom(now, receive(now, message))


class OverABadLine(unittest.TestCase):
    """The user is told each request once, and of each question either an answer or that none came."""

    def check(self, method, losses, seeds):
        outcomes = set()
        for seed in seeds:
            line = BadLine(seed, method, losses)
            # An ACK that comes behind the answerer's end belongs to none.
            requests = [thing for thing in line.answerer_heard if thing[0] == TOLD and thing[1] > 0]
            self.assertIn(requests, ([], [told(1, request(method))]))
            of_question = [thing for thing in line.asker_heard if thing[1] == 1]
            self.assertIn(of_question, ([told(1, line.final)], [lost(1)]))
            self.assertEqual([line.asks.does(state(1)), line.answers.does(state(1))], [-1, -1])
            if of_question == [told(1, line.final)]:
                self.assertEqual(requests, [told(1, request(method))])
            outcomes.add(of_question[0][0])
        return outcomes

    def test_some_are_lost(self):
        self.assertEqual(self.check("INVITE", 0.4, range(6)), {TOLD})
        self.assertEqual(self.check("OPTIONS", 0.4, range(6)), {TOLD})

    def test_nearly_all_are_lost(self):
        self.assertEqual(self.check("INVITE", 0.9, range(20, 26)), {TOLD, LOST})
        self.assertEqual(self.check("OPTIONS", 0.9, range(20, 26)), {TOLD, LOST})

    def test_all_are_lost(self):
        self.assertEqual(self.check("INVITE", 1, range(1)), {LOST})
        self.assertEqual(self.check("OPTIONS", 1, range(1)), {LOST})


if __name__ == "__main__":
    unittest.main()
