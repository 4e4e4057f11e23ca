"""tx_reply, and what the timers of one that answers do."""

import unittest

from tests.helper import (
    answer, begin, last, lost, octets, receive, reply, request, rows, run, send, sent, state, tick, times_of)

OPTIONS = request("OPTIONS")


def ask(method, now=0):
    return receive(now, request(method))


class Refused(unittest.TestCase):
    def test_no_reply(self):
        for message in (request(), request("INVITE"), request("ACK"), [], octets("x"), reply(99), reply(700)):
            self.assertEqual(last(ask("OPTIONS"), answer(1, 0, message)), -2)
            self.assertEqual(last(answer(9, 0, message)), -2)

    def test_an_id_that_is_none(self):
        for number in (0, 2, 3, 2 ** 31, 2 ** 32 - 1):
            self.assertEqual(last(ask("OPTIONS"), answer(number, 0, reply())), -3)
        self.assertEqual(last(answer(1, 0, reply())), -3)

    def test_an_id_that_asks(self):
        for method in ("INVITE", "OPTIONS"):
            self.assertEqual(last(send(0, request(method)), answer(1, 0, reply(200, method))), -3)
            calls = [send(0, request(method)), receive(0, reply(180, method)), answer(1, 0, reply(200, method))]
            self.assertEqual(last(*calls), -3)

    def test_the_one_that_answers_among_those_that_ask(self):
        calls = [send(0, OPTIONS), ask("OPTIONS"), answer(1, 0, reply()), answer(2, 0, reply())]
        self.assertEqual(run(*calls)[2:], [-3, [sent(2, reply())]])

    def test_not_in_state_0_or_1(self):
        for method, status in (("OPTIONS", 200), ("OPTIONS", 404), ("INVITE", 300), ("INVITE", 699)):
            final = answer(1, 0, reply(status, method))
            for later in (100, 200, 400):
                calls = [ask(method), final, answer(1, 0, reply(later, method)), state(1)]
                self.assertEqual(run(*calls)[2:], [-3, 2])

    def test_confirmed(self):
        calls = [ask("INVITE"), answer(1, 0, reply(400, "INVITE")), ask("ACK"), answer(1, 0, reply(200, "INVITE"))]
        self.assertEqual(run(*calls, state(1))[3:], [-3, 3])

    def test_one_that_is_over(self):
        calls = [ask("INVITE"), answer(1, 0, reply(200, "INVITE")), answer(1, 0, reply(200, "INVITE"))]
        self.assertEqual(last(*calls), -3)
        calls = [ask("OPTIONS"), answer(1, 0, reply(200)), answer(1, 32000, reply(200)), state(1), tick(31999)]
        self.assertEqual(run(*calls)[2:], [-3, 2, []])

    def test_branch_by_whom_and_method_are_its_own(self):
        for method in ("OPTIONS", "INVITE"):
            calls = [receive(0, request(method, "1", "h"))]
            for wrong in (reply(200, method, "2", "h"), reply(200, method, "1", "H"), reply(200, method, "1", "hh"),
                          reply(200, "BYE", "1", "h"), reply(200, "ACK", "1", "h"), reply(200, method.lower())):
                self.assertEqual(last(*calls, answer(1, 0, wrong)), -3)
            right = reply(200, method, "1", "h", From="x", To="y", Call_ID="z", CSeq="7 " + method)
            self.assertEqual(last(*calls, answer(1, 0, right)), [sent(1, right)])

    def test_the_branch_as_the_first_via_tells_it(self):
        right = reply(Via="SIP/2.0/UDP h;received=x;branch=z9hG4bK1;y")
        self.assertEqual(last(ask("OPTIONS"), answer(1, 0, right)), [sent(1, right)])

    def test_the_time_at_its_edges(self):
        calls = [ask("OPTIONS", 1000)]
        self.assertEqual(last(*calls, answer(1, 999, reply())), -4)
        self.assertEqual(last(*calls, answer(1, 1000, reply())), [sent(1, reply())])
        self.assertEqual(last(*calls, answer(1, 2 ** 31 - 1, reply())), [sent(1, reply())])
        self.assertEqual(last(*calls, answer(1, 2 ** 31, reply())), -4)
        self.assertEqual(last(*calls, answer(1, 2000, reply()), tick(1999)), -4)

    def test_which_refusal_goes_first(self):
        calls = [ask("OPTIONS", 5)]
        self.assertEqual(last(*calls, answer(2, 4, [65] * 8193)), -1)
        self.assertEqual(last(*calls, answer(2, 4, octets("x"))), -4)
        self.assertEqual(last(*calls, answer(2, 4, reply())), -4)
        self.assertEqual(last(*calls, answer(2, 5, request())), -2)

    def test_a_refusal_leaves_the_transaction_as_it_was(self):
        for wrong in (reply(200, branch="2"), reply(200, "BYE"), request(), octets("x")):
            calls = [ask("OPTIONS"), answer(1, 0, wrong), state(1), ask("OPTIONS"), answer(1, 0, reply())]
            self.assertEqual(run(*calls)[2:], [0, [], [sent(1, reply())]])

    def test_timers_do_nothing_at_a_refusal(self):
        calls = [ask("INVITE"), answer(1, 0, reply(400, "INVITE")), answer(1, 32000, reply(400, "INVITE")), tick(499),
                 tick(500)]
        self.assertEqual(run(*calls)[2:], [-3, [], [sent(1, reply(400, "INVITE"))]])


class Sent(unittest.TestCase):
    def test_the_numbers_as_they_stand(self):
        message = reply()
        self.assertEqual(rows([begin(), ask("OPTIONS"), answer(1, 0, message)])[2], [1, 1, 1, len(message)] + message)

    def test_states(self):
        for method, status, after in (
                ("OPTIONS", 100, 1), ("OPTIONS", 199, 1), ("OPTIONS", 200, 2), ("OPTIONS", 299, 2),
                ("OPTIONS", 300, 2), ("OPTIONS", 699, 2), ("INVITE", 100, 1), ("INVITE", 199, 1),
                ("INVITE", 200, -1), ("INVITE", 299, -1), ("INVITE", 300, 2), ("INVITE", 699, 2)):
            with self.subTest(method=method, status=status):
                message = reply(status, method)
                self.assertEqual(run(ask(method), answer(1, 0, message), state(1))[1:], [[sent(1, message)], after])

    def test_below_200_several_times(self):
        for method in ("OPTIONS", "INVITE"):
            one, two, three = [reply(status, method) for status in (100, 180, 200)]
            calls = [ask(method), answer(1, 0, one), answer(1, 0, two), answer(1, 0, three)]
            self.assertEqual(run(*calls)[1:], [[sent(1, one)], [sent(1, two)], [sent(1, three)]])

    def test_timers_ahead_of_what_is_sent(self):
        calls = [send(0, request("OPTIONS", "7")), ask("OPTIONS"), send(0, request("OPTIONS", "8")),
                 answer(2, 500, reply())]
        self.assertEqual(last(*calls), [
            sent(1, request("OPTIONS", "7")), sent(3, request("OPTIONS", "8")), sent(2, reply())])

    def test_over_makes_room(self):
        asked = [receive(0, request("INVITE", str(k))) for k in range(64)]
        calls = asked + [send(0, OPTIONS), answer(1, 0, reply(200, "INVITE", "0")), send(0, OPTIONS)]
        self.assertEqual(run(*calls)[64:], [-3, [sent(1, reply(200, "INVITE", "0"))], [sent(65, OPTIONS)]])


class TimersOfOneThatAnswers(unittest.TestCase):
    def test_none_before_the_users_last_reply(self):
        for method in ("OPTIONS", "INVITE"):
            for calls in ([ask(method)], [ask(method), answer(1, 0, reply(180, method))]):
                self.assertEqual(run(*calls, tick(500), tick(40000), tick(2 ** 31 - 1))[-3:], [[], [], []])
                self.assertGreaterEqual(last(*calls, tick(40000), state(1)), 0)

    def test_an_invite_refused_is_sent_again(self):
        for status in (300, 486, 699):
            message = reply(status, "INVITE")
            calls = [ask("INVITE"), answer(1, 0, message)]
            times = times_of(calls, [sent(1, message)], 29000)
            self.assertEqual(times, [500, 1500, 3500, 7500, 11500, 15500, 19500, 23500, 27500])
            calls += [tick(now) for now in times] + [tick(now) for now in (31499, 31500, 31999, 32000, 32000)]
            self.assertEqual(run(*calls, state(1))[11:], [[], [sent(1, message)], [], [lost(1)], [], -1])

    def test_an_invite_refused_counts_from_that_call(self):
        message = reply(486, "INVITE")
        calls = [ask("INVITE"), answer(1, 700, message), tick(1199), tick(1200), tick(2199), tick(2200), tick(32699),
                 tick(32700)]
        again = [sent(1, message)]
        self.assertEqual(run(*calls)[2:], [[], again, [], again, again, [lost(1)]])

    def test_the_last_reply_is_what_is_sent_again(self):
        calls = [ask("INVITE"), answer(1, 0, reply(180, "INVITE")), answer(1, 0, reply(486, "INVITE")), tick(500)]
        self.assertEqual(last(*calls), [sent(1, reply(486, "INVITE"))])

    def test_an_invite_taken_is_over(self):
        calls = [ask("INVITE"), answer(1, 0, reply(200, "INVITE")), tick(500), tick(40000)]
        self.assertEqual(run(*calls)[2:], [[], []])

    def test_others_are_not_sent_again_and_end_in_silence(self):
        for status in (200, 299, 300, 699):
            calls = [ask("OPTIONS"), answer(1, 100, reply(status)), tick(600), tick(32099), state(1), tick(32100),
                     state(1), tick(40000)]
            self.assertEqual(run(*calls)[2:], [[], [], 2, [], -1, []])

    def test_in_order_with_those_that_ask(self):
        refused = reply(486, "INVITE")
        calls = [ask("INVITE"), send(0, OPTIONS), answer(1, 0, refused), send(500, request(branch="3"))]
        self.assertEqual(last(*calls), [sent(1, refused), sent(2, OPTIONS), sent(3, request(branch="3"))])
        calls = [ask("INVITE"), send(0, OPTIONS), answer(1, 0, refused), send(32000, request(branch="3"))]
        self.assertEqual(last(*calls), [lost(1), lost(2), sent(3, request(branch="3"))])


if __name__ == "__main__":
    unittest.main()
