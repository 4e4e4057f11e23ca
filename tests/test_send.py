"""tx_begin and tx_send, and what the timers of one that asks do."""

import unittest

from tests.helper import (
    answer, begin, last, lost, receive, reply, request, rows, run, send, send_many, sent, state, tick, times_of, told)

NO_MESSAGE = [0]


class Begin(unittest.TestCase):
    def test_answers_0(self):
        self.assertEqual(rows([begin()]), [[0]])
        self.assertEqual(rows([begin(), begin(), begin()]), [[0], [0], [0]])

    def test_there_are_no_transactions(self):
        self.assertEqual(run(state(0), state(1), tick(40000)), [-1, -1, []])

    def test_the_time_is_0(self):
        self.assertEqual(last(tick(0)), [])

    def test_anew_there_are_no_transactions(self):
        calls = [send(0, request()), begin(), state(1), tick(40000)]
        self.assertEqual(run(*calls)[1:], [0, -1, []])

    def test_anew_the_branch_is_free_and_numbers_count_from_1(self):
        calls = [send(0, request()), send(0, request(branch="2")), begin(), send(0, request())]
        self.assertEqual(last(*calls), [sent(1, request())])

    def test_anew_there_is_room(self):
        calls = send_many(64) + [begin(), send(0, request())]
        self.assertEqual(last(*calls), [sent(1, request())])

    def test_anew_the_time_is_0(self):
        calls = [send(5000, request()), begin(), send(0, request()), tick(499), tick(500)]
        self.assertEqual(run(*calls)[2:], [[sent(1, request())], [], [sent(1, request())]])


class Send(unittest.TestCase):
    def test_sent_at_once(self):
        for method in ("INVITE", "OPTIONS", "REGISTER", "x"):
            message = request(method, body="abc", Content_Length="3")
            self.assertEqual(run(send(7, message), state(1)), [[sent(1, message)], 0])

    def test_the_numbers_as_they_stand(self):
        message = request()
        self.assertEqual(rows([begin(), send(0, message)])[1], [1, 1, 1, len(message)] + message)

    def test_numbers_count_in_order(self):
        calls = [send(0, request("INVITE")), send(0, request(branch="2")), receive(0, request()),
                 send(0, request(branch="3"))]
        self.assertEqual(run(*calls), [
            [sent(1, request("INVITE"))], [sent(2, request(branch="2"))], [told(3, request())],
            [sent(4, request(branch="3"))]])

    def test_numbers_are_never_used_twice(self):
        calls = [send(0, request()), tick(32000), send(32000, request())]
        self.assertEqual(run(*calls)[1:], [[lost(1)], [sent(2, request())]])

    def test_a_refusal_takes_no_number(self):
        calls = [send(0, request()), send(0, request()), send(0, NO_MESSAGE), send(0, request(branch="2"))]
        self.assertEqual(run(*calls)[1:], [-3, -2, [sent(2, request(branch="2"))]])

    def test_the_time_at_its_edges(self):
        self.assertEqual(last(tick(1000), send(1000, request())), [sent(1, request())])
        self.assertEqual(last(tick(1000), send(999, request())), -4)
        self.assertEqual(last(tick(1000), send(0, request())), -4)
        self.assertEqual(last(send(2 ** 31 - 1, request())), [sent(1, request())])
        self.assertEqual(last(send(2 ** 31, request())), -4)
        self.assertEqual(last(send(2 ** 32 - 1, request())), -4)

    def test_tx_send_sets_the_time(self):
        self.assertEqual(last(send(1000, request()), send(999, request(branch="2"))), -4)

    def test_only_requests_and_no_ack(self):
        self.assertEqual(last(send(0, reply())), -2)
        self.assertEqual(last(send(0, reply(100, "INVITE"))), -2)
        self.assertEqual(last(send(0, request("ACK"))), -2)
        self.assertEqual(last(send(0, request("ack"))), [sent(1, request("ack"))])
        self.assertEqual(last(send(0, request("ACKS"))), [sent(1, request("ACKS"))])
        self.assertEqual(last(send(0, [])), -2)

    def test_64_and_no_more(self):
        answered = run(*send_many(65))
        self.assertEqual([row[0][1] for row in answered[:64]], list(range(1, 65)))
        self.assertEqual(answered[64], -3)

    def test_those_that_answer_count_too(self):
        calls = send_many(63) + [receive(0, request()), send(0, request(branch="65"))]
        self.assertEqual(run(*calls)[63:], [[told(64, request())], -3])

    def test_one_that_asks_with_this_branch_and_method(self):
        first = send(0, request("OPTIONS", "1", "h"))
        self.assertEqual(last(first, send(0, request("OPTIONS", "1", "other", "v", From="x"))), -3)
        self.assertEqual(last(first, send(0, request("INVITE", "1"))), [sent(2, request("INVITE", "1"))])
        self.assertEqual(last(first, send(0, request("OPTIONS", "2"))), [sent(2, request("OPTIONS", "2"))])

    def test_this_branch_and_method_in_every_state(self):
        for status in (180, 200, 400):
            calls = [send(0, request()), receive(0, reply(status)), send(0, request())]
            self.assertEqual(last(*calls), -3)
        calls = [send(0, request("INVITE")), receive(0, reply(200, "INVITE")), send(0, request("INVITE"))]
        self.assertEqual(last(*calls), [sent(2, request("INVITE"))])

    def test_one_that_answers_with_this_branch_and_method(self):
        self.assertEqual(last(receive(0, request()), send(0, request())), [sent(2, request())])


class TimersAhead(unittest.TestCase):
    def test_sent_again_ahead_of_what_is_sent_in_order(self):
        one, two, three = request("INVITE", "1"), request("OPTIONS", "2"), request("OPTIONS", "3")
        calls = [send(0, one), send(0, two), send(500, three)]
        self.assertEqual(last(*calls), [sent(1, one), sent(2, two), sent(3, three)])

    def test_lost_ahead_of_what_is_sent_in_order(self):
        one, two, three, four = [request("OPTIONS", str(k)) for k in range(1, 5)]
        calls = [send(0, one), send(1, two), send(2, three), send(32001, four)]
        self.assertEqual(last(*calls), [lost(1), lost(2), sent(3, three), sent(4, four)])

    def test_a_later_transaction_before_an_earlier_ones_timer(self):
        one, two, three = [request("OPTIONS", str(k)) for k in range(1, 4)]
        calls = [send(0, one), tick(500), send(600, two), send(1100, three)]
        self.assertEqual(last(*calls), [sent(2, two), sent(3, three)])

    def test_the_end_goes_before_again(self):
        self.assertEqual(run(send(0, request()), tick(32000), tick(32000))[1:], [[lost(1)], []])

    def test_once_a_call_and_from_now(self):
        calls = [send(0, request("INVITE")), tick(10000), tick(10000), tick(10999), tick(11000)]
        again = [sent(1, request("INVITE"))]
        self.assertEqual(run(*calls)[1:], [again, [], [], again])

    def test_waits_count_from_the_call_in_which_they_are_set(self):
        calls = [send(300, request()), tick(799), tick(805), tick(1804), tick(1805), tick(32299), tick(32300)]
        again = [sent(1, request())]
        self.assertEqual(run(*calls)[1:], [[], again, [], again, again, [lost(1)]])

    def test_room_by_one_that_is_over_at_this_very_time(self):
        calls = send_many(1) + send_many(64, now=1)[1:]
        self.assertEqual(last(*calls, send(31999, request(branch="65"))), -3)
        answered = last(*calls, send(32000, request(branch="65")))
        self.assertEqual(answered[0], lost(1))
        self.assertEqual(answered[-1], sent(65, request(branch="65")))
        self.assertEqual(len(answered), 65)

    def test_the_branch_is_free_when_its_transaction_is_over_at_this_very_time(self):
        self.assertEqual(last(send(0, request()), send(31999, request())), -3)
        self.assertEqual(last(send(0, request()), send(32000, request())), [lost(1), sent(2, request())])

    def test_the_latest_times(self):
        late = 2 ** 31 - 1
        calls = [send(late - 500, request()), tick(late), tick(late)]
        self.assertEqual(run(*calls)[1:], [[sent(1, request())], []])


class RefusalsDoNothing(unittest.TestCase):
    """Behind a refusal at a time at which a timer has come, a call shows that it had not run."""

    def nothing_done(self, first_calls, refused, number):
        later = [tick(600), state(1)]
        answered = run(*first_calls, refused, *later)
        self.assertEqual(answered[len(first_calls)], number)
        self.assertEqual(answered[-2:], run(*first_calls, *later)[-2:])
        self.assertIn(sent(1, request()), answered[-2])

    def test_wrong_messages(self):
        for message in (NO_MESSAGE, [], reply(), request("ACK")):
            self.nothing_done([send(0, request())], send(700, message), -2)

    def test_this_branch_and_method(self):
        self.nothing_done([send(0, request())], send(700, request()), -3)

    def test_65(self):
        self.nothing_done(send_many(64), send(700, request(branch="65")), -3)

    def test_wrong_times(self):
        self.nothing_done([send(0, request()), tick(400)], send(399, request(branch="2")), -4)
        self.nothing_done([send(0, request())], send(2 ** 31, request(branch="2")), -4)

    def test_too_long(self):
        self.nothing_done([send(0, request())], send(700, [65] * 8193), -1)

    def test_replies(self):
        self.nothing_done([send(0, request())], answer(1, 700, reply()), -3)
        self.nothing_done([send(0, request())], answer(1, 700, request()), -2)
        self.nothing_done([send(0, request()), tick(400)], answer(1, 399, reply()), -4)
        self.nothing_done([send(0, request())], answer(1, 700, [65] * 8193), -1)

    def test_receive_and_tick(self):
        self.nothing_done([send(0, request()), tick(400)], receive(399, reply()), -4)
        self.nothing_done([send(0, request())], receive(2 ** 31, reply()), -4)
        self.nothing_done([send(0, request())], receive(700, [65] * 8193), -1)
        self.nothing_done([send(0, request()), tick(400)], tick(399), -4)
        self.nothing_done([send(0, request())], tick(2 ** 31), -4)

    def test_a_loss_is_still_told_behind_a_refusal(self):
        calls = [send(0, request()), send(1, request(branch="2")), send(32000, request(branch="2")), tick(32000)]
        self.assertEqual(run(*calls)[2:], [-3, [lost(1), sent(2, request(branch="2"))]])

    def test_which_refusal_goes_first(self):
        calls = [send(5, request())]
        self.assertEqual(last(*calls, send(4, [65] * 8193)), -1)
        self.assertEqual(last(*calls, send(4, NO_MESSAGE)), -4)
        self.assertEqual(last(*calls, send(4, request())), -4)
        self.assertEqual(last(*send_many(64), send(0, request("ACK"))), -2)


class TimersOfOneThatAsks(unittest.TestCase):
    def test_an_invite_waits_twice_as_long_each_time(self):
        message = request("INVITE")
        times = times_of([send(0, message)], [sent(1, message)], 29000)
        self.assertEqual(times, [500, 1500, 3500, 7500, 15500])
        calls = [send(0, message)] + [tick(now) for now in (500, 1500, 3500, 7500, 15500)]
        calls += [tick(now) for now in (31499, 31500, 31999, 32000, 32000)]
        self.assertEqual(run(*calls)[6:], [[], [sent(1, message)], [], [lost(1)], []])

    def test_others_wait_4000_at_most(self):
        message = request()
        times = times_of([send(0, message)], [sent(1, message)], 29000)
        self.assertEqual(times, [500, 1500, 3500, 7500, 11500, 15500, 19500, 23500, 27500])
        calls = [send(0, message)] + [tick(now) for now in times]
        calls += [tick(now) for now in (31499, 31500, 31999, 32000, 32000)]
        self.assertEqual(run(*calls)[10:], [[], [sent(1, message)], [], [lost(1)], []])

    def test_just_before_each_wait_ends(self):
        for method in ("INVITE", "OPTIONS"):
            message = request(method)
            calls = [send(0, message), tick(499), tick(500), tick(1499), tick(1500), tick(3499), tick(3500)]
            again = [sent(1, message)]
            self.assertEqual(run(*calls)[1:], [[], again, [], again, [], again])

    def test_over_behind_the_end(self):
        for method in ("INVITE", "OPTIONS"):
            calls = [send(0, request(method)), tick(32000), state(1), tick(100000)]
            self.assertEqual(run(*calls)[1:], [[lost(1)], -1, []])

    def test_invite_is_meant_as_written(self):
        message = request("invite")
        calls = [send(0, message)] + [tick(now) for now in (500, 1500, 3500, 7500, 11500)]
        self.assertEqual(last(*calls), [sent(1, message)])


if __name__ == "__main__":
    unittest.main()
