"""tx_tick, which runs the timers alone, and tx_state."""

import unittest

from tests.helper import (
    answer, begin, last, lost, octets, receive, reply, request, rows, run, send, send_many, sent, state, tick, told)

INVITE = request("INVITE")
OPTIONS = request("OPTIONS")
ACK = request("ACK")
REFUSED = reply(486, "INVITE")


class TheTime(unittest.TestCase):
    def test_equal_less_and_more(self):
        self.assertEqual(run(tick(7), tick(7), tick(6), tick(0), tick(7), tick(8)), [[], [], -4, -4, [], []])

    def test_the_last_moment(self):
        self.assertEqual(run(tick(2 ** 31 - 1), tick(2 ** 31 - 1), tick(2 ** 31), tick(2 ** 32 - 1)), [[], [], -4, -4])

    def test_a_refusal_does_not_set_the_time(self):
        self.assertEqual(run(tick(2 ** 31), tick(2 ** 32 - 1), tick(5), tick(4), tick(5)), [-4, -4, [], -4, []])

    def test_a_refusal_runs_no_timers(self):
        calls = [send(0, OPTIONS), tick(2 ** 31), state(1), tick(499), tick(500)]
        self.assertEqual(run(*calls)[1:], [-4, 0, [], [sent(1, OPTIONS)]])

    def test_every_call_that_takes_the_time_sets_it(self):
        for call in (tick(9), send(9, OPTIONS), receive(9, OPTIONS), receive(9, octets("x")), receive(9, reply())):
            self.assertEqual(run(call, tick(8), tick(9))[1:], [-4, []])
        self.assertEqual(run(receive(0, OPTIONS), answer(1, 9, reply()), tick(8), tick(9))[2:], [-4, []])


class Timers(unittest.TestCase):
    def test_none_there(self):
        self.assertEqual(rows([begin(), tick(0), tick(2 ** 31 - 1)]), [[0], [0], [0]])

    def test_the_numbers_as_they_stand(self):
        calls = [begin(), send(0, OPTIONS), send(0, INVITE), tick(500), tick(32000)]
        self.assertEqual(rows(calls)[3:], [
            [2, 1, 1, len(OPTIONS)] + OPTIONS + [1, 2, len(INVITE)] + INVITE, [2, 3, 1, 0, 3, 2, 0]])

    def test_timers_alone(self):
        calls = [tick(0), send(0, OPTIONS), tick(0), tick(499), tick(500), tick(500), tick(32000), tick(32000)]
        self.assertEqual(run(*calls), [
            [], [sent(1, OPTIONS)], [], [], [sent(1, OPTIONS)], [], [lost(1)], []])

    def test_several_at_once_in_order(self):
        other = request(branch="2")
        calls = [send(0, INVITE), receive(0, INVITE), send(0, OPTIONS), receive(0, OPTIONS), send(0, other),
                 answer(4, 0, reply()), answer(2, 0, REFUSED)]
        again = [sent(1, INVITE), sent(2, REFUSED), sent(3, OPTIONS), sent(5, other)]
        self.assertEqual(last(*calls, tick(500)), again)
        self.assertEqual(last(*calls, tick(32000)), [lost(1), lost(2), lost(3), lost(5)])

    def test_in_order_whichever_came_first(self):
        two, three = request(branch="2"), request(branch="3")
        calls = [send(0, OPTIONS), tick(500), send(600, two), send(700, three), tick(1500)]
        self.assertEqual(last(*calls), [sent(1, OPTIONS), sent(2, two), sent(3, three)])

    def test_lost_sent_and_over_in_silence_at_once(self):
        two, three, four = [request(branch=str(k)) for k in (2, 3, 4)]
        calls = [send(0, OPTIONS), send(100, two), send(27000, three), receive(27000, reply(branch="2")),
                 send(27000, four), tick(32000), state(1), state(2), state(3), state(4)]
        self.assertEqual(run(*calls)[5:], [[lost(1), sent(3, three), sent(4, four)], -1, -1, 0, 0])

    def test_the_end_goes_before_again_at_the_same_time(self):
        calls = [send(0, OPTIONS), tick(500), tick(1500), tick(3500), tick(28000)]
        self.assertEqual(run(*calls, tick(31999), tick(32000), tick(32000))[4:], [
            [sent(1, OPTIONS)], [], [lost(1)], []])
        calls = [send(0, INVITE), tick(31000)]
        self.assertEqual(run(*calls, tick(31999), tick(32000), tick(32000))[1:], [[sent(1, INVITE)], [], [lost(1)], []])
        calls = [receive(0, INVITE), answer(1, 0, REFUSED), tick(31000)]
        self.assertEqual(run(*calls, tick(31999), tick(32000), tick(32000))[2:], [
            [sent(1, REFUSED)], [], [lost(1)], []])

    def test_again_runs_from_the_call_in_which_it_has_come(self):
        for first_calls, message in (([send(0, INVITE)], INVITE), ([send(0, OPTIONS)], OPTIONS),
                                     ([receive(0, INVITE), answer(1, 0, REFUSED)], REFUSED)):
            again = [sent(1, message)]
            calls = [tick(777), tick(777), tick(1776), tick(1777), tick(9000), tick(12999), tick(13000)]
            self.assertEqual(run(*first_calls, *calls)[len(first_calls):], [again, [], [], again, again, [], again])

    def test_again_once_a_call_however_late(self):
        calls = [send(0, INVITE), tick(31999), tick(31999)]
        self.assertEqual(run(*calls)[1:], [[sent(1, INVITE)], []])

    def test_the_end_however_late(self):
        calls = [send(0, INVITE), receive(0, INVITE), answer(2, 0, REFUSED), tick(2 ** 31 - 1), state(1), state(2)]
        self.assertEqual(run(*calls)[3:], [[lost(1), lost(2)], -1, -1])

    def test_the_end_does_not_move_with_again(self):
        calls = [send(0, INVITE), tick(20000), tick(21000), tick(31999), tick(32000)]
        self.assertEqual(last(*calls), [lost(1)])

    def test_64_at_once(self):
        messages = [request(branch=str(k)) for k in range(1, 65)]
        wanted = [sent(k, message) for k, message in enumerate(messages, 1)]
        self.assertEqual(last(*send_many(64), tick(500)), wanted)
        self.assertEqual(last(*send_many(64), tick(32000)), [lost(k) for k in range(1, 65)])


class State(unittest.TestCase):
    def test_of_one_that_asks(self):
        for method, first_end in (("INVITE", 32000), ("OPTIONS", 5000)):
            calls = [send(0, request(method)), state(1), receive(0, reply(180, method)), state(1),
                     receive(0, reply(486, method)), state(1), tick(first_end - 1), state(1), tick(first_end), state(1)]
            self.assertEqual(run(*calls)[1::2], [0, 1, 2, 2, -1])

    def test_of_one_that_answers_an_invite(self):
        calls = [receive(0, INVITE), state(1), answer(1, 0, reply(180, "INVITE")), state(1), answer(1, 0, REFUSED),
                 state(1), receive(0, ACK), state(1), tick(4999), state(1), tick(5000), state(1)]
        self.assertEqual(run(*calls)[1::2], [1, 1, 2, 3, 3, -1])

    def test_of_one_that_answers_another(self):
        calls = [receive(0, OPTIONS), state(1), answer(1, 0, reply(180)), state(1), answer(1, 0, reply()), state(1),
                 receive(0, ACK), state(1), tick(31999), state(1), tick(32000), state(1)]
        self.assertEqual(run(*calls)[1::2], [0, 1, 2, 2, 2, -1])

    def test_each_by_its_own_number(self):
        calls = [send(0, OPTIONS), receive(0, INVITE), receive(0, request(branch="3")),
                 answer(3, 0, reply(branch="3")), state(3), state(2), state(1)]
        self.assertEqual(run(*calls)[4:], [2, 1, 0])

    def test_none_yet(self):
        for number in (0, 1, 2, 64, 2 ** 31, 2 ** 32 - 1):
            self.assertEqual(last(state(number)), -1)
        for number in (0, 2, 65, 2 ** 32 - 1):
            self.assertEqual(last(send(0, OPTIONS), state(number)), -1)

    def test_over(self):
        for calls in ([send(0, OPTIONS), tick(32000)], [send(0, INVITE), receive(0, reply(200, "INVITE"))],
                      [receive(0, INVITE), answer(1, 0, reply(200, "INVITE"))]):
            self.assertEqual(run(*calls, state(1), send(32000, OPTIONS), state(1), state(2))[len(calls):], [
                -1, [sent(2, OPTIONS)], -1, 0])

    def test_told_with_the_number_0_is_none(self):
        self.assertEqual(run(receive(0, ACK), state(0), state(1)), [[told(0, ACK)], -1, -1])

    def test_the_time_does_not_pass(self):
        calls = [send(0, OPTIONS), state(1), state(40000), state(2 ** 32 - 1), tick(0), tick(499), state(1), tick(500)]
        self.assertEqual(run(*calls)[1:], [0, -1, -1, [], [], 0, [sent(1, OPTIONS)]])

    def test_a_number_alone(self):
        self.assertEqual(rows([begin(), receive(0, INVITE), state(1), state(2)])[2:], [[1], [-1]])


if __name__ == "__main__":
    unittest.main()
