"""tx_receive: what comes, and what it does to one that asks and to one that answers."""

import unittest

from tests.helper import (
    answer, begin, build, last, lost, octets, receive, reply, request, rows, run, send, send_many, sent, state, tick,
    times_of, told, via)

INVITE = request("INVITE")
OPTIONS = request("OPTIONS")
ACK = request("ACK")


class WhatComes(unittest.TestCase):
    def test_what_is_no_message_is_passed_over(self):
        for message in ([], octets("x"), reply(99), reply(700), request(CSeq="x"), request(Content_Length="1")):
            self.assertEqual(run(receive(0, message), state(1)), [[], -1])

    def test_timers_run_and_the_time_is_set_all_the_same(self):
        for message in ([], octets("x"), reply(99), request(CSeq="x")):
            calls = [send(0, OPTIONS), receive(500, message), tick(499), tick(1499), tick(1500)]
            self.assertEqual(run(*calls)[1:], [[sent(1, OPTIONS)], -4, [], [sent(1, OPTIONS)]])
            self.assertEqual(run(send(0, OPTIONS), receive(32000, message), state(1))[1:], [[lost(1)], -1])
            self.assertEqual(last(receive(7, message), tick(6)), -4)

    def test_what_is_no_message_leaves_all_transactions_alone(self):
        broken = reply(200, Content_Length="1")
        calls = [send(0, OPTIONS), receive(0, INVITE), receive(0, broken), receive(0, request("INVITE", From=None)),
                 state(1), state(2), receive(0, reply())]
        self.assertEqual(run(*calls)[2:], [[], [], 0, 1, [told(1, reply())]])

    def test_the_numbers_as_they_stand(self):
        self.assertEqual(rows([begin(), receive(0, OPTIONS)])[1], [1, 2, 1, len(OPTIONS)] + OPTIONS)
        self.assertEqual(rows([begin(), receive(0, ACK)])[1], [1, 2, 0, len(ACK)] + ACK)
        self.assertEqual(rows([begin(), receive(0, octets("x"))])[1], [0])

    def test_timers_go_first(self):
        self.assertEqual(last(send(0, OPTIONS), receive(500, reply())), [sent(1, OPTIONS), told(1, reply())])
        self.assertEqual(last(send(0, OPTIONS), receive(32000, reply())), [lost(1), told(0, reply())])
        calls = [receive(0, OPTIONS), answer(1, 0, reply())]
        self.assertEqual(last(*calls, receive(31999, OPTIONS)), [sent(1, reply())])
        self.assertEqual(last(*calls, receive(32000, OPTIONS)), [told(2, OPTIONS)])

    def test_the_time_at_its_edges(self):
        self.assertEqual(last(tick(1000), receive(999, OPTIONS)), -4)
        self.assertEqual(last(tick(1000), receive(1000, OPTIONS)), [told(1, OPTIONS)])
        self.assertEqual(last(receive(2 ** 31 - 1, OPTIONS)), [told(1, OPTIONS)])
        self.assertEqual(last(receive(2 ** 31, OPTIONS)), -4)

    def test_which_refusal_goes_first(self):
        self.assertEqual(last(tick(5), receive(4, [65] * 8193)), -1)
        self.assertEqual(last(tick(5), receive(4, octets("x"))), -4)
        self.assertEqual(last(tick(5), receive(2 ** 31, octets("x"))), -4)

    def test_a_reply_that_belongs_to_none(self):
        for message in (reply(branch="2"), reply(method="BYE"), reply(method="options")):
            self.assertEqual(run(send(0, OPTIONS), receive(0, message), state(1))[1:], [[told(0, message)], 0])
        self.assertEqual(last(receive(0, OPTIONS), receive(0, reply())), [told(0, reply())])

    def test_a_reply_belongs_by_branch_and_method_alone(self):
        message = reply(by_whom="other", From="x", To="y", Call_ID="z", CSeq="9 OPTIONS")
        self.assertEqual(last(send(0, OPTIONS), receive(0, message)), [told(1, message)])

    def test_methods_part_the_replies(self):
        calls = [send(0, INVITE), send(0, OPTIONS), receive(0, reply(180)), receive(0, reply(180, "INVITE"))]
        self.assertEqual(run(*calls)[2:], [[told(2, reply(180))], [told(1, reply(180, "INVITE"))]])


class AnInviteAsks(unittest.TestCase):
    def acknowledged(self, uri="u", first_via=via(), sender="a", target="b", call_name="c", number="1"):
        return build(f"ACK {uri} SIP/2.0", [
            ("Via", first_via), ("Max-Forwards", "70"), ("From", sender), ("To", target), ("Call-ID", call_name),
            ("CSeq", number + " ACK"), ("Content-Length", "0")])

    def test_below_200(self):
        for status in (100, 199):
            message = reply(status, "INVITE")
            calls = [send(0, INVITE), receive(100, message), state(1), receive(100, message), state(1), tick(500),
                     tick(2 ** 31 - 1), state(1)]
            self.assertEqual(run(*calls)[1:], [[told(1, message)], 1, [told(1, message)], 1, [], [], 1])

    def test_below_200_both_timers_stop_for_good(self):
        calls = [send(0, INVITE), tick(500), receive(600, reply(180, "INVITE")), tick(1500), tick(32000), state(1)]
        self.assertEqual(run(*calls)[3:], [[], [], 1])
        calls += [receive(90000, reply(181, "INVITE")), state(1), receive(99000, reply(200, "INVITE")), state(1)]
        self.assertEqual(run(*calls)[6:], [[told(1, reply(181, "INVITE"))], 1, [told(1, reply(200, "INVITE"))], -1])

    def test_200_to_299(self):
        for status in (200, 299):
            message = reply(status, "INVITE")
            for before in ([], [receive(0, reply(180, "INVITE"))]):
                calls = [send(0, INVITE)] + before + [receive(0, message), state(1), tick(500), tick(40000)]
                self.assertEqual(run(*calls)[-4:], [[told(1, message)], -1, [], []])
                self.assertEqual(last(*calls, receive(40000, message)), [told(0, message)])

    def test_300_and_more(self):
        for status in (300, 699):
            message = reply(status, "INVITE")
            for before in ([], [receive(0, reply(180, "INVITE"))]):
                calls = [send(0, INVITE)] + before + [receive(100, message), state(1), tick(32099), state(1),
                                                      tick(32100), state(1)]
                self.assertEqual(run(*calls)[-6:], [
                    [sent(1, self.acknowledged()), told(1, message)], 2, [], 2, [], -1])

    def test_the_acknowledgement(self):
        asked = build("INVITE sip:x@y SIP/2.0", [
            ("Via", via("1", "me") + ";x"), ("Via", "another"), ("From", "from here"), ("To", "to there"),
            ("Call-ID", "call me"), ("CSeq", "0000000120 INVITE"), ("Content-Length", "2"), ("X", "y")], "hi")
        refused = reply(486, "INVITE", To="to there;tag=1", From="elsewhere", Call_ID="no", CSeq="7 INVITE")
        wanted = self.acknowledged("sip:x@y", via("1", "me") + ";x", "from here", "to there;tag=1", "call me", "120")
        self.assertEqual(last(send(0, asked), receive(0, refused)), [sent(1, wanted), told(1, refused)])

    def test_the_acknowledgements_number_without_zeros(self):
        for digits, number in (("0", "0"), ("0000000000", "0"), ("007", "7"), ("2147483647", "2147483647")):
            answered = last(send(0, request("INVITE", CSeq=digits + " INVITE")), receive(0, reply(486, "INVITE")))
            self.assertEqual(answered[0], sent(1, self.acknowledged(number=number)))

    def test_once_more_when_completed(self):
        first = reply(486, "INVITE", To="one")
        calls = [send(0, INVITE), receive(0, first)]
        for status in (300, 486, 699):
            again = receive(1000, reply(status, "INVITE", To="two"))
            self.assertEqual(run(*calls, again, state(1))[2:], [[sent(1, self.acknowledged(target="one"))], 2])
        for status in (100, 200, 299):
            self.assertEqual(run(*calls, receive(1000, reply(status, "INVITE")), state(1))[2:], [[], 2])

    def test_once_more_each_time_it_comes(self):
        refused = receive(1000, reply(486, "INVITE"))
        calls = [send(0, INVITE), refused, refused, refused, receive(32999, reply(486, "INVITE"))]
        self.assertEqual(run(*calls)[2:], [[sent(1, self.acknowledged())]] * 3)
        late = receive(33000, reply(486, "INVITE"))
        self.assertEqual(last(*calls, late), [told(0, reply(486, "INVITE"))])

    def test_once_more_moves_no_timer(self):
        calls = [send(0, INVITE), receive(0, reply(486, "INVITE")), receive(1000, reply(486, "INVITE")), tick(31999),
                 state(1), tick(32000), state(1)]
        self.assertEqual(run(*calls)[3:], [[], 2, [], -1])


class AnotherAsks(unittest.TestCase):
    def test_below_200(self):
        for status in (100, 199):
            message = reply(status)
            calls = [send(0, OPTIONS), receive(0, message), state(1), receive(0, message), state(1)]
            self.assertEqual(run(*calls)[1:], [[told(1, message)], 1, [told(1, message)], 1])

    def test_below_200_the_next_waits_are_4000(self):
        times = times_of([send(0, OPTIONS), receive(0, reply(180))], [sent(1, OPTIONS)], 29000)
        self.assertEqual(times, [500, 4500, 8500, 12500, 16500, 20500, 24500, 28500])

    def test_below_200_the_wait_that_runs_goes_on(self):
        for comes, times in ((400, (500, 4500, 8500)), (500, (1500, 5500, 9500)), (1400, (1500, 5500, 9500)),
                             (1600, (3500, 7500, 11500))):
            calls = [send(0, OPTIONS)] + [tick(now) for now in (500, 1500) if now <= comes]
            calls += [receive(comes, reply(180))]
            for now in times:
                self.assertEqual(run(*calls, tick(now - 1), tick(now))[-2:], [[], [sent(1, OPTIONS)]])
                calls += [tick(now)]

    def test_in_state_1_another_below_200_moves_no_timer(self):
        calls = [send(0, OPTIONS), receive(0, reply(180)), tick(500), receive(4400, reply(181)), tick(4499), tick(4500)]
        self.assertEqual(run(*calls)[3:], [[told(1, reply(181))], [], [sent(1, OPTIONS)]])

    def test_lost_at_the_end_in_state_0_and_1(self):
        for before in ([], [receive(0, reply(180))], [receive(31999, reply(180))]):
            calls = [send(0, OPTIONS)] + before + [tick(31999), state(1), tick(32000), state(1)]
            self.assertEqual(run(*calls)[-3:], [min(len(before), 1), [lost(1)], -1])

    def test_200_and_more(self):
        for status in (200, 299, 300, 699):
            message = reply(status)
            for before in ([], [receive(0, reply(180))]):
                calls = [send(0, OPTIONS)] + before + [
                    receive(100, message), state(1), tick(5099), state(1), tick(5100), state(1)]
                self.assertEqual(run(*calls)[-6:], [[told(1, message)], 2, [], 2, [], -1])

    def test_nothing_when_completed(self):
        for status in (100, 200, 486):
            calls = [send(0, OPTIONS), receive(0, reply(200)), receive(4000, reply(status)), state(1), tick(5000),
                     state(1)]
            self.assertEqual(run(*calls)[2:], [[], 2, [], -1])

    def test_behind_its_end_a_reply_belongs_to_none(self):
        calls = [send(0, OPTIONS), receive(0, reply(200))]
        self.assertEqual(last(*calls, receive(4999, reply(200))), [])
        self.assertEqual(last(*calls, receive(5000, reply(200))), [told(0, reply(200))])


class OneAnswers(unittest.TestCase):
    def test_told_once(self):
        for message, first_state in ((INVITE, 1), (OPTIONS, 0), (request("invite"), 0)):
            calls = [receive(0, message), state(1), receive(0, message), state(1), state(2)]
            self.assertEqual(run(*calls), [[told(1, message)], first_state, [], first_state, -1])

    def test_a_request_belongs_by_branch_by_whom_and_method(self):
        for method, another in (("OPTIONS", "INVITE"), ("INVITE", "OPTIONS")):
            calls = [receive(0, request(method)), answer(1, 0, reply(180, method))]
            for message in (request(method, branch="2"), request(method, by_whom="other"), request("BYE"),
                            request(another), request(method.lower())):
                self.assertEqual(last(*calls, receive(0, message)), [told(2, message)])
            same = request(method, uri="v", From="x", To="y", Call_ID="z", CSeq="7 " + method)
            self.assertEqual(last(*calls, receive(0, same)), [sent(1, reply(180, method))])

    def test_a_request_does_not_belong_to_one_that_asks(self):
        self.assertEqual(last(send(0, OPTIONS), receive(0, OPTIONS)), [told(2, OPTIONS)])

    def test_with_64_there_nothing_is_done(self):
        for method in ("OPTIONS", "INVITE"):
            calls = send_many(64) + [receive(0, request(method, branch="65")), state(65)]
            self.assertEqual(run(*calls)[64:], [[], -1])
            self.assertEqual(len(last(*send_many(64), receive(500, request(method, branch="65")))), 64)
        calls = send_many(1) + send_many(64, now=1)[1:] + [receive(32000, request(branch="65"))]
        answered = last(*calls)
        self.assertEqual((answered[0], answered[-1]), (lost(1), told(65, request(branch="65"))))

    def test_with_64_there_no_number_is_used(self):
        calls = [send(0, INVITE)] + send_many(63) + [receive(0, request(branch="65"))]
        calls += [receive(0, reply(200, "INVITE")), receive(0, request(branch="65"))]
        self.assertEqual(run(*calls)[64:], [[], [told(1, reply(200, "INVITE"))], [told(65, request(branch="65"))]])

    def test_with_64_there_others_still_come_in(self):
        calls = send_many(63) + [receive(0, INVITE), answer(64, 0, reply(486, "INVITE"))]
        self.assertEqual(last(*calls, receive(0, INVITE)), [sent(64, reply(486, "INVITE"))])
        self.assertEqual(last(*calls, receive(0, request("ACK", "9"))), [told(0, request("ACK", "9"))])
        self.assertEqual(last(*calls, receive(0, reply(branch="5"))), [told(5, reply(branch="5"))])

    def test_the_same_again_gets_what_was_sent_last(self):
        for method, status in (("OPTIONS", 100), ("OPTIONS", 200), ("OPTIONS", 404), ("INVITE", 180), ("INVITE", 486)):
            message = reply(status, method)
            calls = [receive(0, request(method)), answer(1, 0, reply(100, method)), answer(1, 0, message),
                     receive(0, request(method)), receive(0, request(method))]
            self.assertEqual(run(*calls)[3:], [[sent(1, message)], [sent(1, message)]])

    def test_the_same_again_moves_no_timer(self):
        refused = reply(486, "INVITE")
        calls = [receive(0, INVITE), answer(1, 0, refused), receive(400, INVITE), tick(499), tick(500), tick(1499),
                 tick(1500)]
        again = [sent(1, refused)]
        self.assertEqual(run(*calls)[2:], [again, [], again, [], again])

    def test_behind_its_end_the_same_is_a_new_one(self):
        calls = [receive(0, INVITE), answer(1, 0, reply(200, "INVITE")), receive(0, INVITE)]
        self.assertEqual(last(*calls), [told(2, INVITE)])


class Acknowledged(unittest.TestCase):
    def test_when_completed(self):
        refused = reply(486, "INVITE")
        calls = [receive(0, INVITE), answer(1, 0, refused), receive(100, ACK), state(1), tick(600), receive(600, INVITE),
                 receive(4000, ACK), tick(5099), state(1), tick(5100), state(1)]
        self.assertEqual(run(*calls)[2:], [[], 3, [], [], [], [], 3, [], -1])

    def test_an_ack_belongs_by_branch_and_by_whom(self):
        calls = [receive(0, INVITE), answer(1, 0, reply(486, "INVITE"))]
        for message in (request("ACK", branch="2"), request("ACK", by_whom="other")):
            self.assertEqual(run(*calls, receive(0, message), state(1))[2:], [[told(0, message)], 2])
        message = request("ACK", uri="v", From="x", CSeq="9 ACK")
        self.assertEqual(run(*calls, receive(0, message), state(1))[2:], [[], 3])

    def test_before_it_is_completed(self):
        for before in ([], [answer(1, 0, reply(180, "INVITE"))]):
            calls = [receive(0, INVITE)] + before + [receive(0, ACK), state(1), tick(40000), state(1)]
            self.assertEqual(run(*calls)[-4:], [[], 1, [], 1])

    def test_before_it_is_completed_nothing_is_sent_again(self):
        calls = [receive(0, INVITE), answer(1, 0, reply(180, "INVITE")), receive(0, ACK), receive(0, INVITE)]
        self.assertEqual(run(*calls)[2:], [[], [sent(1, reply(180, "INVITE"))]])

    def test_behind_its_end_an_ack_belongs_to_none(self):
        calls = [receive(0, INVITE), answer(1, 0, reply(486, "INVITE")), receive(0, ACK)]
        self.assertEqual(last(*calls, receive(4999, ACK)), [])
        self.assertEqual(last(*calls, receive(5000, ACK)), [told(0, ACK)])
        calls = [receive(0, INVITE), answer(1, 0, reply(200, "INVITE"))]
        self.assertEqual(last(*calls, receive(0, ACK)), [told(0, ACK)])

    def test_confirmed_it_is_not_lost(self):
        calls = [receive(0, INVITE), answer(1, 0, reply(486, "INVITE")), receive(31999, ACK), tick(32000), state(1),
                 tick(36999), state(1)]
        self.assertEqual(run(*calls)[3:], [[], 3, [], -1])

    def test_to_none_or_to_anothers(self):
        self.assertEqual(run(receive(0, ACK), state(1)), [[told(0, ACK)], -1])
        calls = [receive(0, OPTIONS), answer(1, 0, reply()), receive(0, ACK), state(1)]
        self.assertEqual(run(*calls)[2:], [[told(0, ACK)], 2])
        self.assertEqual(last(send(0, INVITE), receive(0, ACK)), [told(0, ACK)])


if __name__ == "__main__":
    unittest.main()
