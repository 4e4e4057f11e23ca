"""How calls are handed in and answered, apart from what each of them does."""

import inspect
import random
import unittest

from callsetup.transactions import answers
from tests.helper import answer, begin, octets, receive, reply, request, send, state, tick


class Unchanged(list):
    """A list that fails at each try to change it."""

    def refuse(self, *given, **named):
        raise AssertionError("what is handed in was changed")

    append = extend = insert = pop = remove = clear = sort = reverse = refuse
    __setitem__ = __delitem__ = __iadd__ = __imul__ = refuse


def some_calls():
    return begin() + send(0, request()) + receive(0, request("INVITE")) + answer(2, 10, reply(486, "INVITE")) + tick(
        600) + state(2) + send(600, octets("x"))


class Interface(unittest.TestCase):
    def test_one_argument(self):
        self.assertEqual(list(inspect.signature(answers).parameters), ["calls"])

    def test_each_answer_with_its_length_before_it(self):
        asked, invited, refused = request(), request("INVITE"), reply(486, "INVITE")
        wanted = [1, 0]
        wanted += [4 + len(asked), 1, 1, 1, len(asked)] + asked
        wanted += [4 + len(invited), 1, 2, 2, len(invited)] + invited
        wanted += [4 + len(refused), 1, 1, 2, len(refused)] + refused
        wanted += [7 + len(asked) + len(refused), 2, 1, 1, len(asked)] + asked + [1, 2, len(refused)] + refused
        wanted += [1, 2, 1, -2]
        self.assertEqual(answers(some_calls()), wanted)

    def test_nothing_to_tell_is_a_0(self):
        self.assertEqual(answers([0, 4, 5]), [1, 0, 1, 0])

    def test_lost_has_no_bytes(self):
        asked = request()
        answered = answers(begin() + send(0, asked) + tick(32000))
        self.assertEqual(answered[-5:], [4, 1, 3, 1, 0])

    def test_an_empty_message(self):
        self.assertEqual(answers([0, 1, 0, 0, 2, 1, 0, 0, 3, 0, 0]), [1, 0, 1, -2, 1, -2, 1, 0])

    def test_whole_numbers_and_a_list(self):
        answered = answers(some_calls())
        self.assertIs(type(answered), list)
        self.assertEqual({type(number) for number in answered}, {int})

    def test_what_is_handed_in_stays_as_it_was(self):
        calls = some_calls()
        answers(calls)
        self.assertEqual(calls, some_calls())

    def test_what_is_handed_in_is_not_changed_for_a_while_either(self):
        self.assertEqual(answers(Unchanged(some_calls())), answers(some_calls()))

    def test_a_list_that_serves_twice_answers_the_same(self):
        calls = some_calls()
        self.assertEqual(answers(calls), answers(calls))

    def test_what_is_given_back_is_ones_own(self):
        calls = some_calls()
        answers(calls).clear()
        self.assertEqual(calls, some_calls())
        self.assertNotEqual(answers(calls), [])

    def test_nothing_is_kept_from_one_time_to_the_next(self):
        first = answers(some_calls())
        self.assertEqual(answers(some_calls()), first)
        answers(begin() + send(2 ** 31 - 1, request()))
        self.assertEqual(answers(some_calls()), first)

    def test_the_most_that_is_handed_in(self):
        calls = begin() + send(0, request(body="x" * 8000, Content_Length="8000"))
        for now in range(1, 299):
            calls += tick(now * 7)
        self.assertEqual(answers(calls)[-2:], [1, 0])

    def test_whatever_bytes_come(self):
        chance = random.Random(1)
        whole = [request("INVITE"), request(), reply(486, "INVITE"), reply(), request("ACK")]
        for times in range(300):
            calls = begin()
            now = 0
            for step in range(20):
                message = list(chance.choice(whole))
                for change in range(chance.randrange(3)):
                    message[chance.randrange(len(message))] = chance.randrange(256)
                now += chance.choice((0, 1, 500, 4000, 32000))
                calls += chance.choice((send(now, message), answer(chance.randrange(4), now, message),
                                        receive(now, message), tick(now), state(chance.randrange(4))))
            answered = answers(calls)
            self.assertEqual(answers(list(calls)), answered)


if __name__ == "__main__":
    unittest.main()
