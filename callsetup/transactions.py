"""The calls on one end, handed in one behind another as whole numbers, and their answers."""

from callsetup.ends import End
from callsetup.messages import MOST_OCTETS
from callsetup.refusals import NoTransaction, TooLong, WrongMessage, WrongMoment, WrongTransaction

TX_BEGIN = 0
TX_SEND = 1
TX_REPLY = 2
TX_RECEIVE = 3
TX_TICK = 4


class Reader:
    def __init__(self, calls):
        self.calls = calls
        self.place = 0

    def has_more(self):
        return self.place < len(self.calls)

    def take_number(self):
        number = self.calls[self.place]
        self.place += 1
        return number

    def take_message(self):
        length = self.take_number()
        start = self.place
        self.place += length
        if length > MOST_OCTETS:
            raise TooLong()
        return self.calls[start:self.place]


def answers(calls):
    reader = Reader(calls)
    end = End()
    numbers = []
    while reader.has_more():
        call = reader.take_number()
        if call == TX_BEGIN:
            end = End()
            answer = [0]
        else:
            answer = answer_or_refusal(end, call, reader)
        numbers.append(len(answer))
        numbers.extend(answer)
    return numbers


def answer_or_refusal(end, call, reader):
    try:
        return answer_call(end, call, reader)
    except TooLong:
        return [-1]
    except NoTransaction:
        return [-1]
    except WrongMessage:
        return [-2]
    except WrongTransaction:
        return [-3]
    except WrongMoment:
        return [-4]


# The message stands last in every call, so a call is read to its end even where its message is refused as too long.
def answer_call(end, call, reader):
    if call == TX_SEND:
        now = reader.take_number()
        return end.send(reader.take_message(), now)
    if call == TX_REPLY:
        number = reader.take_number()
        now = reader.take_number()
        return end.reply(number, reader.take_message(), now)
    if call == TX_RECEIVE:
        now = reader.take_number()
        return end.receive(reader.take_message(), now)
    if call == TX_TICK:
        return end.tick(reader.take_number()).answer()
    return [end.state_of(reader.take_number())]
