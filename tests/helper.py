"""Messages and calls for the tests, and their answers taken apart."""

from callsetup.transactions import answers

SENT, TOLD, LOST = 1, 2, 3
CRLF = "\r\n"


def octets(text):
    return list(text.encode("latin-1"))


def build(first, headers, body=""):
    lines = [first] + [f"{name}: {value}" for name, value in headers]
    return octets("".join(line + CRLF for line in lines) + CRLF + body)


def via(branch="1", by_whom="h"):
    return f"SIP/2.0/UDP {by_whom};branch=z9hG4bK{branch}"


def headers(method="OPTIONS", branch="1", by_whom="h", **changed):
    """The usual headers; a keyword with _ for - gives a header another value, None leaves it out."""
    usual = {
        "Via": via(branch, by_whom),
        "From": "a",
        "To": "b",
        "Call-ID": "c",
        "CSeq": "1 " + method,
        "Content-Length": "0",
    }
    usual.update({name.replace("_", "-"): value for name, value in changed.items()})
    return [(name, value) for name, value in usual.items() if value is not None]


def request(method="OPTIONS", branch="1", by_whom="h", uri="u", body="", **changed):
    return build(f"{method} {uri} SIP/2.0", headers(method, branch, by_whom, **changed), body)


def reply(status=200, method="OPTIONS", branch="1", by_whom="h", words="", body="", **changed):
    return build(f"SIP/2.0 {status} {words}", headers(method, branch, by_whom, **changed), body)


def begin():
    return [0]


def send(now, message):
    return [1, now, len(message)] + message


def answer(number, now, message):
    return [2, number, now, len(message)] + message


def receive(now, message):
    return [3, now, len(message)] + message


def tick(now):
    return [4, now]


def state(number):
    return [5, number]


def rows(calls):
    """The answers to these calls, a list each."""
    handed_in = [number for call in calls for number in call]
    if len(handed_in) > 30000 or len(calls) > 300:
        raise ValueError("more than the document lets be handed in")
    answered = answers(handed_in)
    found = []
    place = 0
    while place < len(answered):
        length = answered[place]
        found.append(answered[place + 1:place + 1 + length])
        place += 1 + length
    if place != len(answered) or len(found) != len(calls):
        raise AssertionError("not one answer for each call")
    return found


def things(row):
    """What a call sent and told: (kind, transaction, bytes) each."""
    found = []
    place = 1
    while place < len(row):
        kind, number, length = row[place:place + 3]
        found.append((kind, number, row[place + 3:place + 3 + length]))
        place += 3 + length
    if place != len(row) or len(found) != row[0]:
        raise AssertionError("the things and their number don't fit")
    return found


def run(*calls):
    """The calls behind a tx_begin, each with its number or the things that it sent and told."""
    answered = rows([begin()] + list(calls))
    found = []
    for call, row in zip(calls, answered[1:]):
        is_number = call[0] in (0, 5) or row[0] < 0
        if is_number and len(row) != 1:
            raise AssertionError("more than a number is answered")
        found.append(row[0] if is_number else things(row))
    return found


def last(*calls):
    return run(*calls)[-1]


def sent(number, message):
    return (SENT, number, message)


def told(number, message):
    return (TOLD, number, message)


def lost(number):
    return (LOST, number, [])


def send_many(count, now=0, method="OPTIONS"):
    return [send(now, request(method, branch=str(k))) for k in range(1, count + 1)]


def times_of(first_calls, wanted, until, step=100):
    """The times, stepwise, at which a tx_tick answers just what is wanted."""
    found = []
    moments = list(range(0, until + 1, step))
    chunk = 300 - len(first_calls) - 1
    if len(moments) > chunk:
        raise ValueError("too many steps")
    answered = run(*first_calls, *[tick(now) for now in moments])
    for now, row in zip(moments, answered[len(first_calls):]):
        if row == wanted:
            found.append(now)
        elif row != []:
            raise AssertionError(f"at {now}: {row}")
    return found
