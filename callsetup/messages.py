"""Messages: the bytes of a datagram read as a request or a reply."""

from callsetup.octets import BLANK, CARRIAGE_RETURN, COLON, LINE_FEED, SEMICOLON
from callsetup.octets import begins_with, is_number, is_visible, is_word, number_of, octets_of, split_at
from callsetup.refusals import WrongMessage

MOST_OCTETS = 8192
SEQUENCE_LIMIT = 2147483648


class Message:
    # A request has a URI and the status 0, a reply has its status and no URI.
    def __init__(self, octets, uri, status, headers):
        self.octets = octets
        self.uri = uri
        self.status = status
        self.via = first_value(headers, "Via")
        self.sender = only_value(headers, "From")
        self.target = only_value(headers, "To")
        self.call_name = only_value(headers, "Call-ID")
        via_parts = read_via(self.via)
        self.by_whom = via_parts[0]
        self.branch = via_parts[1]
        sequence = read_sequence(only_value(headers, "CSeq"))
        self.sequence_number = sequence[0]
        self.method = sequence[1]

    def is_request(self):
        return self.status == 0

    def has_method(self, text):
        return self.method == octets_of(text)


def read_message(octets):
    length = head_length(octets)
    lines = read_lines(octets[:length])
    headers = [read_header(line) for line in lines[1:]]
    check_body_length(headers, octets[length + 2:])
    if begins_with(lines[0], octets_of("SIP/2.0 ")):
        return Message(octets, [], read_status(lines[0]), headers)
    return read_request(octets, lines[0], headers)


# The head ends behind its last line; the empty line, two bytes, isn't counted.
def head_length(octets):
    empty_line = [CARRIAGE_RETURN, LINE_FEED]
    for place in range(2, len(octets) - 1):
        if octets[place - 2:place] == empty_line and octets[place:place + 2] == empty_line:
            return place
    raise WrongMessage()


def read_lines(head):
    rows = split_at(head, LINE_FEED)
    return [read_line(row) for row in rows[:-1]]


def read_line(row):
    if row[-1:] != [CARRIAGE_RETURN] or CARRIAGE_RETURN in row[:-1]:
        raise WrongMessage()
    return row[:-1]


def read_header(line):
    name = split_at(line, COLON)[0]
    value = line[len(name) + 2:]
    if not is_word(name) or not begins_with(line[len(name):], [COLON, BLANK]) or len(value) == 0:
        raise WrongMessage()
    return (name, value)


def values_of(headers, name):
    wanted = octets_of(name)
    return [header[1] for header in headers if header[0] == wanted]


def first_value(headers, name):
    values = values_of(headers, name)
    if len(values) == 0:
        raise WrongMessage()
    return values[0]


def only_value(headers, name):
    values = values_of(headers, name)
    if len(values) != 1:
        raise WrongMessage()
    return values[0]


def check_body_length(headers, body):
    digits = only_value(headers, "Content-Length")
    if not is_number(digits, 5) or number_of(digits) != len(body):
        raise WrongMessage()


def read_status(line):
    digits = line[8:11]
    if not is_number(digits, 3) or line[11:12] != [BLANK]:
        raise WrongMessage()
    status = number_of(digits)
    if status < 100 or status > 699:
        raise WrongMessage()
    return status


def read_request(octets, line, headers):
    parts = split_at(line, BLANK)
    if len(parts) != 3 or not is_word(parts[0]) or not is_visible(parts[1]) or parts[2] != octets_of("SIP/2.0"):
        raise WrongMessage()
    request = Message(octets, parts[1], 0, headers)
    if request.method != parts[0]:
        raise WrongMessage()
    return request


def read_sequence(value):
    parts = split_at(value, BLANK)
    if len(parts) != 2 or not is_number(parts[0], 10) or not is_word(parts[1]):
        raise WrongMessage()
    number = number_of(parts[0])
    if number >= SEQUENCE_LIMIT:
        raise WrongMessage()
    return (number, parts[1])


def read_via(value):
    start = octets_of("SIP/2.0/UDP ")
    if not begins_with(value, start):
        raise WrongMessage()
    parts = split_at(value[len(start):], SEMICOLON)
    if not is_visible(parts[0]):
        raise WrongMessage()
    return (parts[0], read_branch(parts[1:]))


def read_branch(parts):
    mark = octets_of("branch=")
    cookie = octets_of("z9hG4bK")
    branches = [part[len(mark):] for part in parts if begins_with(part, mark)]
    if len(branches) != 1 or not is_word(branches[0]):
        raise WrongMessage()
    if not begins_with(branches[0], cookie) or len(branches[0]) == len(cookie):
        raise WrongMessage()
    return branches[0]
