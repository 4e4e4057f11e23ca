"""What a message is. tx_send shows it of requests; of replies tx_reply to a transaction that isn't there; of both
tx_receive, which tells what is one and passes over what isn't."""

import unittest

from tests.helper import answer, build, headers, last, octets, receive, reply, request, send, sent, told, via

WORD = set(octets("ABCDEFGHIJKLMNOPQRSTUVWXYZabcdefghijklmnopqrstuvwxyz0123456789!%'*+-._`~"))
VISIBLE = set(range(33, 127))
LINE_TEXT = set(range(256)) - {10, 13}
EACH_BYTE = [(number, bytes([number]).decode("latin-1")) for number in range(256)]


class MessageCase(unittest.TestCase):
    def kept(self, message):
        self.assertEqual(last(send(0, message)), [sent(1, message)])
        self.assertEqual(last(receive(0, message)), [told(1, message)])

    def broken(self, message):
        self.assertEqual(last(send(0, message)), -2)
        self.assertEqual(last(receive(0, message)), [])

    def kept_reply(self, message):
        self.assertEqual(last(answer(1, 0, message)), -3)
        self.assertEqual(last(receive(0, message)), [told(0, message)])

    def broken_reply(self, message):
        self.assertEqual(last(answer(1, 0, message)), -2)
        self.assertEqual(last(receive(0, message)), [])

    def kept_just_if(self, is_kept, message):
        if is_kept:
            self.kept(message)
        else:
            self.broken(message)

    def kept_reply_just_if(self, is_kept, message):
        if is_kept:
            self.kept_reply(message)
        else:
            self.broken_reply(message)


class FirstLine(MessageCase):
    def test_usual(self):
        self.kept(request())
        self.kept_reply(reply())

    def test_method_is_a_word(self):
        for number, sign in EACH_BYTE:
            for method in (sign, "A" + sign, sign + "A"):
                with self.subTest(number=number, method=method):
                    self.kept_just_if(number in WORD, request(method))

    def test_method_is_not_empty(self):
        self.broken(build(" u SIP/2.0", headers()))
        self.broken(build("u SIP/2.0", headers()))

    def test_method_counts_as_written(self):
        self.kept(request("options"))
        self.broken(build("options u SIP/2.0", headers("OPTIONS")))

    def test_uri_has_visible_bytes(self):
        for number, sign in EACH_BYTE:
            for uri in (sign, "u" + sign, sign + "u"):
                with self.subTest(number=number, uri=uri):
                    self.kept_just_if(number in VISIBLE, request(uri=uri))

    def test_uri_is_not_empty(self):
        self.broken(build("OPTIONS  SIP/2.0", headers()))
        self.broken(build("OPTIONS SIP/2.0", headers()))

    def test_request_has_single_blanks_and_nothing_more(self):
        for first in ("OPTIONS  u SIP/2.0", "OPTIONS u  SIP/2.0", " OPTIONS u SIP/2.0", "OPTIONS u SIP/2.0 ",
                      "OPTIONS u v SIP/2.0", "OPTIONS u", "OPTIONS u ", "OPTIONS", "", "OPTIONS\tu SIP/2.0"):
            with self.subTest(first=first):
                self.broken(build(first, headers()))

    def test_request_ends_with_the_version(self):
        for version in ("SIP/2.1", "sip/2.0", "SIP/2.00", "SIP/2.", "SIP/2", "HTTP/2.0"):
            with self.subTest(version=version):
                self.broken(build("OPTIONS u " + version, headers()))

    def test_status_edges(self):
        for status, is_kept in (("099", False), ("100", True), ("101", True), ("699", True), ("700", False),
                                ("000", False), ("999", False), ("200", True)):
            with self.subTest(status=status):
                self.kept_reply_just_if(is_kept, reply(status))

    def test_status_is_three_digits(self):
        for status in ("", "2", "20", "2000", "0200", "+20", "-20", "20x", "x20", "2 0", "2:0", "2/0", "\xb200"):
            with self.subTest(status=status):
                self.broken_reply(reply(status))

    def test_reply_begins_with_the_version(self):
        for version in ("SIP/2.1", "sip/2.0", "SIP/2.00", "SIP/2.", " SIP/2.0", "HTTP/2.0", ""):
            with self.subTest(version=version):
                self.broken_reply(build(version + " 200 OK", headers()))

    def test_reply_has_both_blanks(self):
        for first in ("SIP/2.0 200", "SIP/2.0200 ", "SIP/2.0  200 ", "SIP/2.0 200OK", "SIP/2.0 200\tOK", "SIP/2.0 ",
                      "SIP/2.0"):
            with self.subTest(first=first):
                self.broken_reply(build(first, headers()))

    def test_anything_behind_the_status(self):
        self.kept_reply(reply(words=""))
        self.kept_reply(reply(words=" "))
        self.kept_reply(reply(words="Not Here: at all"))
        for number, sign in EACH_BYTE:
            with self.subTest(number=number):
                self.kept_reply_just_if(number in LINE_TEXT, reply(words="a" + sign + "b"))


class Lines(MessageCase):
    def changed(self, message, old, new):
        text = bytes(message)
        self.assertIn(old, text)
        return list(text.replace(old, new, 1))

    def test_a_line_feed_alone(self):
        for line in (b"SIP/2.0", b"From: a", b"To: b", b"Content-Length: 0"):
            with self.subTest(line=line):
                self.broken(self.changed(request(), line + b"\r\n", line + b"\n"))

    def test_a_line_feed_alone_behind_a_longer_value(self):
        whole = request(From="abc", Subject="abc")
        self.kept(whole)
        for line in (b"From: abc", b"Subject: abc"):
            with self.subTest(line=line):
                self.broken(self.changed(whole, line + b"\r\n", line + b"\n"))
                self.broken(self.changed(whole, line + b"\r\n", line + b"\n\r\n"))

    def test_a_carriage_return_alone(self):
        for line in (b"SIP/2.0", b"From: a", b"To: b", b"Content-Length: 0"):
            with self.subTest(line=line):
                self.broken(self.changed(request(), line + b"\r\n", line + b"\r"))

    def test_either_within_a_line(self):
        for new in (b"From: a\rb", b"From: a\nb", b"From: a\r", b"From: a\n", b"From: \ra", b"From: \na", b"\nFrom: a",
                    b"\rFrom: a", b"From: a\n\r"):
            with self.subTest(new=new):
                self.broken(self.changed(request(), b"From: a", new))

    def test_either_within_a_value_at_the_end(self):
        for new in (b"X: 1\r\r\n\r\n", b"X: 1\n\r\n\r\n", b"X: 1\r\n\n\r\n"):
            with self.subTest(new=new):
                whole = self.changed(request(), b"Content-Length: 0\r\n\r\n", b"Content-Length: 0\r\n" + new)
                self.broken(whole)

    def test_the_empty_line(self):
        whole = request()
        self.broken(whole[:-1])
        self.broken(whole[:-2])
        self.broken(whole[:-3])
        self.broken(whole[:-4])
        self.broken(whole[:-2] + octets("\n"))
        self.broken(whole[:-2] + octets("\r"))
        self.broken(whole[:-2] + octets("\n\r"))
        self.broken(whole[:-2] + octets(" \r\n"))

    def test_an_empty_line_ahead(self):
        self.broken(octets("\r\n") + request())
        self.broken(octets("\r\n\r\n") + request())

    def test_nothing_at_all(self):
        for text in ("", "\r", "\n", "\r\n", "\r\n\r\n", "\r\n\r\n\r\n", "x", "x\r\n\r\n"):
            with self.subTest(text=text):
                self.broken(octets(text))
                self.broken_reply(octets(text))

    def test_a_first_line_alone(self):
        self.broken(octets("OPTIONS u SIP/2.0\r\n\r\n"))
        self.broken_reply(octets("SIP/2.0 200 OK\r\n\r\n"))


class Headers(MessageCase):
    def with_line(self, line):
        return octets("OPTIONS u SIP/2.0\r\n" + line + "\r\n") + request()[19:]

    def test_others_may_be_there(self):
        self.kept(self.with_line("X: y"))
        self.kept(request(Max_Forwards="70", Subject="x"))

    def test_name_is_a_word(self):
        for number, sign in EACH_BYTE:
            for name in (sign, "X" + sign, sign + "X"):
                with self.subTest(number=number, name=name):
                    self.kept_just_if(number in WORD, self.with_line(name + ": y"))

    def test_form(self):
        for line in (": y", "X", "X:", "X: ", "X:y", "X :y", "X : y", " X: y", "X:\ty", " y", "X y"):
            with self.subTest(line=line):
                self.broken(self.with_line(line))

    def test_value_is_anything_not_empty(self):
        for line in ("X:  ", "X:  y", "X: :", "X: y ", "X: y: z"):
            with self.subTest(line=line):
                self.kept(self.with_line(line))
        for number, sign in EACH_BYTE:
            with self.subTest(number=number):
                self.kept_just_if(number in LINE_TEXT, self.with_line("X: " + sign))

    def test_each_must_be_there(self):
        for name in ("Via", "From", "To", "Call_ID", "CSeq", "Content_Length"):
            with self.subTest(name=name):
                self.broken(request(**{name: None}))
                self.broken_reply(reply(**{name: None}))

    def test_each_but_via_is_there_once(self):
        for name, value in headers():
            with self.subTest(name=name):
                doubled = build("OPTIONS u SIP/2.0", headers() + [(name, value)])
                self.kept_just_if(name == "Via", doubled)
                doubled = build("SIP/2.0 200 OK", headers() + [(name, value)])
                self.kept_reply_just_if(name == "Via", doubled)

    def test_from_to_and_call_id_are_not_empty_and_else_anything(self):
        for name in ("From", "To", "Call_ID"):
            with self.subTest(name=name):
                self.broken(request(**{name: ""}))
                self.kept(request(**{name: " \x00\xff;:"}))

    def test_names_count_as_written(self):
        for name, value in headers():
            for other in (name.lower(), name.upper()):
                if other != name:
                    with self.subTest(other=other):
                        rest = [header for header in headers() if header[0] != name]
                        self.broken(build("OPTIONS u SIP/2.0", rest + [(other, value)]))
                        self.kept(build("OPTIONS u SIP/2.0", headers() + [(other, "x")]))

    def test_order_is_free(self):
        self.kept(build("OPTIONS u SIP/2.0", headers()[::-1]))


class Sequence(MessageCase):
    def test_digits(self):
        for digits, is_kept in (("0", True), ("1", True), ("9999999999", False), ("0000000001", True),
                                ("00000000001", False), ("2147483647", True), ("2147483648", False),
                                ("2147483649", False), ("02147483647", False), ("", False), ("-1", False),
                                ("+1", False), ("1x", False), ("x", False), ("1.0", False), ("1_0", False),
                                ("/", False), (":", False), ("\xb2", False)):
            with self.subTest(digits=digits):
                self.kept_just_if(is_kept, request(CSeq=digits + " OPTIONS"))
                self.kept_reply_just_if(is_kept, reply(CSeq=digits + " OPTIONS"))

    def test_form(self):
        for value in ("1", "1 ", "1OPTIONS", "1  OPTIONS", " 1 OPTIONS", "1 OPTIONS ", "1 OPTIONS x", "OPTIONS 1",
                      "OPTIONS", "1\tOPTIONS"):
            with self.subTest(value=value):
                self.broken(request(CSeq=value))
                self.broken_reply(reply(CSeq=value))

    def test_a_requests_method_is_its_own(self):
        for method in ("INVITE", "options", "OPTION", "OPTIONSS"):
            with self.subTest(method=method):
                self.broken(request(CSeq="1 " + method))
                self.kept_reply(reply(CSeq="1 " + method))

    def test_a_replys_method_is_a_word(self):
        for number, sign in EACH_BYTE:
            with self.subTest(number=number):
                self.kept_reply_just_if(number in WORD, reply(CSeq="1 " + sign))


class Body(MessageCase):
    def test_length_is_the_bodys(self):
        for length, body, is_kept in (("0", "", True), ("1", "", False), ("0", "x", False), ("1", "x", True),
                                      ("3", "abc", True), ("2", "abc", False), ("4", "abc", False),
                                      ("00003", "abc", True), ("000003", "abc", False), ("00000", "", True),
                                      ("000000", "", False), ("", "", False), ("x", "", False), ("-0", "", False),
                                      ("+3", "abc", False), (" 3", "abc", False), ("3 ", "abc", False),
                                      ("\xb2", "ab", False), ("0x3", "abc", False)):
            with self.subTest(length=length, body=body):
                self.kept_just_if(is_kept, request(body=body, Content_Length=length))
                self.kept_reply_just_if(is_kept, reply(body=body, Content_Length=length))

    def test_body_is_anything(self):
        for body in ("\r", "\n", "\r\n", "\r\n\r\n", "\n\n", "\x00\xff", "a\rb\nc", "X: y\r\n\r\nz"):
            with self.subTest(body=body):
                self.kept(request(body=body, Content_Length=str(len(body))))

    def test_four_digits_of_length(self):
        self.kept(request(body="x" * 1234, Content_Length="1234"))
        self.broken(request(body="x" * 1233, Content_Length="1234"))

    def test_most_bytes(self):
        room = 8192 - len(request(Content_Length="8000"))
        whole = request(body="x" * room, Content_Length=str(room))
        self.assertEqual(len(whole), 8192)
        self.kept(whole)
        whole = reply(body="x" * (room + 2), Content_Length=str(room + 2))
        self.assertLessEqual(len(whole), 8192)
        self.kept_reply(whole)

    def test_more_than_most_bytes(self):
        room = 8193 - len(request(Content_Length="8000"))
        whole = request(body="x" * room, Content_Length=str(room))
        self.assertEqual(len(whole), 8193)
        self.assertEqual(last(send(0, whole)), -1)
        self.assertEqual(last(answer(1, 0, whole)), -1)


class Via(MessageCase):
    def test_form(self):
        for value, is_kept in (
                ("SIP/2.0/UDP h;branch=z9hG4bK1", True),
                ("SIP/2.0/TCP h;branch=z9hG4bK1", False),
                ("sip/2.0/udp h;branch=z9hG4bK1", False),
                ("SIP/2.0/UDPh;branch=z9hG4bK1", False),
                ("SIP/2.0/UDP  h;branch=z9hG4bK1", False),
                (" SIP/2.0/UDP h;branch=z9hG4bK1", False),
                ("SIP/2.0/UDP\th;branch=z9hG4bK1", False),
                ("SIP/2.0/UDP ;branch=z9hG4bK1", False),
                ("SIP/2.0/UDP branch=z9hG4bK1", False),
                ("SIP/2.0/UDP h branch=z9hG4bK1", False),
                ("SIP/2.0/UDP h ;branch=z9hG4bK1", False),
                ("SIP/2.0/UDP h,branch=z9hG4bK1", False),
                ("SIP/2.0/UDP", False), ("SIP/2.0/UDP ", False), ("SIP/2.0/UDP h", False), ("SIP/2.0/UDP h;", False)):
            with self.subTest(value=value):
                self.kept_just_if(is_kept, request(Via=value))
                self.kept_reply_just_if(is_kept, reply(Via=value))

    def test_by_whom_has_visible_bytes(self):
        for number, sign in EACH_BYTE:
            for by_whom in (sign, "h" + sign + "h"):
                with self.subTest(number=number, by_whom=by_whom):
                    is_kept = number in VISIBLE and by_whom != ";"
                    self.kept_just_if(is_kept, request(by_whom=by_whom))

    def test_parts(self):
        for parts, is_kept in (
                ("x;branch=z9hG4bK1", True), ("branch=z9hG4bK1;x", True), (";branch=z9hG4bK1;", True),
                ("a=b;c d;branch=z9hG4bK1;\x00\xff", True), ("xbranch=z9hG4bK2;branch=z9hG4bK1", True),
                ("Branch=z9hG4bK2;branch=z9hG4bK1", True), (" branch=z9hG4bK2;branch=z9hG4bK1", True),
                ("branch;branch=z9hG4bK1", True), ("branch=z9hG4bK1;branch=z9hG4bK1", False),
                ("branch=z9hG4bK1;branch=z9hG4bK2", False), ("branch=z9hG4bK1;branch=", False),
                ("branch=;branch=z9hG4bK1", False), ("x", False), ("", False), ("Branch=z9hG4bK1", False),
                (" branch=z9hG4bK1", False), ("branch", False), ("xbranch=z9hG4bK1", False),
                ("branch:z9hG4bK1", False)):
            with self.subTest(parts=parts):
                self.kept_just_if(is_kept, request(Via="SIP/2.0/UDP h;" + parts))

    def test_branch(self):
        for branch, is_kept in (
                ("z9hG4bK1", True), ("z9hG4bKz9hG4bK", True), ("z9hG4bK", False), ("z9hG4b", False), ("", False),
                ("1", False), ("Z9HG4BK1", False), ("z9hg4bk1", False), ("1z9hG4bK1", False), ("z9hG4bK 1", False),
                ("z9hG4bK1 ", False), (" z9hG4bK1", False), ("z9hG4bK1=2", False)):
            with self.subTest(branch=branch):
                self.kept_just_if(is_kept, request(Via="SIP/2.0/UDP h;branch=" + branch))

    def test_branch_is_a_word(self):
        for number, sign in EACH_BYTE:
            for branch in (sign, "1" + sign + "1"):
                with self.subTest(number=number, branch=branch):
                    is_kept = number in WORD or branch == "1;1"
                    self.kept_just_if(is_kept, request(branch=branch))

    def test_the_first_counts(self):
        good = headers()
        self.kept(build("OPTIONS u SIP/2.0", good + [("Via", "x")]))
        self.broken(build("OPTIONS u SIP/2.0", [("Via", "x")] + good))
        self.broken(build("OPTIONS u SIP/2.0", good + [("Via", "")]))

    def test_the_first_gives_the_branch(self):
        first = build("OPTIONS u SIP/2.0", [("Via", via("1"))] + headers(branch="2"))
        self.assertEqual(last(send(0, first), send(0, request(branch="1"))), -3)
        self.assertNotEqual(last(send(0, first), send(0, request(branch="2"))), -3)


if __name__ == "__main__":
    unittest.main()
