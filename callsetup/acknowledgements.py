"""The acknowledgement that one that asks sends when its INVITE is refused."""

from callsetup.octets import CARRIAGE_RETURN, LINE_FEED, octets_of


def acknowledgement(request, reply):
    lines = [
        octets_of("ACK ") + request.uri + octets_of(" SIP/2.0"),
        octets_of("Via: ") + request.via,
        octets_of("Max-Forwards: 70"),
        octets_of("From: ") + request.sender,
        octets_of("To: ") + reply.target,
        octets_of("Call-ID: ") + request.call_name,
        octets_of("CSeq: " + str(request.sequence_number) + " ACK"),
        octets_of("Content-Length: 0"),
        [],
    ]
    octets = []
    for line in lines:
        octets.extend(line)
        octets.extend([CARRIAGE_RETURN, LINE_FEED])
    return octets
