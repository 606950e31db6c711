"""Reading packets from octets (point 109)."""

from onepolicy.addresses import is_plain
from onepolicy.errors import Unread
from onepolicy.fields import first_wrong
from onepolicy.octets import number_of, sum_number
from onepolicy.packet_sums import SUM_PLACES, due_sum
from onepolicy.stubs import read_stub


def read_packet(octets):
    """Return the packet of a list of octets; raise Unread with the first word that holds."""
    # Each function may count on what the ones before it found right.
    word = _start_word(octets) or _header_word(octets) or _body_word(octets)
    if word is None and octets[9] == 1:
        word = _kind_word(octets[20:])
    if word is None:
        word = _port_word(octets[9], octets[20:])
    if word is not None:
        raise Unread(word)
    return _packet_of(octets)


def _start_word(octets):
    if len(octets) < 20:
        return "short"
    return first_wrong([
        ("large", len(octets) <= 1500),
        ("version", octets[0] // 16 == 4),
        ("header", octets[0] % 16 >= 5),
        ("options", octets[0] % 16 <= 5),
        ("sum", number_of(octets[10:12]) == sum_number(octets[:10] + octets[12:20])),
    ])


def _header_word(octets):
    size = number_of(octets[2:4])
    return first_wrong([
        ("cut", size <= len(octets)),
        ("long", size >= len(octets)),
        ("flag", octets[6] < 128),
        ("fragment", octets[6] % 64 == 0 and octets[7] == 0),
        ("hops", octets[8] > 0),
        ("source", is_plain(number_of(octets[12:16]))),
        ("target", is_plain(number_of(octets[16:20]))),
        ("protocol", octets[9] in SUM_PLACES),
    ])


def _body_word(octets):
    body, protocol = octets[20:], octets[9]
    if len(body) < (20 if protocol == 6 else 8):
        return "body short"
    return first_wrong([
        ("body header", _is_body_header(body, protocol)),
        ("body sum", _is_body_sum(octets, body, protocol)),
    ])


def _is_body_header(body, protocol):
    if protocol == 17:
        return number_of(body[4:6]) == len(body)
    if protocol == 6:
        return body[12] % 16 == 0 and body[12] >= 80 and body[12] // 4 <= len(body)
    return True


def _is_body_sum(octets, body, protocol):
    place = SUM_PLACES[protocol]
    found = number_of(body[place:place + 2])
    if protocol == 17 and found == 0:
        return True
    return found == due_sum(body, protocol, number_of(octets[12:16]), number_of(octets[16:20]))


def _kind_word(body):
    kind, code = body[0], body[1]
    if kind in (8, 0) and code == 0:
        return None
    if not (kind == 3 and code <= 15 or kind == 11 and code <= 1):
        return "kind"
    has_room = kind == 3 and code == 4
    return first_wrong([
        ("rest", number_of(body[4:6]) == 0 and (has_room or number_of(body[6:8]) == 0)),
        ("quoted", read_stub(body[8:]) is not None),
    ])


def _port_word(protocol, body):
    if protocol != 1:
        right = number_of(body[0:2]) > 0 and number_of(body[2:4]) > 0
    else:
        right = body[0] in (3, 11) or number_of(body[4:6]) > 0
    return None if right else "port"


def _packet_of(octets):
    """Return the packet of octets in which nothing is wrong."""
    ends = (number_of(octets[12:16]), number_of(octets[16:20]))
    name, body = number_of(octets[4:6]), octets[20:]
    return ("packet",) + ends + (octets[8], name, octets[1], octets[6] // 64, _body_of(octets[9], body))


def _body_of(protocol, body):
    if protocol == 17:
        return _udp_of(body)
    if protocol == 6:
        return _tcp_of(body)
    if body[0] in (3, 11):
        kind = "unreachable" if body[0] == 3 else "exceeded"
        return ("failure", kind, body[1], number_of(body[6:8]), read_stub(body[8:]))
    way = "ask" if body[0] == 8 else "answer"
    return ("echo", way, number_of(body[4:6]), number_of(body[6:8]), tuple(body[8:]))


def _udp_of(body):
    summed = 0 if number_of(body[6:8]) == 0 else 1
    return ("udp", number_of(body[0:2]), number_of(body[2:4]), summed, tuple(body[8:]))


def _tcp_of(body):
    ports = (number_of(body[0:2]), number_of(body[2:4]))
    numbers = (number_of(body[4:8]), number_of(body[8:12]))
    # Sixteen times the number of quads is four times that of the octets up to the data.
    start = body[12] // 4
    rest = (body[13], number_of(body[14:16]), number_of(body[18:20]), tuple(body[20:start]), tuple(body[start:]))
    return ("tcp",) + ports + numbers + rest
