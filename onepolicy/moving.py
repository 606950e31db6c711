"""Failures that are sent on (point 170)."""

from onepolicy.ground import is_inside
from onepolicy.ways import moved_stub, turned


def moved_failure(ground, packet, way, out):
    """Return the failure that comes by a way and goes out by another one."""
    source = packet[1]
    # What is inside, or is spoken to, is known outside by the address of the flow alone.
    if is_inside(ground, source) or source == way[1]:
        source = out[1]
    body = packet[7]
    stub = moved_stub(body[4], turned(out))
    return ("packet", source, out[3], packet[3] - 1) + packet[4:7] + (body[:4] + (stub,),)
