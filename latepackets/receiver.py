"""The receiver: listens to one source, counts its packets, hands them on in order, reports."""

from latepackets.counting import Counting, number_behind, way_of
from latepackets.fields import FOUR_BYTES
from latepackets.hearing import Hearing
from latepackets.packets import read_packet
from latepackets.parts import read_parts
from latepackets.report import write_block, write_report
from latepackets.waiting import MOST_CARRIED, Waiting

KEPT = 1
COUNTED = 0
NOT_BELIEVED = 2
NO_PACKET = -1
OTHER_SOURCE = -2

NOT_THERE_YET = -1
LOST = -2
MOST_TOO_SMALL = -3

PARTS_NOT_RIGHT = -1
NONE_HEARD_OF = -1

THREE_BYTES = 16777216


class Receiver:
    def __init__(self, own, depth):
        self.own = own
        self.depth = depth
        self.source = None
        # The number that would make numbers begin: the one behind the last that was not believed.
        self.awaited = None
        # Both are None until the source is believed.
        self.counting = None
        self.waiting = None
        # Apart from the counting, so that it stays where numbers begin anew.
        self.hearing = Hearing()

    def receive(self, octets, arrival):
        packet = read_packet(octets)
        if packet is None:
            return NO_PACKET
        if self.source is None:
            self.source = packet.source
        if packet.source != self.source:
            return OTHER_SOURCE
        way = way_of(arrival, packet.stamp)
        if self.counting is None:
            return self.doubt(packet, way)
        whole = self.counting.whole_number(packet.number)
        if whole is None:
            return self.doubt(packet, way)
        self.counting.add_packet(whole, way)
        return self.keep_counted(whole, packet)

    def doubt(self, packet, way):
        if packet.number != self.awaited:
            self.awaited = number_behind(packet.number)
            return NOT_BELIEVED
        self.begin_numbers(packet.number, way)
        return self.keep_counted(packet.number, packet)

    def begin_numbers(self, number, way):
        # What was doubted before numbers began says nothing of those that come after.
        self.awaited = None
        self.counting = Counting(number, way)
        self.waiting = Waiting(number)

    def keep_counted(self, whole, packet):
        if self.waiting.try_keep(whole, packet):
            return KEPT
        return COUNTED

    def take(self, most):
        if most < MOST_CARRIED:
            return [MOST_TOO_SMALL]
        if self.waiting is None:
            return [NOT_THERE_YET]
        if self.waiting.due_waits():
            whole = self.waiting.due
            return taken(whole, self.waiting.take_due())
        if self.waiting.how_many() >= self.depth:
            self.waiting.give_up_due()
            return [LOST]
        return [NOT_THERE_YET]

    def report(self, now):
        octets = write_report(self.own, self.report_block(now))
        return [len(octets)] + octets

    def report_block(self, now):
        if self.counting is None:
            return []
        block = write_block(self.source, self.counting, self.hearing, now)
        self.counting.note_told()
        return block

    def hear(self, octets, now):
        parts = read_parts(octets)
        if parts is None:
            return PARTS_NOT_RIGHT
        # Parts alone don't make a source heard of: its packets do.
        if self.source is not None:
            for part in parts:
                self.hearing.note_part(part, self.source, now)
        return len(parts)

    def tell(self):
        if self.source is None:
            return [NONE_HEARD_OF]
        # The goodbye is the number answered first, the one in whose place a refusal stands; then come six.
        return [self.hearing.goodbye, self.source] + self.told_counts()

    def told_counts(self):
        if self.counting is None:
            return [0, 0, 0, 0, 0]
        counting = self.counting
        told = [counting.greatest % FOUR_BYTES, counting.came % FOUR_BYTES, counting.how_many_missing() % THREE_BYTES]
        return told + [counting.told_jitter(), self.waiting.how_many()]


def taken(whole, packet):
    told = [whole % FOUR_BYTES, packet.stamp, packet.kind, packet.mark]
    return [len(packet.carried)] + packet.carried + told
