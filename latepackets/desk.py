"""The desk: a list of calls on one receiver, answered one behind another."""

from latepackets.receiver import Receiver

RP_BEGIN = 0
RP_RECEIVE = 1
RP_TAKE = 2
RP_REPORT = 3
RP_HEARD = 4
RP_TOLD = 5

LEAST_DEPTH = 1
MOST_DEPTH = 32

BEGUN = 0
DEPTH_REFUSED = -1


class UnknownCall(ValueError):
    pass


class Desk:
    def __init__(self, calls):
        self.calls = calls
        self.place = 0
        self.receiver = None

    def has_more(self):
        return self.place < len(self.calls)

    def draw(self):
        drawn = self.calls[self.place]
        self.place += 1
        return drawn

    def draw_row(self):
        length = self.draw()
        row = self.calls[self.place:self.place + length]
        self.place += length
        return row

    def answer_call(self):
        call = self.draw()
        if call == RP_BEGIN:
            return self.answer_begin()
        if call == RP_RECEIVE:
            return self.answer_receive()
        if call == RP_TAKE:
            return self.receiver.take(self.draw())
        if call == RP_REPORT:
            return self.receiver.report(self.draw())
        if call == RP_HEARD:
            return self.answer_heard()
        if call == RP_TOLD:
            return self.receiver.tell()
        raise UnknownCall(f"no call has the number {call}")

    def answer_begin(self):
        own = self.draw()
        depth = self.draw()
        if depth < LEAST_DEPTH or depth > MOST_DEPTH:
            return [DEPTH_REFUSED]
        self.receiver = Receiver(own, depth)
        return [BEGUN]

    def answer_receive(self):
        arrival = self.draw()
        octets = self.draw_row()
        return [self.receiver.receive(octets, arrival)]

    def answer_heard(self):
        now = self.draw()
        octets = self.draw_row()
        return [self.receiver.hear(octets, now)]


def answers(calls):
    desk = Desk(calls)
    answered = []
    while desk.has_more():
        answer = desk.answer_call()
        answered.append(len(answer))
        answered.extend(answer)
    return answered
