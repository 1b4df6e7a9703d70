"""Waiting: the packets that are kept until it is their turn to be taken."""

MOST_WAITING = 64
MOST_CARRIED = 1472


class Waiting:
    def __init__(self, first):
        self.due = first
        self.kept = {}

    def try_keep(self, whole, packet):
        if whole < self.due or whole in self.kept:
            return False
        if len(self.kept) >= MOST_WAITING or len(packet.carried) > MOST_CARRIED:
            return False
        self.kept[whole] = packet
        return True

    def how_many(self):
        return len(self.kept)

    def due_waits(self):
        return self.due in self.kept

    def take_due(self):
        packet = self.kept.pop(self.due)
        self.due += 1
        return packet

    def give_up_due(self):
        self.due += 1
