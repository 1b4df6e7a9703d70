"""Hearing: what the parts that others report have said of the source."""

from latepackets.fields import FOUR_BYTES


class Hearing:
    def __init__(self):
        self.middle = 0
        # None until the source has sent a report of its own.
        self.heard_at = None
        self.goodbye = 0

    def note_part(self, part, source, now):
        if part.is_sender_report_of(source):
            self.middle = part.middle_of_time()
            self.heard_at = now
        if part.is_goodbye_of(source):
            self.goodbye = 1

    def time_since_report(self, now):
        if self.heard_at is None:
            return 0
        return (now - self.heard_at) % FOUR_BYTES
