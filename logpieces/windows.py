"""The window: a row of events, the oldest first, in two trays."""

MOST_IN_WINDOW = 40


class Window:
    """Each tray is a list: in the front one the oldest event stands last, in the back one the newest."""

    def __init__(self):
        self.front = []
        self.back = []

    def how_many(self):
        return len(self.front) + len(self.back)

    def put_in(self, event):
        self.back.append(event)

    def take_out(self):
        """Takes the oldest event out; there has to be one."""
        if self.front == []:
            self.front = list(reversed(self.back))
            self.back = []
        self.front.pop()

    def in_order(self):
        """All events, the oldest first."""
        return list(reversed(self.front)) + self.back
