"""Mirrors: copies, far away, of what users see."""

from labelgrid.addresses import cells_of, place_key


class Views:
    """The pictures that a station counted for one user."""

    def __init__(self):
        # The pictures by their numbers, from the greatest one that was acknowledged on.
        self._pictures = {0: {}}
        self._base = 0
        self._last = 0

    def note_picture(self, picture):
        """Count a picture, if it differs from the last one."""
        if picture != self._pictures[self._last]:
            self._last = self._last + 1
            self._pictures[self._last] = picture

    def message(self):
        """Return the message about the last picture, or None if it is known to be acknowledged."""
        if self._base == self._last:
            return None
        old = self._pictures[self._base]
        new = self._pictures[self._last]
        changed = [address for address in new if address not in old or old[address] != new[address]]
        return (self._base, self._last, [(address, new[address]) for address in sorted(changed, key=place_key)])

    def note_number(self, number):
        """Take an acknowledgement."""
        if not self._base < number <= self._last:
            return
        for old in range(self._base, number):
            del self._pictures[old]
        self._base = number


class Station:
    """A desk, and for each user the ranges that are watched and the pictures."""

    def __init__(self, desk):
        self._desk = desk
        self._watched = {}
        self._views = {}

    def watch(self, user, area):
        """Let a user watch one more range."""
        self._watched.setdefault(user, []).append(area)

    def picture(self, user):
        """Return the picture that a user has now."""
        found = {}
        for area in self._watched.get(user, []):
            for address, value in zip(cells_of(area), self._desk.shown(user, area)):
                found[address] = value
        return found

    def send(self, user):
        """Send to a user and return the message, or None."""
        views = self._views_of(user)
        views.note_picture(self.picture(user))
        return views.message()

    def acknowledge(self, user, number):
        """Take an acknowledgement of a user's mirror."""
        self._views_of(user).note_number(number)

    def _views_of(self, user):
        """Return the pictures that were counted for a user."""
        if user not in self._views:
            self._views[user] = Views()
        return self._views[user]


class Mirror:
    """What one user's messages have told so far."""

    def __init__(self):
        self.number = 0
        self._cells = {}

    def receive(self, message):
        """Receive a message and return the acknowledgement."""
        base, number, changes = message
        if base == self.number and number > base:
            for address, value in changes:
                self._cells[address] = value
            self.number = number
        return self.number

    def picture(self):
        """Return the picture."""
        return {address: self._cells[address] for address in self._cells}
