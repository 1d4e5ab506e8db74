"""The links that the controller has seen, and when (point 23)."""

from hangbridge.graphs import link_of, peer


class Seen:
    """Links, each with the tick at which it was seen last."""

    def __init__(self):
        self._ticks = {}

    def links(self):
        """Return the list of the links, ascending."""
        return sorted(self._ticks)

    def see(self, end, other, now):
        """See a link between two ends; return the list of the links that are lost by it, that of `end` first."""
        if end[0] == other[0]:
            return []
        link = link_of(end, other)
        lost = []
        if link not in self._ticks:
            lost = self.lose(end) + self.lose(other)
        self._ticks[link] = now
        return lost

    def lose(self, end):
        """Forget the link of an end; return the list of the links that are lost."""
        other = peer(self.links(), end)
        if other is None:
            return []
        link = link_of(end, other)
        del self._ticks[link]
        return [link]

    def old(self, now, age):
        """Forget the links that were not seen since `now - age` or before; return the list of them, ascending."""
        links = [link for link in self.links() if self._ticks[link] <= now - age]
        for link in links:
            del self._ticks[link]
        return links
