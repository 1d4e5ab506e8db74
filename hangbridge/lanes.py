"""Lanes, the ways of frames over a link in one direction (point 8)."""

MOST_FRAMES = 32


class Lane:
    """A lane of frames, as texts, the first one first."""

    def __init__(self):
        self.frames = []

    def put(self, text):
        """Put a frame behind the others; it is lost if the lane is full."""
        if len(self.frames) < MOST_FRAMES:
            self.frames.append(text)

    def deliver(self):
        """Take the first frame out and return it, or None if there is none."""
        return self.frames.pop(0) if self.frames else None

    def _has(self, at):
        return 0 <= at < len(self.frames)

    def lose(self, at):
        """Take the frame at a place out; return whether there is one."""
        there = self._has(at)
        if there:
            del self.frames[at]
        return there

    def double(self, at):
        """Put the frame at a place behind the others once more; return whether there is one."""
        there = self._has(at)
        if there:
            self.put(self.frames[at])
        return there

    def hasten(self, at):
        """Put the frame at a place in front of the others; return whether there is one."""
        there = self._has(at)
        if there:
            self.frames.insert(0, self.frames.pop(at))
        return there

    def clear(self):
        """Lose all frames."""
        self.frames.clear()
