"""Tables of switches: control ways, and data rules by their versions (points 15 and 16)."""

MOST_ENTRIES = 64


def fits(match, port, header):
    """Return whether a match fits a port and a header."""
    for asked, number in zip(match, (port, *header)):
        if asked is not None and asked != number:
            return False
    return True


def changed(header, changes):
    """Return a header with the numbers of changes where these are not None."""
    return tuple([old if new is None else new for old, new in zip(header, changes)])


def done(outs, header):
    """Return what outs do with a header: the pairs (port, changed header), ascending, each once."""
    return sorted({(port, changed(header, changes)) for port, changes in outs})


def rules_do(rules, port, header):
    """Return what the first of some rules that fits does with a header at a port; without one, nothing."""
    for match, outs in rules:
        if fits(match, port, header):
            return done(outs, header)
    return []


class Table:
    """A table with control ways, data rules by versions, and a tag, a version or 0."""

    def __init__(self):
        self.ways = {}
        self.rules = {}
        self.tag = 0

    def count(self):
        """Return how many ways and rules there are."""
        return len(self.ways) + sum([len(rows) for rows in self.rules.values()])

    def wipe(self):
        """Remove all ways, all rules and the tag."""
        self.ways = {}
        self.rules = {}
        self.tag = 0

    def drop(self, version):
        """Remove the rules of a version."""
        self.rules.pop(version, None)

    def add(self, version, match, outs):
        """Put a rule behind the others of its version; return whether there was room."""
        # A version that was added is among the rules even if none of them had room.
        rows = self.rules.setdefault(version, [])
        if self.count() >= MOST_ENTRIES:
            return False
        rows.append((match, list(outs)))
        return True

    def lay(self, to, port):
        """Lay or change the control way to a switch; return whether there was room."""
        if to not in self.ways and self.count() >= MOST_ENTRIES:
            return False
        self.ways[to] = port
        return True

    def unlay(self, to):
        """Remove the control way to a switch."""
        self.ways.pop(to, None)

    def retag(self, version, count):
        """Make a version the tag if it has just so many rules; return whether it was done."""
        if len(self.rules.get(version, [])) != count:
            return False
        self.tag = version
        return True

    def strip(self):
        """Remove all ways and the rules of all versions but the tag."""
        self.ways = {}
        self.rules = {version: self.rules[version] for version in self.rules if version == self.tag}

    def keep(self, version, count):
        """Tag, and strip if that was done; return whether it was done."""
        kept = self.retag(version, count)
        if kept:
            self.strip()
        return kept

    def does(self, version, port, header):
        """Return what the first rule of a version that fits does with a header at a port."""
        return rules_do(self.rules.get(version, []), port, header)
