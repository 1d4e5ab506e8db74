"""Loads of flows, and safe steps from some flows to others (points 81 to 85)."""


def load_of(flow):
    """Return the dict from ends to the loads of a flow, without ends that are not used."""
    found = {}
    for ends, amount in flow:
        for end in ends:
            found[end] = found.get(end, 0) + amount
    return found


def summed(rows):
    """Return the dict of the sums of dicts of loads."""
    total = {}
    for row in rows:
        for end in row:
            total[end] = total.get(end, 0) + row[end]
    return total


def greater(load, other):
    """Return the dict of the greater ones of two dicts of loads."""
    return {end: max(load.get(end, 0), other.get(end, 0)) for end in {**load, **other}}


def is_within(rooms, load):
    """Return whether no load is greater than its room."""
    return all([load[end] <= rooms.get(end, 0) for end in load])


def loads(flows):
    """Return the dict from ends to the loads of flows, without ends that are not used."""
    return summed([load_of(flow) for flow in flows])


def fits_rooms(rooms, flows):
    """Return whether flows fit."""
    return is_within(rooms, loads(flows))


def greatest_loads(flows, others):
    """Return the dict from ends to the greatest loads in a step (point 82)."""
    return summed([greater(load_of(flow), load_of(other)) for flow, other in zip(flows, others)])


def is_safe(rooms, flows, others):
    """Return whether a step is safe."""
    return is_within(rooms, greatest_loads(flows, others))


def scaled_flows(flows, factor):
    """Return flows with all amounts multiplied by a positive integer."""
    return [[(list(ends), amount * factor) for ends, amount in flow] for flow in flows]


def ways_of(flow, other):
    """Return the list of the different ways of two flows, in the order of their first occurrence."""
    found = []
    for ends, _ in [*flow, *other]:
        if ends not in found:
            found.append(list(ends))
    return found


def amounts_of(flow, ways):
    """Return the list of the amounts of a flow on ways, with 0."""
    return [sum([amount for ends, amount in flow if ends == way]) for way in ways]


def flow_of(ways, amounts):
    """Return the flow with amounts on ways, without those with 0."""
    return [(list(way), amount) for way, amount in zip(ways, amounts) if amount > 0]


def even_step(flow, other, many, more):
    """Return a flow with so many times the first and so many times the second form."""
    ways = ways_of(flow, other)
    rows = [amounts_of(flow, ways), amounts_of(other, ways)]
    return flow_of(ways, [many * amount + more * amount_then for amount, amount_then in zip(rows[0], rows[1])])


def even_steps(flows, others, count):
    """Return the list of the flows of even steps, from the first to the last."""
    pairs = list(zip(flows, others))
    return [[even_step(flow, other, count - at, at) for flow, other in pairs] for at in range(count + 1)]


def splits(amount, many):
    """Return the list of the tuples of so many integers from 0 on that are an amount in all, ascending."""
    if many == 0:
        return [()] if amount == 0 else []
    return [(first, *rest) for first in range(amount + 1) for rest in splits(amount - first, many - 1)]


class Turning:
    """The settings from flows to others, each told by the tuple of the tuples of the amounts of its flows on ways."""

    def __init__(self, rooms, flows, others):
        self.ways = [ways_of(flow, other) for flow, other in zip(flows, others)]
        self.first = self.split_as(flows)
        self.last = self.split_as(others)
        self._rooms = rooms
        # The greater loads of a flow in a step, which many steps share.
        self._greater = {}

    def split_as(self, flows):
        """Return what tells the setting that splits as flows do."""
        return tuple([tuple(amounts_of(flow, ways)) for flow, ways in zip(flows, self.ways)])

    def built(self, setting):
        """Return the flows of what tells a setting."""
        return [flow_of(ways, amounts) for ways, amounts in zip(self.ways, setting)]

    def every(self):
        """Return the list of what tells each setting, in order."""
        rows = [()]
        for amounts in self.first:
            choices = splits(sum(amounts), len(amounts))
            rows = [(*row, choice) for row in rows for choice in choices]
        return rows

    def fitting(self):
        """Return the list of what tells each setting that fits, in order. Safe steps lead to no other ones."""
        return [setting for setting in self.every() if self.leads(setting, setting)]

    def leads(self, setting, other):
        """Return whether the step from one setting to another one is safe."""
        total = {}
        for at in range(len(setting)):
            load = self._greater_of(at, setting[at], other[at])
            for end in load:
                total[end] = total.get(end, 0) + load[end]
        return is_within(self._rooms, total)

    def leads_from(self, row, other):
        """Return whether a safe step leads from one of some settings to another one."""
        for setting in row:
            if self.leads(setting, other):
                return True
        return False

    def layers(self):
        """Return the list of the lists of the settings that 0, 1, 2 and so on safe steps can reach and no fewer."""
        rows = [[self.first]]
        found = {self.first: True}
        fitting = self.fitting()
        while rows[-1] and self.last not in found:
            fresh = [other for other in fitting if other not in found and self.leads_from(rows[-1], other)]
            for setting in fresh:
                found[setting] = True
            rows.append(fresh)
        return rows

    def _greater_of(self, at, amounts, others):
        key = (at, amounts, others)
        if key not in self._greater:
            ways = self.ways[at]
            self._greater[key] = greater(load_of(flow_of(ways, amounts)), load_of(flow_of(ways, others)))
        return self._greater[key]


def settings(flows, others):
    """Return the list of all settings, ordered by the amounts of their ways."""
    turning = Turning({}, flows, others)
    return [turning.built(setting) for setting in turning.every()]


def in_order(flows, others):
    """Return the setting that splits as flows do."""
    turning = Turning({}, flows, others)
    return turning.built(turning.first)


def plan(rooms, flows, others):
    """Return a shortest list of settings from flows to others, each step safe, or None."""
    turning = Turning(rooms, flows, others)
    rows = turning.layers()
    if not rows[-1]:
        return None
    found = [turning.last]
    for row in rows[:-1][::-1]:
        before = [setting for setting in row if turning.leads(setting, found[-1])]
        found.append(before[0])
    return [turning.built(setting) for setting in found[::-1]]


def layers(rooms, flows, others):
    """Return the layers of point 85."""
    turning = Turning(rooms, flows, others)
    return [[turning.built(setting) for setting in row] for row in turning.layers()]


def joined(layers_told):
    """Return the dict whose keys are what stands in some layers."""
    return {setting: True for layer in layers_told for setting in layer}


def read_layers(turning, rows):
    """Return layers of settings by what tells these, or None if something there is no setting."""
    every = {setting: True for setting in turning.every()}
    found = []
    for row in rows:
        layer = [turning.split_as(flows) for flows in row]
        for setting, flows in zip(layer, row):
            if setting not in every or turning.built(setting) != flows:
                return None
        found.append(layer)
    return found


def is_open(turning, layer, known):
    """Return whether a safe step leads from a setting of a layer to one that is not known."""
    others = [setting for setting in turning.fitting() if setting not in known]
    return any([turning.leads_from(layer, other) for other in others])


def layers_right(rooms, flows, others, rows):
    """Return whether a list of lists of settings is an accepted paper."""
    turning = Turning(rooms, flows, others)
    told = read_layers(turning, rows)
    if not told or turning.first not in told[0]:
        return False
    for at, layer in enumerate(told):
        is_last = at == len(told) - 1
        # The last layer may have the goal, and lead anywhere, unless it is empty.
        if (layer == [] or not is_last) and turning.last in joined(told[:at + 1]):
            return False
        if not is_last and is_open(turning, layer, joined(told[:at + 2])):
            return False
    return True
