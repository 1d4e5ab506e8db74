"""Tables that do what a local policy does at a switch, and tables without a rule too many (points 66 to 68)."""

from itertools import permutations

from hangbridge.classes import with_least_other
from hangbridge.errors import RoomError
from hangbridge.policies import FIELD_BOUNDS, FIELD_PLACES, after, leaves
from hangbridge.tables import changed, done, rules_do

MOST_RULES = 40
ANY = (None, None, None, None)
# The fields of a match, in the order of its places.
MATCH_FIELDS = ("port", "src", "dst", "kind")


def fits(match, port, header):
    """Return whether a match fits a port and a header."""
    # A match, taken as changes, leaves as it is just what it fits.
    place = (port, *header)
    return changed(place, match) == place


def table_does(rules, port, header):
    """Return what a table does at a port with a header."""
    return rules_do(rules, port, header)


def numbers_at(rules, at):
    """Return the list of the numbers at a place of the matches of rules, and of their changes there, ascending."""
    rows = [match for match, _ in rules]
    # Changes have no port in front of the header.
    rows.extend([(None, *changes) for _, outs in rules for _, changes in outs])
    return sorted({row[at] for row in rows if row[at] is not None})


def sample_rows(rules):
    """Return for each place of a match the list of the numbers that rules can tell apart there, ascending."""
    bounds = [FIELD_BOUNDS[FIELD_PLACES[field]] for field in MATCH_FIELDS]
    return [with_least_other(numbers_at(rules, at), pair) for at, pair in enumerate(bounds)]


def choices(match, rows):
    """Return the list of the tuples of a number of each row that a match fits, ascending for ascending rows."""
    ports, sources, goals, kinds = [row if asked is None else [asked] for asked, row in zip(match, rows)]
    return [(port, src, dst, kind) for port in ports for src in sources for dst in goals for kind in kinds]


def places_of(match, rows):
    """Return the list of the pairs of a port and a header, with numbers of the rows, that a match fits."""
    return [(choice[0], choice[1:]) for choice in choices(match, rows)]


def table_difference(rules, other):
    """Return the least pair of a port and a header at which two tables do not do the same, or None."""
    for port, header in places_of(ANY, sample_rows([*rules, *other])):
        if table_does(rules, port, header) != table_does(other, port, header):
            return (port, header)
    return None


def first_rules(rules, rows):
    """Return the dict from pairs of a port and a header to the indexes of the first rule that fits there."""
    first = {}
    for at, (match, _) in enumerate(rules):
        for place in places_of(match, rows):
            first.setdefault(place, at)
    return first


def needed_at(rules, leaves_out):
    """Return for each rule a place at which the table does something else without it, or None.

    If rules that are not needed are to be left out, they count as left out for the rules in front of them.
    """
    rows = sample_rows(rules)
    first = first_rules(rules, rows)
    behind = {}
    needs = []
    # From the last rule to the first one: whether a rule is needed depends on those in front of it only by where it is
    # the first one that fits, and that stays so when rules that are not needed are left out there.
    for at in range(len(rules) - 1, -1, -1):
        match, outs = rules[at]
        doing = {place: done(outs, place[1]) for place in places_of(match, rows)}
        places = [place for place in doing if first[place] == at and doing[place] != behind.get(place, [])]
        needs.append(places[0] if places else None)
        if places or not leaves_out:
            for place in doing:
                behind[place] = doing[place]
    return needs[::-1]


def shortened(rules):
    """Return a table that does the same, a part of this one in its order, from which no rule can be left out."""
    needs = needed_at(rules, True)
    return [(match, list(outs)) for (match, outs), place in zip(rules, needs) if place is not None]


def table_paper(rules):
    """Return for each rule a place that shows that it cannot be left out, or None if it can."""
    return needed_at(rules, False)


def paper_right(rules, paper):
    """Return whether a paper for a table is accepted."""
    if len(paper) != len(rules) or None in paper:
        return False
    for at, (port, header) in enumerate(paper):
        others = rules[:at] + rules[at + 1:]
        if table_does(rules, port, header) == table_does(others, port, header):
            return False
    return True


def numbers_of_field(field):
    """Return the list of the numbers that a field can have, ascending."""
    least, most = FIELD_BOUNDS[FIELD_PLACES[field]]
    return list(range(least, most + 1))


def tested_rows(policy):
    """Return for each place of a match the list of the numbers that tests name, and None for all others, if any."""
    rows = []
    for field in MATCH_FIELDS:
        named = sorted({leaf[2] for leaf in leaves(policy) if leaf[:2] == ("is", field)})
        rows.append(named if named == numbers_of_field(field) else [*named, None])
    return rows


def out_order(out):
    """Return what outs are ordered by: None comes before all numbers."""
    port, changes = out
    return (port, [-1 if number is None else number for number in changes])


def outs_at(policy, switch, choice):
    """Return the outs of a local policy at a switch for numbers of `tested_rows`, the port None for the one it has."""
    outs = []
    # None stands for a number that no test names, so it goes through a policy as all these numbers do.
    for state in after(policy, (switch, *choice)):
        changes = [None if new == old else new for new, old in zip(state[2:], choice[1:])]
        outs.append((state[1], tuple(changes)))
    return outs


def with_ports(doing, rows):
    """Return outs for choices, and the rows of these, so that each out has a port, and the outs are in order."""
    keeps = [choice for choice in doing for port, _ in doing[choice] if port is None]
    ports = numbers_of_field("port") if keeps else rows[0]
    told = {}
    for choice in choices(ANY, [ports, *rows[1:]]):
        # A port that no test names does what None stands for.
        general = choice if choice[0] in rows[0] else (None, *choice[1:])
        outs = [(choice[0] if port is None else port, changes) for port, changes in doing[general]]
        told[choice] = sorted(outs, key=out_order)
    return told, [ports, *rows[1:]]


def put(choice, at, number):
    """Return a tuple with another item at a place."""
    return (*choice[:at], number, *choice[at + 1:])


def most_common(items):
    """Return the item that stands in a list most often, the first one of several."""
    best = items[0]
    for item in items:
        if items.count(item) > items.count(best):
            best = item
    return best


def branched(doing, rows, order, choice, merges):
    """Return rules that do what a dict from choices to outs tells, for all choices at the places of an order.

    Where all numbers of a place are told one by one, what most of them do is told for all if rules are to be merged.
    """
    if not order:
        return [(choice, doing[choice])]
    at, *rest = order
    branches = [branched(doing, rows, rest, put(choice, at, number), merges) for number in rows[at]]
    bare = [[(put(match, at, None), outs) for match, outs in branch] for branch in branches]
    if None in rows[at]:
        common = bare[-1]
    else:
        common = most_common(bare) if merges else []
    own = [rule for branch, told in zip(branches, bare) if told != common for rule in branch]
    return own + common


def matters(doing, rows, at):
    """Return whether the number at a place makes a difference in a dict from choices to outs."""
    return any([doing[choice] != doing[put(choice, at, rows[at][-1])] for choice in doing])


def rules_for(policy, switch):
    """Return the table of a local policy at a switch. Raises RoomError."""
    general = tested_rows(policy)
    found = {choice: outs_at(policy, switch, choice) for choice in choices(ANY, general)}
    doing, rows = with_ports(found, general)
    places = [at for at in range(len(rows)) if matters(doing, rows, at)]
    others = [at for at in range(len(rows)) if at not in places]
    # Which order of the places, and whether merging, makes a short table depends on the policy.
    tables = [shortened(branched(doing, rows, [*order, *others], ANY, merges))
              for order in permutations(places) for merges in (False, True)]
    best = tables[0]
    for table in tables:
        if len(table) < len(best):
            best = table
    if len(best) > MOST_RULES:
        raise RoomError(switch)
    return best
