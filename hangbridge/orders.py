"""Orders between the controller and a switch, and their texts (points 6 and 7)."""

from hangbridge.frames import number_within, numbers_of

MOST_OUTS = 8

# The least and the greatest number of each word behind an order's name, in order.
ORDER_PLACES = {
    "wipe": (),
    "strip": (),
    "keep": ((0, 200), (0, 64)),
    "tag": ((0, 200), (0, 64)),
    "drop": ((0, 200),),
    "way": ((0, 8), (0, 6)),
    "unway": ((0, 8),),
    "probe": ((0, 6), (0, 2147483647)),
    "barrier": ((0, 2147483647),),
    "done": ((0, 2147483647), (0, 2147483647)),
    "link": ((0, 6), (0, 8), (0, 6), (0, 2147483647)),
    "port": ((0, 6), (0, 1)),
}
RULE_VERSION = (1, 200)
RULE_PORT = (0, 6)
MATCH_PLACES = ((0, 6), (0, 15), (0, 15), (0, 15))
CHANGE_PLACES = ((0, 15), (0, 15), (0, 15))


def write_choices(choices):
    """Return the text of numbers or None with commas between them."""
    return ",".join(["-" if choice is None else str(choice) for choice in choices])


def write_outs(outs):
    """Return the text of outs."""
    if not outs:
        return "-"
    return ";".join([f"{port}:{write_choices(changes)}" for port, changes in outs])


def order_words(order):
    """Return the list of the words of an order, numbers among them."""
    if order[0] == "add":
        name, version, match, outs = order
        return [name, version, write_choices(match), write_outs(outs)]
    if order[0] == "link":
        name, port, end, nonce = order
        return [name, port, *end, nonce]
    return list(order)


def write_order(order):
    """Return the text of an order."""
    return " ".join([str(word) for word in order_words(order)])


def read_choices(text, places):
    """Return the tuple of the numbers or None that a text writes, or None if it writes none."""
    words = text.split(",")
    if len(words) != len(places):
        return None
    choices = [number_within(word, bounds) for word, bounds in zip(words, places)]
    for word, choice in zip(words, choices):
        if choice is None and word != "-":
            return None
    return tuple(choices)


def read_out(text):
    """Return the pair of a port and changes that a text writes, or None."""
    word, _, rest = text.partition(":")
    port = number_within(word, RULE_PORT)
    changes = read_choices(rest, CHANGE_PLACES)
    if port is None or changes is None:
        return None
    return (port, changes)


def read_outs(text):
    """Return the list of the outs that a text writes, or None."""
    if text == "-":
        return []
    outs = [read_out(part) for part in text.split(";")]
    if len(outs) > MOST_OUTS or None in outs:
        return None
    return outs


def read_add(words):
    """Return the order "add" of the words behind its name, or None."""
    if len(words) != 3:
        return None
    version = number_within(words[0], RULE_VERSION)
    match = read_choices(words[1], MATCH_PLACES)
    outs = read_outs(words[2])
    if version is None or match is None or outs is None:
        return None
    return ("add", version, match, outs)


def read_order(text):
    """Return the order of a text, or None if it is none."""
    name, *words = text.split(" ")
    if name == "add":
        return read_add(words)
    places = ORDER_PLACES.get(name)
    if places is None:
        return None
    numbers = numbers_of(words, places)
    if numbers is None:
        return None
    if name == "link":
        port, switch, other, nonce = numbers
        return (name, port, (switch, other), nonce)
    return (name, *numbers)
