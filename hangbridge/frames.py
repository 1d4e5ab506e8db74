"""Frames and the texts that they are on a link (points 4 and 5)."""

MOST_NUMBER = 2147483647
MOST_SIGNS = 200
KINDS = ("hail", "here", "open", "data", "ack")

# The least and the greatest number of each place in a frame's text, in order.
DATUM_PLACES = ((0, 200), (0, 16), (0, 2147483647), (0, 15), (0, 15), (0, 15))
PROBE_PLACES = ((1, 8), (1, 6), (0, 2147483647))
FOUND_PLACES = ((1, 8), (1, 6))
SEGMENT_PLACES = ((0, 8), (0, 8), (0, 16), (0, 2147483647))


def check_number(text):
    """Return the check number of a text."""
    number = 7
    for sign in text:
        number = (number * 257 + ord(sign) + 1) % 4294967291
    return number


def number_of(word, most):
    """Return the number from 0 to `most` that a word writes, or None."""
    # isdigit alone would let digits beyond ASCII pass.
    if not word.isascii() or not word.isdigit():
        return None
    if word.startswith("0") and word != "0":
        return None
    # Python refuses to convert very long words, so they do not come that far.
    if len(word) > len(str(most)):
        return None
    number = int(word)
    return number if number <= most else None


def number_within(word, bounds):
    """Return the number that a word writes, if it is within a pair of bounds, or None."""
    least, most = bounds
    number = number_of(word, most)
    if number is None or number < least:
        return None
    return number


def numbers_of(words, places):
    """Return the list of the numbers of words, each within the bounds of its place, or None."""
    if len(words) != len(places):
        return None
    numbers = [number_within(word, bounds) for word, bounds in zip(words, places)]
    return None if None in numbers else numbers


def frame_words(frame):
    """Return the list of the words of a frame, numbers among them."""
    if frame[0] == "datum":
        return [*frame[:4], *frame[4]]
    if frame[0] == "probe":
        name, origin, nonce, found = frame
        if found is None:
            return [name, *origin, nonce]
        return [name, *origin, nonce, *found]
    return list(frame)


def write_frame(frame):
    """Return the text of a frame."""
    text = " ".join([str(word) for word in frame_words(frame)])
    return f"{text}*{check_number(text)}"


def read_datum(words):
    """Return the datum of the words behind its name, or None."""
    numbers = numbers_of(words, DATUM_PLACES)
    if numbers is None:
        return None
    version, hops, number, *header = numbers
    return ("datum", version, hops, number, tuple(header))


def read_probe(words):
    """Return the probe of the words behind its name, or None."""
    sent = numbers_of(words[:3], PROBE_PLACES)
    if sent is None:
        return None
    switch, port, nonce = sent
    if len(words) == 3:
        return ("probe", (switch, port), nonce, None)
    found = numbers_of(words[3:], FOUND_PLACES)
    if found is None:
        return None
    return ("probe", (switch, port), nonce, tuple(found))


def is_segment_text(text):
    """Return whether a text without `*` may stand in a segment."""
    return len(text) <= MOST_SIGNS and all([" " <= sign <= "~" for sign in text])


def read_segment(words):
    """Return the segment of the words behind its name, its text as the last one, or None."""
    if len(words) != 7:
        return None
    numbers = numbers_of(words[:4], SEGMENT_PLACES)
    kind, word, text = words[4:]
    number = number_of(word, MOST_NUMBER)
    if numbers is None or number is None or kind not in KINDS or not is_segment_text(text):
        return None
    return ("segment", *numbers, kind, number, text)


def read_frame(text):
    """Return the frame of a text, or None if it is malformed."""
    # No frame has a second `*`, so the first one ends the words.
    body, _, mark = text.partition("*")
    if mark != str(check_number(body)):
        return None
    name, _, rest = body.partition(" ")
    if name == "datum":
        return read_datum(rest.split(" "))
    if name == "probe":
        return read_probe(rest.split(" "))
    if name == "segment":
        # The seventh word is the rest, as the text of a segment may have spaces.
        return read_segment(rest.split(" ", 6))
    return None
