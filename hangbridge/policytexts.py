"""The texts of tests and policies (points 69 and 70)."""

from hangbridge.errors import MisreadError
from hangbridge.frames import number_of
from hangbridge.policies import FIELD_PLACES

MOST_WRITTEN = 99
MOST_DIGITS = 2
MOST_AROUND = 20
DIGITS = "0123456789"
SIGN_OF_IS = " = "
SIGN_OF_SET = " := "
SEPARATOR = ", "
# The signs of what has a list of parts.
TEST_SIGNS = {"all": "&", "any": "|"}
POLICY_SIGNS = {"sum": "+", "seq": ";"}


def in_brackets(sign, texts):
    """Return the text of a list of parts."""
    parts = SEPARATOR.join(texts)
    return f"{sign}({parts})"


def show_test(test):
    """Return the text of a test."""
    name = test[0]
    if name == "is":
        return f"{test[1]}{SIGN_OF_IS}{test[2]}"
    if name == "not":
        return f"!{show_test(test[1])}"
    return in_brackets(TEST_SIGNS[name], [show_test(part) for part in test[1]])


def show_policy(policy):
    """Return the text of a policy."""
    name = policy[0]
    if name == "test":
        return f"[{show_test(policy[1])}]"
    if name == "set":
        return f"{policy[1]}{SIGN_OF_SET}{policy[2]}"
    if name == "star":
        return f"*{show_policy(policy[1])}"
    return in_brackets(POLICY_SIGNS[name], [show_policy(part) for part in policy[1]])


class Reader:
    """A text, and the index up to which it was read."""

    def __init__(self, text):
        self.text = text
        self.at = 0

    def skip(self, sign):
        """Read a sign, if it stands here; return whether it does."""
        stands = self.text.startswith(sign, self.at)
        if stands:
            self.at += len(sign)
        return stands

    def expect(self, sign):
        """Read a sign. Raises MisreadError."""
        if not self.skip(sign):
            raise MisreadError(self.at)

    def field(self):
        """Read a field and return it. Raises MisreadError."""
        for field in FIELD_PLACES:
            if self.skip(field):
                return field
        raise MisreadError(self.at)

    def number(self):
        """Read a number and return it. Raises MisreadError."""
        start = self.at
        # A third digit is not part of the number, so what comes behind it finds it.
        while self.at < min(start + MOST_DIGITS, len(self.text)) and self.text[self.at] in DIGITS:
            self.at += 1
        number = number_of(self.text[start:self.at], MOST_WRITTEN)
        if number is None:
            raise MisreadError(start)
        return number

    def end(self):
        """Read the end of the text. Raises MisreadError."""
        if self.at < len(self.text):
            raise MisreadError(self.at)


def read_leaf(reader, name, sign):
    """Read an "is" or a "set" and return it. Raises MisreadError."""
    field = reader.field()
    reader.expect(sign)
    return (name, field, reader.number())


def read_parts(reader, around, read):
    """Read the parts in brackets, by a function, and return the list of them. Raises MisreadError."""
    reader.expect("(")
    parts = []
    while not reader.skip(")"):
        if parts:
            reader.expect(SEPARATOR)
        parts.append(read(reader, around))
    return parts


def check_depth(reader, around):
    """Raise MisreadError if what begins here is in too many others."""
    if around > MOST_AROUND:
        raise MisreadError(reader.at)


def read_test(reader, around):
    """Read a test that is in so many others and return it. Raises MisreadError."""
    check_depth(reader, around)
    if reader.skip("!"):
        return ("not", read_test(reader, around + 1))
    for name in TEST_SIGNS:
        if reader.skip(TEST_SIGNS[name]):
            return (name, read_parts(reader, around + 1, read_test))
    return read_leaf(reader, "is", SIGN_OF_IS)


def read_part(reader, around):
    """Read a policy that is in so many others and return it. Raises MisreadError."""
    check_depth(reader, around)
    if reader.skip("["):
        test = read_test(reader, around + 1)
        reader.expect("]")
        return ("test", test)
    if reader.skip("*"):
        return ("star", read_part(reader, around + 1))
    for name in POLICY_SIGNS:
        if reader.skip(POLICY_SIGNS[name]):
            return (name, read_parts(reader, around + 1, read_part))
    return read_leaf(reader, "set", SIGN_OF_SET)


def read_policy(text):
    """Return the policy of a text. Raises MisreadError."""
    reader = Reader(text)
    policy = read_part(reader, 0)
    reader.end()
    return policy
