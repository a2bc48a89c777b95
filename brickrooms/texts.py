"""Reading a text byte by byte, up to the first byte with which no text of its sort goes on; and spelling words."""

# Behind the last byte there is none: a number that no byte is.
NO_BYTE = 256


class Stuck(Exception):
    """No text of the sort begins with more than the first `fault` bytes."""

    def __init__(self, fault):
        self.fault = fault


def is_letter(byte):
    return ord("a") <= byte <= ord("z")


def is_digit(byte):
    return ord("0") <= byte <= ord("9")


def spelled(word):
    """The word's bytes."""
    return [ord(sign) for sign in word]


class Reader:
    """A text and how many of its bytes are read.

    Each read takes as much as some text could have there. What it leaves is refused
    by the read behind it, at the very byte: so Stuck always tells the text's fault.
    """

    def __init__(self, text):
        self.text = text
        self.position = 0

    def ended(self):
        return self.position == len(self.text)

    def here(self):
        if self.ended():
            return NO_BYTE
        return self.text[self.position]

    def take(self):
        byte = self.here()
        self.position += 1
        return byte

    def read_one_of(self, signs):
        if self.here() not in signs:
            raise Stuck(self.position)
        return self.take()

    def read_word(self, word):
        for sign in word:
            self.read_one_of((ord(sign),))

    def read_name(self, longest):
        if not is_letter(self.here()):
            raise Stuck(self.position)
        name = []
        while len(name) < longest and (is_letter(self.here()) or is_digit(self.here())):
            name.append(self.take())
        return tuple(name)

    def read_number(self, least, most):
        """least is 0 or 1: then each beginning of a number that may stand here may itself stand here."""
        if not is_digit(self.here()) or not least <= self.here() - ord("0") <= most:
            raise Stuck(self.position)
        value = self.take() - ord("0")
        # Behind a leading 0 each digit would make it a needless nought.
        while value > 0 and is_digit(self.here()) and value * 10 + self.here() - ord("0") <= most:
            value = value * 10 + self.take() - ord("0")
        return value

    def read_end(self):
        if not self.ended():
            raise Stuck(self.position)
