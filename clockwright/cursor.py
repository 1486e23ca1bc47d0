"""A place in a list of tokens, from which the parser reads on."""

from clockwright.errors import Malformed


class Cursor:
    """A list of tokens, the position of the next one, and the length of the text."""

    def __init__(self, tokens, position, end):
        self.tokens = tokens
        self.position = position
        self.end = end

    def finished(self):
        """Tell whether there are no more tokens."""
        return self.position >= len(self.tokens)

    def next_kind(self):
        """Return the kind of the next token, or an empty string if there is none."""
        return "" if self.finished() else self.tokens[self.position][0]

    def next_sign(self):
        """Return the next token's sign, or an empty string if it is no sign."""
        return self.tokens[self.position][1] if self.next_kind() == "sign" else ""

    def next_word(self):
        """Return the next token's reserved word, or an empty string if it is none."""
        return self.tokens[self.position][1] if self.next_kind() == "word" else ""

    def fail(self):
        """Raise Malformed at the next token."""
        raise Malformed(self.end if self.finished() else self.tokens[self.position][2])

    def step(self):
        """Go behind the next token, and return its value."""
        value = self.tokens[self.position][1]
        self.position += 1
        return value

    def take_sign(self, sign):
        """Go behind the next token if it is this sign, and tell whether it was."""
        if self.next_sign() != sign:
            return False
        self.position += 1
        return True

    def take_word(self, word):
        """Go behind the next token if it is this reserved word, and tell whether it was."""
        if self.next_word() != word:
            return False
        self.position += 1
        return True

    def need_sign(self, sign):
        """Go behind the next token, which must be this sign."""
        if not self.take_sign(sign):
            self.fail()

    def need_word(self, word):
        """Go behind the next token, which must be this reserved word."""
        if not self.take_word(word):
            self.fail()

    def need_name(self):
        """Go behind the next token, which must be a name, and return the name."""
        if self.next_kind() != "name":
            self.fail()
        return self.step()
