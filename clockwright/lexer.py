"""Tokens of a design text."""

from clockwright.errors import Malformed, Unbounded
from clockwright.logic import from_number

RESERVED = (
    "unit", "end", "in", "out", "wire", "reg", "var", "when", "tick", "use", "each",
    "given", "else", "func", "give", "if", "case", "loop",
)

# Longer signs stand before their own beginnings, so that the first one that fits is the longest.
SIGNS = (
    "===", "==", "!=", "<=", ">=", "<<", ">>", "<-", "&&", "||", "..",
    "~", "-", "+", "*", "&", "|", "^", "<", ">", "!", "?", ":", "=", ",", ";",
    "(", ")", "[", "]", "{", "}",
)

MAX_TEXT = 20000
MAX_NAME = 40
MAX_BITS = 64
MAX_DIGITS = 20

DIGITS = "0123456789"
LETTERS = "abcdefghijklmnopqrstuvwxyzABCDEFGHIJKLMNOPQRSTUVWXYZ"
WORD_CHARACTERS = "abcdefghijklmnopqrstuvwxyzABCDEFGHIJKLMNOPQRSTUVWXYZ0123456789_"

BINARY_DIGITS = "01xz"
HEX_DIGITS = {
    "0": "0000", "1": "0001", "2": "0010", "3": "0011",
    "4": "0100", "5": "0101", "6": "0110", "7": "0111",
    "8": "1000", "9": "1001", "a": "1010", "b": "1011",
    "c": "1100", "d": "1101", "e": "1110", "f": "1111",
    "x": "xxxx", "z": "zzzz",
}


def _run_end(text, at, characters):
    end = at
    while end < len(text) and text[end] in characters:
        end += 1
    return end


def _skip_separators(text, at):
    while at < len(text):
        if text[at] in " \t\n":
            at += 1
        elif text[at] == "#":
            newline = text.find("\n", at)
            at = len(text) if newline < 0 else newline
        else:
            return at
    return at


def _has_leading_zero(digits):
    return len(digits) > 1 and digits[0] == "0"


def is_name(text):
    """Tell whether a string is a name."""
    if not 1 <= len(text) <= MAX_NAME or text in RESERVED:
        return False
    return text[0] in LETTERS and all(character in WORD_CHARACTERS for character in text)


def _word_token(text, at):
    end = _run_end(text, at, WORD_CHARACTERS)
    word = text[at:end]
    if word in RESERVED:
        return (("word", word, at), end)
    if not is_name(word):
        raise Malformed(at)
    return (("name", word, at), end)


def _number_of(digits, at):
    """Return the number, if it is less than 2 to the power of 64."""
    # Python refuses to read very many digits, so their number is tested first.
    if len(digits) > MAX_DIGITS or int(digits) >= 2 ** 64:
        raise Malformed(at)
    return int(digits)


def _number_token(text, at):
    end = _run_end(text, at, DIGITS)
    digits = text[at:end]
    follower = text[end:end + 1]
    if follower == "'":
        return _vector_token(text, at, end)
    if (follower != "" and follower in WORD_CHARACTERS) or _has_leading_zero(digits):
        raise Malformed(at)
    return (("number", _number_of(digits, at), at), end)


def _vector_token(text, at, apostrophe):
    digits = text[at:apostrophe]
    if _has_leading_zero(digits):
        raise Malformed(at)
    width = _number_of(digits, at)
    if not 1 <= width <= MAX_BITS:
        raise Malformed(at)
    base = text[apostrophe + 1:apostrophe + 2]
    end = _run_end(text, apostrophe + 2, WORD_CHARACTERS)
    bits = _vector_bits(base, text[apostrophe + 2:end], width, at)
    return (("vector", bits, at), end)


def _vector_bits(base, digits, width, at):
    if digits == "":
        raise Malformed(at)
    if base == "d":
        return _decimal_bits(digits, width, at)
    if base == "b" and all(digit in BINARY_DIGITS for digit in digits):
        return _fitted(digits, width, at)
    if base == "h" and all(digit in HEX_DIGITS for digit in digits):
        return _fitted("".join([HEX_DIGITS[digit] for digit in digits]), width, at)
    raise Malformed(at)


def _decimal_bits(digits, width, at):
    if not all(digit in DIGITS for digit in digits):
        raise Malformed(at)
    number = _number_of(digits.lstrip("0") or "0", at)
    if number >= 1 << width:
        raise Malformed(at)
    return from_number(number, width=width)


def _fitted(bits, width, at):
    extra = max(0, len(bits) - width)
    if bits[:extra] != "0" * extra:
        raise Malformed(at)
    return bits[extra:].zfill(width)


def _sign_token(text, at):
    for sign in SIGNS:
        if text.startswith(sign, at):
            return (("sign", sign, at), at + len(sign))
    raise Malformed(at)


def _token(text, at):
    """Return the token that starts here, and the index behind it."""
    if text[at] in LETTERS:
        return _word_token(text, at)
    if text[at] in DIGITS:
        return _number_token(text, at)
    return _sign_token(text, at)


def tokenize(text):
    """Return the list of all tokens in the order of the text."""
    if len(text) > MAX_TEXT:
        raise Unbounded("text")
    tokens = []
    at = _skip_separators(text, 0)
    while at < len(text):
        token, end = _token(text, at)
        tokens.append(token)
        at = _skip_separators(text, end)
    return tokens
