"""The tokens of the texts of programs."""

from quietsmith.errors import BadText
from quietsmith.values import LONGEST_NAME, is_name

LONGEST_NUMBER = 78
PAIRS = ("==", "<<", ">>")
SINGLES = "(){}[],;=+*-:<&|^"


def is_letter(character):
    """Tells whether names can contain the character."""
    return "a" <= character <= "z"


def is_digit(character):
    """Tells whether numbers can contain the character."""
    return "0" <= character <= "9"


def token_at(text, start):
    """Returns the token that begins at the index, or an empty text behind the last one."""
    if start == len(text):
        return ""
    if is_letter(text[start]):
        return name_at(text, start)
    if is_digit(text[start]):
        return number_at(text, start)
    if text[start:start + 2] in PAIRS:
        return text[start:start + 2]
    if text[start] in SINGLES:
        return text[start]
    raise BadText(start)


def name_at(text, start):
    """Returns the name or the reserved name that begins at the index."""
    token = run_at(text, start, is_letter)
    if len(token) > LONGEST_NAME:
        raise BadText(start)
    return token


def number_at(text, start):
    """Returns the number that begins at the index."""
    token = run_at(text, start, is_digit)
    if not is_number(token, LONGEST_NUMBER):
        raise BadText(start)
    return token


def is_number(text, longest):
    """Tells whether a text is a number of at most so many digits."""
    if not 1 <= len(text) <= longest or not all(is_digit(character) for character in text):
        return False
    return len(text) == 1 or text[0] != "0"


def run_at(text, start, fits):
    """Returns the longest run of characters that fit, from the index on."""
    end = start
    while end < len(text) and fits(text[end]):
        end += 1
    return text[start:end]


def behind_space(text, start):
    """Returns the index of the first character from the start on that is no space."""
    end = start
    while end < len(text) and text[end] in " \n":
        end += 1
    return end


class Tokens:
    """The tokens of a text, from left to right.

    A token is looked at only when it is asked for: an error in it must not
    come before an error that the tokens before it make.
    """

    def __init__(self, text):
        self.text = text
        self.start = behind_space(text, 0)

    def peek(self):
        """Returns the token that comes next, without going on; an empty text at the end."""
        return token_at(self.text, self.start)

    def take(self):
        """Returns the token that comes next, and goes on behind it."""
        token = self.peek()
        self.start = behind_space(self.text, self.start + len(token))
        return token

    def refuse(self):
        """Raises the error of the token that comes next."""
        raise BadText(self.start)

    def need(self, token):
        """Goes on behind this token."""
        if self.peek() != token:
            self.refuse()
        self.take()

    def take_if(self, token):
        """Goes on behind this token if it comes next, and tells whether it does."""
        if self.peek() != token:
            return False
        self.take()
        return True

    def name(self):
        """Returns the name that comes next, and goes on behind it."""
        if not is_name(self.peek()):
            self.refuse()
        return self.take()

    def number(self, least, greatest):
        """Returns the number that comes next, and goes on behind it."""
        token = self.peek()
        if token == "" or not is_digit(token[0]):
            self.refuse()
        if not least <= int(token) <= greatest:
            self.refuse()
        return int(self.take())
