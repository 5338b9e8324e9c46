"""The tokens of a schema's text, read one at a time from left to right."""

LETTERS = "abcdefghijklmnopqrstuvwxyz"
DIGITS = "0123456789"
WORD_SIGNS = "abcdefghijklmnopqrstuvwxyz0123456789_"
SIGNS = "-:;{}"
BLANKS = " \t\n"
REMARK = "#"
CARRIAGE_RETURN = 13
UNKNOWN = "?"

MOST_WORD_BYTES = 12
MOST_DIGITS = 7
MOST_NUMBER = 1000000

WORD = "word"
NUMBER = "number"
SIGN = "sign"
END = "end"

NO_TOKEN = 1
BAD_TOKEN = 2
CANNOT_STAND = 3
ENDS_EARLY = 4
TOO_MANY = 5
NAME_TAKEN = 6
NO_SUCH_TABLE = 7
CANNOT_HOLD = 8

RESERVED = ("table", "number", "from", "to", "ref", "none", "cascade", "clear", "unique")


class TextFault(Exception):
    """The first fault of a text: its kind and its place."""

    def __init__(self, kind, place):
        self.kind = kind
        self.place = place


class Token:
    """A word, a number, a sign or the text's end, with the place where it begins."""

    def __init__(self, kind, text, place):
        self.kind = kind
        self.text = text
        self.place = place


def plain_text(numbers):
    """The bytes as one sign each; all that begin no token and part none look the same."""
    signs = {CARRIAGE_RETURN: " "}
    for sign in WORD_SIGNS + SIGNS + BLANKS + REMARK:
        signs[ord(sign)] = sign
    return "".join([signs.get(number, UNKNOWN) for number in numbers])


def remark_end(text, place):
    end = text.find("\n", place)
    return len(text) if end < 0 else end


def skip_blanks(text, place):
    """The place of the next token, or the text's length."""
    while place < len(text):
        if text[place] == REMARK:
            place = remark_end(text, place)
        elif text[place] in BLANKS:
            place += 1
        else:
            break
    return place


def run_at(text, place, allowed):
    end = place
    while end < len(text) and text[end] in allowed:
        end += 1
    return text[place:end]


def word_at(text, place):
    word = run_at(text, place, WORD_SIGNS)
    if len(word) > MOST_WORD_BYTES:
        raise TextFault(BAD_TOKEN, place)
    return Token(WORD, word, place)


def number_at(text, place):
    digits = run_at(text, place, DIGITS)
    if len(digits) > MOST_DIGITS or int(digits) > MOST_NUMBER:
        raise TextFault(BAD_TOKEN, place)
    if len(digits) > 1 and digits[0] == "0":
        raise TextFault(BAD_TOKEN, place)
    return Token(NUMBER, digits, place)


def token_at(text, place):
    if place == len(text):
        return Token(END, "", place)
    first = text[place]
    if first in LETTERS:
        return word_at(text, place)
    if first in DIGITS:
        return number_at(text, place)
    if first in SIGNS:
        return Token(SIGN, first, place)
    raise TextFault(NO_TOKEN, place)


def reject(token):
    if token.kind == END:
        raise TextFault(ENDS_EARLY, token.place)
    raise TextFault(CANNOT_STAND, token.place)


class Reader:
    """Hands out a text's tokens. None is read before all ahead of it were taken,
    since a token that isn't well made counts only if all before it may stand."""

    def __init__(self, numbers):
        self.text = plain_text(numbers)
        self.place = 0

    def ahead(self):
        """The place where the next token begins, well made or not."""
        return skip_blanks(self.text, self.place)

    def look(self):
        return token_at(self.text, self.ahead())

    def take(self):
        token = self.look()
        self.place = token.place + len(token.text)
        return token

    def accepts(self, wanted):
        """Takes the word or sign if it's next, and tells if it was."""
        if self.look().text != wanted:
            return False
        self.take()
        return True

    def want(self, wanted):
        if not self.accepts(wanted):
            reject(self.look())

    def take_name(self):
        token = self.take()
        if token.kind != WORD or token.text in RESERVED:
            reject(token)
        return token

    def take_new_name(self, taken):
        """A name that isn't among those taken."""
        token = self.take_name()
        if token.text in taken:
            raise TextFault(NAME_TAKEN, token.place)
        return token.text

    def take_number(self):
        """A number, perhaps with a - before it."""
        negative = self.accepts("-")
        token = self.take()
        if token.kind != NUMBER:
            reject(token)
        return -int(token.text) if negative else int(token.text)
