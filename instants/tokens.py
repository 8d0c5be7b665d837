"""The tokens of a text, and a reader that goes through them one by one."""

from instants.refusals import PastLimit, WrongToken

MOST_OF_WORD = 31
MOST_DIGITS = 10
MOST_NUMBER = 2147483647

# Bytes 40 to 122, in order: every sign that a token may hold is among them.
FIRST_SHOWN = 40
SHOWN = "()*+,-./0123456789:;<=>?@ABCDEFGHIJKLMNOPQRSTUVWXYZ[\\]^_`abcdefghijklmnopqrstuvwxyz"

# Stands for every byte that neither begins a token nor is a blank.
STRANGE = "?"

NOT_NAMES = (
    "node", "returns", "var", "let", "tel", "int", "bool", "true", "false", "not", "and", "or", "xor", "mod",
    "if", "then", "else", "pre", "fby", "activate", "reset", "every", "initial",
)
LONG_SIGNS = ("<=", ">=", "<>", "->", "=>")
SHORT_SIGNS = ("(", ")", ",", ";", ":", "=", "<", ">", "+", "-", "*", "/")


# The kind is the token itself for signs and for words that are no names, else one of
# name, number, end, strange (a byte that begins none) and long (a limit is passed by it).
class Token:
    def __init__(self, kind, place, text):
        self.kind = kind
        self.place = place
        self.text = text


def shown_byte(byte):
    if FIRST_SHOWN <= byte < FIRST_SHOWN + len(SHOWN):
        return SHOWN[byte - FIRST_SHOWN]
    if byte == 10:
        return "\n"
    if byte in (9, 13, 32):
        return " "
    return STRANGE


def after_blanks(shown, place):
    while place < len(shown):
        if shown.startswith("--", place):
            place = shown.find("\n", place)
            if place < 0:
                return len(shown)
        elif shown[place] in (" ", "\n"):
            place += 1
        else:
            return place
    return place


def word_at(shown, place):
    end = place
    while end < len(shown) and (shown[end].isalnum() or shown[end] == "_"):
        end += 1
    word = shown[place:end]
    if len(word) > MOST_OF_WORD:
        return Token("long", place, word)
    if word in NOT_NAMES:
        return Token(word, place, word)
    return Token("name", place, word)


def number_at(shown, place):
    end = place
    while end < len(shown) and shown[end].isdigit():
        end += 1
    digits = shown[place:end]
    if len(digits) > MOST_DIGITS or int(digits) > MOST_NUMBER:
        return Token("long", place, digits)
    return Token("number", place, digits)


def token_at(shown, place):
    first = shown[place]
    if first.isdigit():
        return number_at(shown, place)
    if first.isalpha() or first == "_":
        return word_at(shown, place)
    pair = shown[place:place + 2]
    if pair in LONG_SIGNS:
        return Token(pair, place, pair)
    if first in SHORT_SIGNS:
        return Token(first, place, first)
    return Token("strange", place, first)


# Nothing is told of what's behind a strange or long token: no reader gets past one.
def tokens_of(text):
    shown = "".join([shown_byte(byte) for byte in text])
    tokens = []
    place = after_blanks(shown, 0)
    while place < len(shown):
        token = token_at(shown, place)
        tokens.append(token)
        if token.kind in ("strange", "long"):
            return tokens
        place = after_blanks(shown, place + len(token.text))
    tokens.append(Token("end", len(shown), ""))
    return tokens


# A token is looked at only once those before it have been found to stand where they may,
# so that whatever is refused first in the text is what's answered.
class Reader:
    def __init__(self, text):
        self.tokens = tokens_of(text)
        self.taken = 0

    def token(self):
        found = self.tokens[self.taken]
        if found.kind == "long":
            raise PastLimit()
        return found

    def sees(self, kind):
        return self.token().kind == kind

    def take_one_of(self, kinds):
        found = self.token()
        if found.kind not in kinds:
            raise WrongToken(found.place)
        self.taken += 1
        return found

    def take(self, kind):
        return self.take_one_of((kind,))
