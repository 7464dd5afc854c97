"""Scanning: texts as words and signs, and the expressions that these tell."""

from guessedworlds.errors import BadText
from guessedworlds.numbers import is_small
from guessedworlds.programs import is_name_word, tuples_of

FIGURES = "0123456789"
WORD_SIGNS = "abcdefghijklmnopqrstuvwxyz0123456789"
PLAIN_SIGNS = "(),<=+-*/"
BLANK = " "
MOST_FIGURES = 10
NOT_BINDING = 6
# Words that have their part, or parts, within brackets.
BRACKET_WORDS = ("draw", "press", "kind", "left", "top", "cell")
# What stands between two parts: the word of the expression, and how closely it binds.
SIGN_WORDS = {
    "or": "or", "and": "and", "<": "less", "=": "same", "+": "add", "-": "sub", "*": "mul", "/": "div", "rest": "rest",
}
BINDINGS = {
    "or": 1, "and": 2, "less": 3, "same": 3, "add": 4, "sub": 4, "mul": 5, "div": 5, "rest": 5, "not": 6, "minus": 6,
}
COMPARING = 3
LOOSEST = 1
BRACKET = 0


def are_figures(thing):
    """Whether a string is of figures alone."""
    return thing != "" and all([sign in FIGURES for sign in thing])


def is_plain_number(thing):
    """Whether a string is a number, decimal, without needless zeros."""
    return are_figures(thing) and (thing == "0" or thing[0] != "0")


def is_word(thing):
    """Whether a string is a word or figures: words may have figures behind their first sign."""
    return are_figures(thing) or thing[0] not in FIGURES


def tokens_of(text):
    """The list of the words, figures and signs of a text: pairs of these and whether no blank is ahead of them."""
    tokens = []
    at = 0
    while at < len(text):
        begin = at
        while at < len(text) and text[at] in WORD_SIGNS:
            at = at + 1
        if at == begin:
            at = at + 1
        token = text[begin:at]
        if token in PLAIN_SIGNS or (token[0] in WORD_SIGNS and is_word(token)):
            tokens.append((token, begin > 0 and text[begin - 1] != BLANK))
        elif token != BLANK:
            raise BadText(1)
    return tokens


class Parser:
    """Puts expressions together from tokens; BadText(1) tells that they are none."""

    def __init__(self, tokens):
        self.tokens = tokens
        self.at = 0
        # The expressions that are put together so far.
        self.parts = []
        # What waits for parts: pairs (word, binding), the binding of a bracket being 0.
        self.signs = []
        self.lacks_part = True
        self.is_behind_minus = False

    def token_at(self, at):
        """The token at a place, nothing beyond the last one."""
        return self.tokens[at] if at < len(self.tokens) else ("", False)

    def put_number(self, figures, factor):
        """Puts a number behind the parts."""
        if not is_plain_number(figures) or len(figures) > MOST_FIGURES:
            raise BadText(1)
        number = factor * int(figures)
        if not is_small(number) or (number == 0 and factor < 0):
            raise BadText(1)
        self.put_part(("number", number))

    def put_part(self, part):
        """Puts a part behind the parts."""
        self.parts.append(part)
        self.lacks_part = False
        self.is_behind_minus = False

    def wait_with(self, word, binding):
        """Lets a sign or a bracket wait for its part."""
        self.signs.append((word, binding))
        self.lacks_part = True
        self.is_behind_minus = word == "minus"

    def join_parts(self, binding):
        """Puts together what waits and binds so closely at least."""
        while self.signs and self.signs[-1][1] >= binding:
            word = self.signs.pop()[0]
            part = self.parts.pop()
            if BINDINGS[word] == NOT_BINDING:
                self.parts.append((word, part))
            else:
                self.parts.append((word, self.parts.pop(), part))

    def take_part(self):
        """Takes the token where a part begins."""
        token = self.token_at(self.at)[0]
        behind, is_next = self.token_at(self.at + 1)
        self.at = self.at + 1
        if token == "(":
            self.wait_with("(", BRACKET)
        elif token in BRACKET_WORDS and behind == "(":
            self.at = self.at + 1
            self.wait_with(token, BRACKET)
        elif is_name_word(token):
            self.put_part(("name", token))
        elif self.is_behind_minus:
            raise BadText(1)
        elif token == "not":
            self.wait_with("not", NOT_BINDING)
        elif token == "-" and is_next and are_figures(behind):
            self.at = self.at + 1
            self.put_number(behind, -1)
        elif token == "-":
            self.wait_with("minus", NOT_BINDING)
        else:
            self.put_number(token, 1)

    def take_comma(self):
        """Takes a comma: another part of a cell, or another expression."""
        self.join_parts(LOOSEST)
        if self.signs:
            word = self.signs.pop()[0]
            if word != "cell":
                raise BadText(1)
            self.signs.append(("second", BRACKET))
        self.lacks_part = True

    def take_end(self):
        """Takes the end of a bracket."""
        self.join_parts(LOOSEST)
        word = self.signs.pop()[0] if self.signs else "cell"
        if word == "cell":
            raise BadText(1)
        if word == "second":
            part = self.parts.pop()
            self.parts.append(("cell", self.parts.pop(), part))
        elif word != "(":
            self.parts.append((word, self.parts.pop()))

    def take_sign(self):
        """Takes the token behind a part."""
        token = self.token_at(self.at)[0]
        self.at = self.at + 1
        if token == ")":
            self.take_end()
        elif token == ",":
            self.take_comma()
        elif token in SIGN_WORDS:
            word = SIGN_WORDS[token]
            binding = BINDINGS[word]
            self.join_parts(binding + 1 if binding == COMPARING else binding)
            if binding == COMPARING and self.signs and self.signs[-1][1] == COMPARING:
                raise BadText(1)
            self.wait_with(word, binding)
        else:
            raise BadText(1)

    def expressions(self):
        """The list of the expressions that the tokens tell, kept apart by commas."""
        while self.at < len(self.tokens):
            if self.lacks_part:
                self.take_part()
            else:
                self.take_sign()
        if self.lacks_part:
            raise BadText(1)
        self.join_parts(LOOSEST)
        if self.signs or not all([tuples_of(part) > 0 for part in self.parts]):
            raise BadText(1)
        return self.parts


def expressions_read(many, tokens):
    """The tuple of so many expressions that tokens tell."""
    found = Parser(tokens).expressions()
    if len(found) != many:
        raise BadText(1)
    return tuple(found)
