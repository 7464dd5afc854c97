"""Sources: expressions and programs as texts, and back."""

from guessedworlds.errors import BadText, NoExpression, NoProgram
from guessedworlds.programs import HANDLER_WORDS, Program, is_set_word, tuples_of
from guessedworlds.scanning import (
    BINDINGS, BRACKET_WORDS, COMPARING, SIGN_WORDS, expressions_read, is_plain_number, tokens_of,
)
from guessedworlds.textlines import TextLines

CLOSEST = 7
INDENT = "  "
MOST_KIND_FIGURES = 20


def binding_of(expression):
    """How closely an expression binds."""
    return BINDINGS.get(expression[0], CLOSEST)


def sign_of(word):
    """The sign of an expression of two parts."""
    return [sign for sign, name in SIGN_WORDS.items() if name == word][0]


def part_text(expression, is_bracketed):
    """The text of a part."""
    text = right_text(expression)
    return f"({text})" if is_bracketed else text


def right_text(expression):
    """The text of a right expression."""
    word = expression[0]
    if word in ("number", "name"):
        return str(expression[1])
    if word in BRACKET_WORDS:
        parts = [right_text(part) for part in expression[1:]]
        return word + "(" + ", ".join(parts) + ")"
    first = expression[1]
    if word == "not":
        return "not " + part_text(first, binding_of(first) < binding_of(expression))
    if word == "minus":
        return "-" + part_text(first, first[0] != "name" and first[0] not in BRACKET_WORDS)
    second = expression[2]
    binding = binding_of(expression)
    first_least = binding + 1 if binding == COMPARING else binding
    one = part_text(first, binding_of(first) < first_least)
    other = part_text(second, binding_of(second) <= binding)
    return f"{one} {sign_of(word)} {other}"


def expression_text(expression):
    """The text of an expression."""
    if tuples_of(expression) == 0:
        raise NoExpression()
    return right_text(expression)


def read_expression(text):
    """The expression that a text tells."""
    if not isinstance(text, str):
        raise BadText(0)
    return expressions_read(1, tokens_of(text))[0]


def simple_line(statement):
    """The line of a statement without bodies."""
    word = statement[0]
    if word == "gone":
        return word
    if word == "set":
        return f"{statement[1]} = {right_text(statement[2])}"
    if word == "make":
        return f"make {statement[1]}, " + ", ".join([right_text(part) for part in statement[2:]])
    return word + " " + ", ".join([right_text(part) for part in statement[1:]])


def statement_lines(statement, indent):
    """The list of the lines of a statement."""
    if statement[0] not in ("if", "while"):
        return [indent + simple_line(statement)]
    lines = [f"{indent}{statement[0]} {right_text(statement[1])}", *lines_of_body(statement[2], indent + INDENT)]
    if statement[0] == "if" and statement[3] != ():
        lines.append(indent + "else")
        lines.extend(lines_of_body(statement[3], indent + INDENT))
    lines.append(indent + "end")
    return lines


def lines_of_body(body, indent):
    """The list of the lines of a body."""
    lines = []
    for statement in body:
        lines.extend(statement_lines(statement, indent))
    return lines


def program_lines(program):
    """The list of the lines of a program."""
    lines = []
    for word in HANDLER_WORDS:
        if word in program.handlers:
            lines.append("on " + word)
            lines.extend(lines_of_body(program.handlers[word], INDENT))
            lines.append("end")
    return lines


def closed_text(lines):
    """The text of lines, each closed by a line feed."""
    return "".join([line + "\n" for line in lines])


def source_of(program):
    """The source of a program."""
    if not isinstance(program, Program):
        raise NoProgram()
    return closed_text(program_lines(program))


class Frame:
    """A handler, an if or a while whose end was not met yet."""

    def __init__(self, opener, head):
        self.opener = opener
        # The word of the handler, or the expression.
        self.head = head
        self.first = []
        # The second body of an if, None ahead of its else.
        self.second = None

    def put(self, statement):
        """Puts a statement to the body."""
        if self.second is None:
            self.first.append(statement)
        else:
            self.second.append(statement)

    def statement(self):
        """The statement of an if or a while."""
        if self.opener == "while":
            return ("while", self.head, tuple(self.first))
        return ("if", self.head, tuple(self.first), tuple(self.second or []))


def statement_read(tokens):
    """The statement that the tokens of a line tell; of an if or a while its word and expression."""
    word = tokens[0][0]
    if word == "gone" and len(tokens) == 1:
        return ("gone",)
    if word in ("say", "if", "while"):
        return (word, *expressions_read(1, tokens[1:]))
    if word == "push":
        return ("push", *expressions_read(3, tokens[1:]))
    marks = [token for token, _ in tokens[1:3]]
    if word == "make" and len(marks) == 2 and is_plain_number(marks[0]) and marks[1] == ",":
        return ("make", int(marks[0][:MOST_KIND_FIGURES]), *expressions_read(3, tokens[3:]))
    if is_set_word(word) and marks[:1] == ["="]:
        return ("set", word, *expressions_read(1, tokens[2:]))
    raise BadText(1)


class SourceReader:
    """Puts the handlers of a program together, line by line; BadText(1) tells that a line is wrong."""

    def __init__(self):
        self.handlers = {}
        # The handler and the statements that stand open, each one in the one ahead.
        self.frames = []

    def begin_handler(self, words):
        """Takes the first line of a handler."""
        if self.frames or len(words) != 2 or words[1] not in HANDLER_WORDS or words[1] in self.handlers:
            raise BadText(1)
        self.frames.append(Frame("on", words[1]))

    def turn(self):
        """Takes an else."""
        if not self.frames:
            raise BadText(1)
        frame = self.frames[-1]
        if frame.opener != "if" or frame.second is not None:
            raise BadText(1)
        frame.second = []

    def end(self):
        """Takes an end."""
        if not self.frames:
            raise BadText(1)
        frame = self.frames.pop()
        if frame.opener == "on":
            self.handlers[frame.head] = tuple(frame.first)
        else:
            self.frames[-1].put(frame.statement())

    def take(self, line):
        """Takes a line."""
        tokens = tokens_of(line)
        words = [token for token, _ in tokens]
        if words[0] == "on":
            self.begin_handler(words)
        elif words == ["else"]:
            self.turn()
        elif words == ["end"]:
            self.end()
        elif not self.frames:
            raise BadText(1)
        else:
            statement = statement_read(tokens)
            if statement[0] in ("if", "while"):
                self.frames.append(Frame(statement[0], statement[1]))
            else:
                self.frames[-1].put(statement)


def take_line(reader, lines):
    """Lets a reader take the next line."""
    line = lines.take()
    try:
        reader.take(line)
    except BadText:
        raise BadText(lines.number)


def handlers_up_to_end(lines):
    """The dict of the handlers that stand from here up to an end of their own."""
    reader = SourceReader()
    while reader.frames or lines.first_word() != "end":
        take_line(reader, lines)
    if lines.take() != "end":
        raise BadText(lines.number)
    return reader.handlers


def read_source(text):
    """The program that a source tells."""
    lines = TextLines(text)
    reader = SourceReader()
    while not lines.is_over():
        take_line(reader, lines)
    if reader.frames:
        raise BadText(len(lines.lines) + 1)
    return Program(reader.handlers)
