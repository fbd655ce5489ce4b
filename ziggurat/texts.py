"""Programs as texts: parsing and printing."""

from ziggurat.errors import FormError, LimitError, ParseError
from ziggurat.forms import has_form, height, is_well_formed, size
from ziggurat.shapes import EXPRESSION_PLACES, KINDS, SHAPES, is_name

MAX_TEXT = 4000
MAX_OPEN = 60
MAX_NODES = 60
MAX_DEPTH = 10
MAX_LEVEL = 3


def parse(text):
    """Return the program that a text is of; raise ParseError, FormError or LimitError if there is none."""
    if len(text) > MAX_TEXT:
        raise LimitError("the text is too long")
    program = Reader(text).program()
    if not has_form(program, False):
        raise FormError("the program is not well formed")
    if not is_well_formed(program):
        raise LimitError("a name or a number is too large")
    if _is_too_large(program):
        raise LimitError("the program is too large, too deep or too high")
    return program


def print_program(program):
    """Return the text of a program."""
    text = ""
    todo = [program]
    while todo:
        thing = todo.pop()
        if isinstance(thing, tuple):
            todo.extend(_printed_things(thing)[::-1])
        else:
            word = str(thing)
            if text and not text.endswith("(") and word != ")":
                text += " "
            text += word
    return text


def _printed_things(node):
    """Return the words and the expressions that make up the text of an expression, in their order."""
    if node[0] in ("num", "name"):
        return [node[1]]
    if node[0] == "do":
        return ["(", "do", *node[1], ")"]
    return ["(", *node, ")"]


def _is_too_large(program):
    """Tell whether a program has too many nodes, is too deep or has too high a level."""
    nodes, depth = size(program)
    return nodes > MAX_NODES or depth > MAX_DEPTH or height(program) > MAX_LEVEL


def _words_of(text):
    """Return the pairs (index, word) of a text; brackets and wrong characters are words, too, and "" is its end."""
    found = []
    at = 0
    while at < len(text):
        end = _word_end(text, at)
        if text[at] not in " \n":
            found.append((at, text[at:end]))
        at = end
    found.append((len(text), ""))
    return found


def _word_end(text, at):
    """Return the index behind the word, or the single other character, that begins at an index."""
    end = at
    while end < len(text) and _is_in_words(text[end]):
        end += 1
    return max(end, at + 1)


def _is_in_words(character):
    return character == "-" or character.isascii() and character.isalnum()


def _is_number(word):
    """Tell whether a word is a number without leading zeros, of any size."""
    digits = word.removeprefix("-")
    return digits.isascii() and digits.isdigit() and (word == "0" or digits[0] != "0")


class Reader:
    """Reads expressions from the words of a text, from left to right."""

    def __init__(self, text):
        self.words = _words_of(text)
        self.place = 0

    def program(self):
        """Read the whole text."""
        found = self.expression(0)
        self.expect("")
        return found

    def expression(self, depth):
        """Read an expression within a number of brackets that are not closed yet."""
        at, word = self.take()
        if word == "(":
            if depth >= MAX_OPEN:
                raise LimitError("too many brackets are not closed")
            return self.form(depth + 1)
        if _is_number(word):
            return ("num", int(word))
        if is_name(word):
            return ("name", word)
        raise ParseError(at)

    def form(self, depth):
        """Read an expression whose opening bracket has been read, up to its closing one."""
        at, word = self.take()
        if word not in SHAPES or word in ("num", "name"):
            raise ParseError(at)
        things = [word]
        for place in SHAPES[word]:
            if place in EXPRESSION_PLACES:
                things.append(self.expression(depth))
            elif place == "parts":
                things.append(self.parts(depth))
            else:
                things.append(self.single(place))
        self.expect(")")
        return tuple(things)

    def parts(self, depth):
        """Read expressions up to the next closing bracket, which is left."""
        found = []
        while self.words[self.place][1] != ")":
            found.append(self.expression(depth))
        return tuple(found)

    def single(self, place):
        """Read the number, the name or the kind that a place in a form asks for."""
        at, word = self.take()
        if place == "number" and _is_number(word):
            return int(word)
        if place == "name" and is_name(word):
            return word
        if place == "kind" and word in KINDS:
            return word
        raise ParseError(at)

    def expect(self, wanted):
        """Read a word that can be no other one."""
        at, word = self.take()
        if word != wanted:
            raise ParseError(at)

    def take(self):
        """Return the next word with its index, and go on behind it."""
        found = self.words[self.place]
        self.place += 1
        return found
