"""Reads the text of a plan into its forms (see forms.py)."""

from callplans.errors import InvalidText
from callplans.forms import PAIR_WORDS, plans_within

MOST_LETTERS = 8
MOST_TRIES = 8
GREATEST_NUMBER = 1000000000
# What a reader may expect next; PAIR is the word between the two plans of a pair.
PLAN = "plan"
PAIR = "pair"
END = "end"


def words_of(text):
    """Returns the words and parentheses of a text; a blank or parenthesis in a wrong place gives a word of no form."""
    words = []
    for piece in text.split(" "):
        opened = piece.lstrip("(")
        word = opened.rstrip(")")
        words.extend(["("] * (len(piece) - len(opened)))
        words.append(word)
        words.extend([")"] * (len(opened) - len(word)))
    return words


def is_name(word):
    """Tells whether a word is a name."""
    return word.isascii() and word.isalpha() and word.islower() and len(word) <= MOST_LETTERS


def number_of(word, least, most):
    """Returns the number that a word writes, from least to most and without leading zeros."""
    # The length comes first, since Python refuses to read very long numbers.
    if not word.isascii() or not word.isdigit() or len(word) > len(str(most)):
        raise InvalidText("a number is expected")
    number = int(word)
    if str(number) != word or not least <= number <= most:
        raise InvalidText("this number is not allowed")
    return number


class Reader:
    """Reads the forms of a plan from the words of its text, first word first."""

    def __init__(self, text):
        # Both lists have what comes next at their end.
        self.words = words_of(text)[::-1]
        self.expected = [PLAN]
        self.forms = []
        # The places in forms of the pairs whose word is not read yet.
        self.pairs = []

    def read_all(self):
        """Returns the tuple of the forms."""
        while self.expected:
            self.read(self.expected.pop())
        if self.words:
            raise InvalidText("the text goes on behind its plan")
        return tuple(self.forms)

    def read(self, expected):
        """Reads what is expected next."""
        if expected == PLAN:
            self.read_plan()
        elif expected == PAIR:
            self.read_pair_word()
        elif self.next_word() != ")":
            raise InvalidText("a closing parenthesis is expected")

    def read_plan(self):
        """Reads the beginning of a plan, up to the plans within it."""
        word = self.next_word()
        if word == "(":
            # The form of a pair stands ahead of its plans, but its word comes later in the text.
            self.pairs.append(len(self.forms))
            self.forms.append(())
            self.expected.extend([END, PLAN, PAIR, PLAN])
        else:
            form = self.read_form(word)
            self.forms.append(form)
            self.expected.extend([PLAN] * plans_within(form))

    def read_pair_word(self):
        """Reads the word between the two plans of the innermost pair that has none yet."""
        word = self.next_word()
        if word not in PAIR_WORDS:
            raise InvalidText("a word between two plans is expected")
        self.forms[self.pairs.pop()] = (word,)

    def read_form(self, word):
        """Returns the form that begins with a word."""
        if word == "call":
            return (word, self.read_name())
        if word == "pause":
            return (word, self.read_number())
        if word == "within":
            return (word, self.read_limit())
        if word == "retry":
            tries = number_of(self.next_word(), 1, MOST_TRIES)
            return (word, tries, self.read_number())
        if word != "fail" and word != "hole":
            raise InvalidText("a plan is expected")
        return (word,)

    def read_name(self):
        """Returns the name that comes next."""
        word = self.next_word()
        if not is_name(word):
            raise InvalidText("a name is expected")
        return word

    def read_number(self):
        """Returns the number N that comes next."""
        return number_of(self.next_word(), 0, GREATEST_NUMBER)

    def read_limit(self):
        """Returns the number or the mark of a within, which comes next."""
        if self.words and self.words[-1] == "?":
            return self.next_word()
        return self.read_number()

    def next_word(self):
        """Returns the word that comes next, and goes on behind it."""
        if not self.words:
            raise InvalidText("the text ends too early")
        return self.words.pop()
