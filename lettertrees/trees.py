"""Trees whose places are told by words over some letters."""

from lettertrees.errors import BadLetters, BadRow, BadWord, Lone, NoPlace, TooMany

ALPHABET = "abcdefghijklmnopqrstuvwxyz"
LONGEST_WORD = 200
MOST_PLACES = 2000


def is_letters(letters):
    """Whether any value is a string of 2 to 26 different small letters."""
    if not isinstance(letters, str) or not 2 <= len(letters) <= len(ALPHABET):
        return False
    return len(set(letters)) == len(letters) and all([letter in ALPHABET for letter in letters])


def check_letters(letters):
    """Raise BadLetters for any value that is no letters."""
    if not is_letters(letters):
        raise BadLetters(letters)


def is_word(letters, word):
    """Whether any value is a word over the letters."""
    if not isinstance(word, str) or len(word) > LONGEST_WORD:
        return False
    return all([letter in letters for letter in word])


def check_words(letters, words):
    """Raise BadWord for the first element that is no word over the letters or stands before."""
    known = {}
    for number, word in enumerate(words):
        if not is_word(letters, word) or word in known:
            raise BadWord(number)
        known[word] = True


def check_places(many):
    """Raise TooMany where a tree cannot have so many places."""
    if not 1 <= many <= MOST_PLACES:
        raise TooMany("places", many, MOST_PLACES)


def in_order(letters, words):
    """The list of the words, letter by letter by the order of letters."""
    ranks = {letter: ALPHABET[rank] for rank, letter in enumerate(letters)}
    return sorted(words, key=lambda word: "".join([ranks[sign] for sign in word]))


def is_row(letters, row):
    """Whether any value is a triple (place, mark, flag)."""
    if not isinstance(row, (tuple, list)) or len(row) != 3:
        return False
    return is_word(letters, row[0]) and isinstance(row[1], bool) and isinstance(row[2], bool)


def table_of(letters, rows):
    """A dict from the places to their rows; BadRow for the first element that is wrong."""
    table = {}
    for number, row in enumerate(rows):
        if not is_row(letters, row) or row[0] in table:
            raise BadRow(number)
        table[row[0]] = tuple(row)
    return table


def letters_below(places):
    """A dict from the places, which are in order, to the letters of their children; Lone where a parent lacks."""
    below = {place: "" for place in places}
    for place in places:
        if place != "":
            parent = place[:-1]
            if parent not in below:
                raise Lone(place)
            below[parent] += place[-1]
    return below


def shared(one, other):
    """How many letters both words begin with."""
    most = min(len(one), len(other))
    for at in range(most):
        if one[at] != other[at]:
            return at
    return most


def number_of_beginnings(words):
    """How many different beginnings the words have, the empty one counted.

    They are counted without being kept: there may be far more than a tree can have.
    """
    many = 1
    last = ""
    for word in sorted(words):
        many += len(word) - shared(last, word)
        last = word
    return many


def marks_of(words):
    """A dict from all beginnings of the words to whether they are one of the words."""
    marks = {"": False}
    for word in words:
        for length in range(1, len(word)):
            marks.setdefault(word[:length], False)
        marks[word] = True
    return marks


class Tree:
    """A tree of places, each with a mark or none and a flag or none."""

    def __init__(self, letters, rows):
        check_letters(letters)
        check_places(len(rows))
        table = table_of(letters, rows)
        places = in_order(letters, list(table))
        self._below = letters_below(places)
        self._table = table
        self.letters = letters
        self.rows = tuple([table[place] for place in places])
        self.size = len(places)
        self.height = max([len(place) for place in places])

    @classmethod
    def of(cls, letters, words):
        """The tree without flags of the beginnings of the words, which are marked."""
        check_letters(letters)
        check_words(letters, words)
        check_places(number_of_beginnings(words))
        marks = marks_of(words)
        return cls(letters, [(place, marks[place], False) for place in marks])

    def __eq__(self, other):
        return isinstance(other, Tree) and self.letters == other.letters and self.rows == other.rows

    def has(self, place):
        """Whether any value is a place that is there."""
        return isinstance(place, str) and place in self._table

    def row(self, place):
        """The triple (place, mark, flag)."""
        if not self.has(place):
            raise NoPlace(place)
        return self._table[place]

    def below(self, place):
        """The letters, in their order, by which children follow."""
        if not self.has(place):
            raise NoPlace(place)
        return self._below[place]

    def words(self):
        """The kept words, in order."""
        return tuple([row[0] for row in self.rows if row[1]])
