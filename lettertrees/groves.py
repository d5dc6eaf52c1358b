"""Great trees, told by rules: what stands often is told once."""

from lettertrees.calls import Call, Place
from lettertrees.errors import BadRank, BadWord, NoPlace, NoRule, Ring, TooMany
from lettertrees.naming import (
    all_below, bottom_up, check_number, check_rules, copied, first_on_ring, fresh_names, parts_of)
from lettertrees.trees import LONGEST_WORD, MOST_PLACES, Tree, check_letters, is_word


class Grove:
    """A tree that is told by rules."""

    def __init__(self, letters, rules, root):
        check_letters(letters)
        check_rules(letters, rules)
        self._rules = copied(rules)
        names = bottom_up(self._rules)
        if len(names) < len(self._rules):
            above = {name: True for name in names}
            raise Ring(first_on_ring(self._rules, [name for name in self._rules if name not in above]))
        if not isinstance(root, str) or root not in self._rules:
            raise NoRule(root)
        heights, self._sizes, self._manys = {}, {}, {}
        for name in names:
            parts = parts_of(self._rules, name)
            heights[name] = max([0] + [heights[part] + 1 for part in parts])
            self._sizes[name] = sum([self._sizes[part] for part in parts]) + 1
            self._manys[name] = sum([self._manys[part] for part in parts]) + (1 if self._rules[name][0] else 0)
        if heights[root] > LONGEST_WORD:
            raise TooMany("letters", heights[root], LONGEST_WORD)
        self.letters = letters
        self.root = root
        self.size = self._sizes[root]
        self.many = self._manys[root]

    @property
    def rules(self):
        """A dict from the names to their triples, new with each access."""
        return copied(self._rules)

    def way(self, word):
        """The names along the way of a word, as far as there are places."""
        names = [self.root]
        for letter in word:
            parts = self._rules[names[-1]][2]
            if letter not in parts:
                break
            names.append(parts[letter])
        return names

    def has(self, place):
        """Whether any value is a place that is there."""
        return isinstance(place, str) and len(self.way(place)) == len(place) + 1

    def name_at(self, place):
        """The name that stands at a place; NoPlace for any value that is none."""
        if not self.has(place):
            raise NoPlace(place)
        return self.way(place)[-1]

    def row(self, place):
        """The triple (place, mark, flag)."""
        mark, flag, _ = self._rules[self.name_at(place)]
        return place, mark, flag

    def below(self, place):
        """The letters, in their order, by which children follow."""
        parts = self._rules[self.name_at(place)][2]
        return "".join([letter for letter in self.letters if letter in parts])

    def check_word(self, word):
        """Raise BadWord for any value that is no word over the letters."""
        if not is_word(self.letters, word):
            raise BadWord(0)

    def begins(self, word):
        """How many kept words begin with this one."""
        self.check_word(word)
        return self._manys[self.way(word)[-1]] if self.has(word) else 0

    def many_ahead(self, name, letter):
        """How many kept words end at a place or go on by a letter ahead of this one."""
        mark, _, parts = self._rules[name]
        ahead = self.letters[:self.letters.index(letter)]
        return (1 if mark else 0) + sum([self._manys[parts[sign]] for sign in ahead if sign in parts])

    def rank(self, word):
        """How many kept words come ahead of this one, in order."""
        self.check_word(word)
        return sum([self.many_ahead(name, letter) for name, letter in zip(self.way(word), word)])

    def word_of(self, rank):
        """The kept word of this rank."""
        if not isinstance(rank, int) or isinstance(rank, bool) or not 0 <= rank < self.many:
            raise BadRank(rank)
        name, word, left = self.root, "", rank
        while not self._rules[name][0] or left > 0:
            parts = self._rules[name][2]
            # Where no words lie below a letter the next one has as many ahead.
            letter = [sign for sign in self.letters if sign in parts and self.many_ahead(name, sign) <= left][-1]
            left = left - self.many_ahead(name, letter)
            name, word = parts[letter], word + letter
        return word

    def unfolded(self):
        """The Tree."""
        if self.size > MOST_PLACES:
            raise TooMany("places", self.size, MOST_PLACES)
        rows = []
        ahead = [("", self.root)]
        while ahead:
            place, name = ahead.pop()
            mark, flag, parts = self._rules[name]
            rows.append((place, mark, flag))
            ahead.extend([(place + letter, parts[letter]) for letter in parts])
        return Tree(self.letters, rows)

    def call(self, routine, word):
        """The answer and the misuse of a call, and the grove behind it."""
        self.check_word(word)
        names = self.way(word)
        call = Call(routine, word, self.root_along(names, word))
        root = call.passed[0]
        while call.ahead is not None:
            call.step()
        places = [root]
        for letter in word:
            if letter not in places[-1].children:
                break
            places.append(places[-1].children[letter])
        return call.answer, call.kind, self.with_way(names, word, places)

    def root_along(self, names, word):
        """The root of places along the way; of the children off the way it is only told that they are there."""
        root, last = None, None
        for depth, name in enumerate(names):
            mark, flag, parts = self._rules[name]
            place = Place(word[:depth], mark, flag)
            place.children = {letter: None for letter in parts}
            if root is None:
                root = place
            else:
                last.children[word[depth - 1]] = place
            last = place
        return root

    def with_way(self, names, word, places):
        """The grove in which these places stand along the way, each one with the children off the way that it had."""
        beside = []
        for depth in range(len(places)):
            parts = self._rules[names[depth]][2] if depth < len(names) else {}
            beside.append({letter: parts[letter] for letter in parts if letter != word[depth:depth + 1]})
        kept = all_below(self._rules, [parts[letter] for parts in beside for letter in parts])
        check_number(len(places) + len(kept))
        own = fresh_names(kept, len(places))
        rules = {}
        for depth, place in enumerate(places):
            parts = beside[depth]
            if depth + 1 < len(places):
                parts[word[depth]] = own[depth + 1]
            rules[own[depth]] = (place.mark, place.flag, parts)
        for name in kept:
            rules[name] = self._rules[name]
        return Grove(self.letters, rules, own[0])
