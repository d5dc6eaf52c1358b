"""Calls under way, step by step, over places that can be changed."""

from lettertrees.doing import GO_DOWN, come_down, do_block
from lettertrees.trees import Tree


class Place:
    """A place as it is now; it has its children itself, so that a part that was cut off goes on to hang together."""

    def __init__(self, word, mark, flag):
        self.word = word
        self.mark = mark
        self.flag = flag
        self.children = {}


def root_of(tree):
    """The root of fresh places that are as those of a tree."""
    places = {}
    for word, mark, flag in tree.rows:
        places[word] = Place(word, mark, flag)
        if word != "":
            # A parent comes ahead of its children, for rows are in order.
            places[word[:-1]].children[word[-1]] = places[word]
    return places[""]


def tree_below(letters, root):
    """The tree of the places that hang below a root."""
    rows = []
    ahead = [root]
    while ahead:
        place = ahead.pop()
        rows.append((place.word, place.mark, place.flag))
        ahead.extend(list(place.children.values()))
    return Tree(letters, rows)


class Call:
    """A call of a routine: the places that it came down, its variables, and which way its next step is."""

    def __init__(self, routine, word, root):
        self.routine = routine
        self.word = word
        self.passed = [root]
        self.x = False
        self.y = False
        self.kept = None
        # None when the call has ended.
        self.ahead = "down"
        self.answer = None
        self.kind = None

    def step(self):
        """Do the next step; the word of its place, and its way."""
        way = self.ahead
        if way == "cut":
            self.cut_at_kept()
            return self.kept.word, way
        place = self.passed[-1]
        facts = self.facts_at(place)
        if way == "down":
            ending = come_down(self.routine, facts)
        else:
            ending = do_block(self.routine.up, facts)
        self.leave(place, facts)
        self.go_on(place, ending)
        return place.word, way

    def letter_at(self, place):
        """The letter of the next child; "" at the end of the word, where no child is by it."""
        length = len(place.word)
        return self.word[length:length + 1]

    def facts_at(self, place):
        letter = self.letter_at(place)
        follows = letter in place.children
        others = len(place.children) - 1 if follows else len(place.children)
        return {
            "mark": place.mark, "f": place.flag, "x": self.x, "y": self.y, "root": place.word == "",
            "ends": letter == "", "next": follows, "others": min(2, others),
            "p": self.kept is not None, "here": self.kept == place, "true": True,
        }

    def leave(self, place, facts):
        """Carry over what was done at a place."""
        place.mark = facts["mark"]
        place.flag = facts["f"]
        self.x = facts["x"]
        self.y = facts["y"]
        if facts["here"]:
            self.kept = place
        letter = self.letter_at(place)
        if not facts["next"]:
            place.children.pop(letter, None)
        elif letter not in place.children:
            place.children[letter] = Place(place.word + letter, False, False)

    def go_on(self, place, ending):
        """Go where the next step is, if there is one."""
        if ending == GO_DOWN:
            self.passed.append(place.children[self.letter_at(place)])
        elif ending is None:
            self.go_up()
        elif ending[0] == "return":
            self.give(place, ending)
        else:
            self.ahead = None
            if ending[0] == "misuse":
                self.kind = ending[1]

    def go_up(self):
        self.passed.pop()
        self.ahead = "up" if self.routine.up and self.passed else None

    def give(self, place, ending):
        """Return, with the cut at p as a step of its own."""
        cuts = len(ending) == 3
        if cuts and self.kept is None:
            self.kind = "p"
        else:
            self.answer = self.answer_of(place, ending[1])
        self.ahead = "cut" if cuts and self.kind is None else None

    def answer_of(self, place, name):
        if name in ("yes", "no"):
            return name
        told = place if name == "node" else self.kept
        return None if told is None else ("at", told.word)

    def cut_at_kept(self):
        self.ahead = None
        letter = self.letter_at(self.kept)
        if letter in self.kept.children:
            self.kept.children.pop(letter)
        else:
            self.kind = "none"
            self.answer = None
