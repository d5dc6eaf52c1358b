"""Calls once more, written plainly and apart from the package, to compare with."""


class Node:
    def __init__(self, place, mark=False, flag=False):
        self.place = place
        self.mark = mark
        self.flag = flag
        self.children = {}

    def all_below(self):
        out = [self]
        for child in self.children.values():
            out += child.all_below()
        return out

    def kind(self):
        return self.mark, self.flag, min(2, len(self.children))


def root_node(rows):
    nodes = {}
    for place, mark, flag in sorted(rows, key=lambda row: len(row[0])):
        nodes[place] = Node(place, mark, flag)
        if place:
            nodes[place[:-1]].children[place[-1]] = nodes[place]
    return nodes[""]


def rows_below(root):
    return sorted((node.place, node.mark, node.flag) for node in root.all_below())


class Stop(Exception):
    pass


class End(Exception):
    """The call has ended: by an answer, or by a misuse."""

    def __init__(self, answer=None, kind=None, cut=False):
        self.answer = answer
        self.kind = kind
        self.cut = cut


class Caller:
    """One call; its steps come from the generator steps, and each one is done before it is told."""

    def __init__(self, routine, word):
        self.routine = routine
        self.word = word
        self.x = self.y = False
        self.p = None
        self.answer = self.kind = None
        self.up_from = False

    def next_child(self, node):
        depth = len(node.place)
        return node.children.get(self.word[depth]) if depth < len(self.word) else None

    def test(self, test, node):
        name = test[0]
        child = self.next_child(node)
        if name == "not":
            return not self.test(test[1], node)
        if name in ("and", "or"):
            held = [self.test(one, node) for one in test[1:]]
            return all(held) if name == "and" else any(held)
        if name == "others":
            return min(2, len([one for one in node.children.values() if one is not child])) == test[1]
        return {
            "mark": node.mark, "f": node.flag, "x": self.x, "y": self.y, "root": node.place == "",
            "ends": len(node.place) == len(self.word), "next": child is not None, "p": self.p is not None,
            "here": self.p is node, "true": True,
        }[name]

    def block(self, block, node):
        for statement in block:
            getattr(self, "do_" + statement[0])(statement, node)

    def do_if(self, statement, node):
        self.block(statement[2] if self.test(statement[1], node) else statement[3], node)

    def do_mark(self, _, node):
        node.mark = True

    def do_unmark(self, _, node):
        node.mark = False

    def do_set(self, statement, node):
        if statement[1] == "f":
            node.flag = statement[2]
        else:
            setattr(self, statement[1], statement[2])

    def do_make(self, _, node):
        if self.next_child(node) is not None:
            raise End(kind="there")
        letter = self.word[len(node.place)]
        node.children[letter] = Node(node.place + letter)

    def do_cut(self, _, node):
        if self.next_child(node) is None:
            raise End(kind="none")
        del node.children[self.word[len(node.place)]]

    def do_keep(self, _, node):
        self.p = node

    def do_stop(self, _, node):
        raise Stop()

    def do_return(self, statement, node):
        cut = len(statement) == 3
        if cut and self.p is None:
            raise End(kind="p")
        told = {"yes": "yes", "no": "no", "node": node, "p": self.p}[statement[1]]
        raise End(answer=told, cut=cut)

    def at_lowest(self, node):
        """Do the block down and, if the call stays, the block turn; the child to go to, or None."""
        stays = len(node.place) == len(self.word)
        if not stays:
            try:
                self.block(self.routine.down, node)
            except Stop:
                stays = True
        if stays or self.next_child(node) is None:
            self.block(self.routine.turn, node)
            return None
        return self.next_child(node)

    def steps(self, node, kept=None):
        """From this node on; a call that is begun below the root ends when it has come up from there."""
        self.p = kept
        passed = [node]
        try:
            while True:
                way = "down"
                child = self.at_lowest(passed[-1])
                if child is None:
                    break
                yield passed[-1].place, way
                passed.append(child)
            if self.routine.up:
                while len(passed) > 1:
                    yield passed.pop().place, way
                    way = "up"
                    self.block(self.routine.up, passed[-1])
                self.up_from = True
            yield passed[-1].place, way
        except Stop:
            yield passed[-1].place, way
        except End as end:
            self.kind, self.answer = end.kind, end.answer
            yield passed[-1].place, way
            if end.cut:
                if not self.cut_at_p():
                    self.kind, self.answer = "none", None
                yield self.p.place, "cut"

    def cut_at_p(self):
        if self.next_child(self.p) is None:
            return False
        del self.p.children[self.word[len(self.p.place)]]
        return True

    def told_answer(self):
        return ("at", self.answer.place) if isinstance(self.answer, Node) else self.answer


def reference_play(tree, routine, word):
    """(steps, answer, kind, rows) of a call."""
    root = root_node(tree.rows)
    caller = Caller(routine, word)
    steps = tuple(caller.steps(root))
    return steps, caller.told_answer(), caller.kind, rows_below(root)


def reference_woven(tree, one, word, other, second, order):
    """(steps, answers, kinds, rows) of two calls, None if the order names a call that has ended."""
    root = root_node(tree.rows)
    callers = {"a": Caller(one, word), "b": Caller(other, second)}
    running = {name: caller.steps(root) for name, caller in callers.items()}
    steps = []
    for sign in order:
        step = next(running[sign], None)
        if step is None:
            return None
        steps.append((sign,) + step)
    for sign in "ab":
        steps += [(sign,) + step for step in running[sign]]
    both = [callers[sign] for sign in "ab"]
    return tuple(steps), tuple(one.told_answer() for one in both), tuple(one.kind for one in both), rows_below(root)


def reference_rest(rule, tree, routine, word, depth, entry, whole=False):
    """The outcome of a call that goes down to the place of so many letters with this entry, as a table tells it.

    If this place is out it is made first, for the call has just done so.
    """
    root = root_node(tree.rows)
    passed = [root]
    for letter in word[:depth]:
        passed[-1].children.setdefault(letter, Node(passed[-1].place + letter))
        passed.append(passed[-1].children[letter])
    first = passed[-1]
    caller = Caller(routine, word)
    caller.x, caller.y, kept = entry
    marked = [row[0] for row in tree.rows if row[1] and word.startswith(row[0]) and depth <= len(row[0]) < len(word)]
    below = [row[0] for row in tree.rows if row[1] and row[0].startswith(word[:depth]) and row[0] != word]

    def told(node):
        if not isinstance(node, Node):
            return node or "none"
        if len(node.place) < depth:
            return "above"
        if node.place == word:
            return "end"
        return "last" if marked and node.place == max(marked, key=len) else "other"

    how = None
    running = caller.steps(first, passed[-2] if kept else None)
    for place, way in running:
        if way == "down" or way == "up":
            continue
        if len(place) < depth:
            # The generator has done the cut above; the rest is told as if it still hung there.
            how = ("cut", told(caller.answer))
    if how is None and caller.kind is not None:
        how = ("misuse", caller.kind)
    if how is None and caller.up_from:
        how = ("up", caller.x, caller.y, told(caller.p))
    if how is None:
        how = ("end", told(caller.answer))
    if whole and how[0] == "up":
        how = ("end", "none")
    nodes = first.all_below()
    kept = [node.place for node in nodes if node.mark]
    kinds = rule.root if whole else rule.others
    all_let = all(node.kind() in (kinds if node is first else rule.others) for node in nodes)
    same = sorted(place for place in kept if place != word) == sorted(below)
    return how, word in kept, same, all_let


def reference_before(tree, word, depth):
    """The five bools of the table of the rest from the place of so many letters on, told by the tree's words."""
    words = tree.words()
    first = word[:depth]
    return (
        tree.has(first), word in words,
        any(kept.startswith(first) and kept != word for kept in words),
        any(kept.startswith(first) and word.startswith(kept) and kept != word for kept in words),
        any(kept.startswith(word) for kept in words),
    )
