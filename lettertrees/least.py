"""Least ways through what comes up step by step."""

from heapq import heappop, heappush

GOAL = ("goal",)


class Least:
    """The least ways to all that comes up, or until GOAL comes up.

    starts is a list of (cost, label, what comes up first); onward tells such a list for what has come up. All that
    comes up can be a key of a dict.
    """

    def __init__(self, starts, onward):
        # For each one that has come up: its cost, the label of the last step, and what was there ahead of it.
        self.reached = {}
        self.queue = []
        self.number = 0
        self.extend_by(starts, 0, None)
        while self.queue and GOAL not in self.reached:
            cost, _, label, node, behind = heappop(self.queue)
            if node not in self.reached:
                self.reached[node] = (cost, label, behind)
                if node != GOAL:
                    self.extend_by(onward(node), cost, node)

    def extend_by(self, steps, cost, behind):
        for more, label, node in steps:
            if node not in self.reached:
                # The number tells them apart, so that labels are not compared.
                heappush(self.queue, (cost + more, self.number, label, node, behind))
                self.number += 1

    def labels(self, node):
        """The labels of a least way to a node, the first one first; None if it has not come up."""
        if node not in self.reached:
            return None
        out = []
        while node is not None:
            _, label, node = self.reached[node]
            out.append(label)
        return out[::-1]
