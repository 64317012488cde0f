"""Kinds whose parts are shared, because written out they may be far too large."""

from lydite.errors import NoKind
from lydite.places import end_of
from lydite.terms import MOST_NODES


class KindGraph:
    """Nodes that stand for kinds and can be made the same.

    Nodes are numbered from 0 on. `chiefs` has for each node one that stands for
    the same kind; following it leads to a node that is its own chief. `sides`
    has for such a node both sides of its "to", or None for a variable.
    """

    def __init__(self):
        self.chiefs = []
        self.sides = []

    def new_node(self, sides):
        """Return a new node: a "to" with these sides, or a variable for None."""
        self.chiefs.append(len(self.chiefs))
        self.sides.append(sides)
        return len(self.sides) - 1

    def loaded(self, kind, variables):
        """Return a node for a kind. The dict has the nodes of its variables."""
        pending = []
        for node in reversed(kind):
            if node == "to":
                left = pending.pop()
                pending.append(self.new_node((left, pending.pop())))
            else:
                if node not in variables:
                    variables[node] = self.new_node(None)
                pending.append(variables[node])
        return pending.pop()

    def chief(self, node):
        """Return the node that stands for all that have been made the same."""
        while self.chiefs[node] != node:
            # Later calls have a shorter way.
            self.chiefs[node] = self.chiefs[self.chiefs[node]]
            node = self.chiefs[node]
        return node

    def unite(self, first, second):
        """Make two nodes the same, and so the nodes that they lead to."""
        pending = [(first, second)]
        while len(pending) > 0:
            one, two = pending.pop()
            one = self.chief(one)
            two = self.chief(two)
            if one != two and self.sides[one] is None:
                self.chiefs[one] = two
            elif one != two:
                self.chiefs[two] = one
                if self.sides[two] is not None:
                    pending.extend(list(zip(self.sides[one], self.sides[two])))

    def sides_of(self, node):
        """Return the list of the chiefs that a chief leads to."""
        if self.sides[node] is None:
            return []
        return [self.chief(side) for side in self.sides[node]]

    def ordered(self):
        """Return the list of all chiefs, each in front of those that it leads to.

        Raise NoKind if a kind would contain itself.
        """
        every = [node for node, top in enumerate(self.chiefs) if node == top]
        # How often a chief is led to by those that are not in the result yet.
        missing = {node: 0 for node in every}
        for node in every:
            for side in self.sides_of(node):
                missing[side] += 1
        found = [node for node in every if missing[node] == 0]
        at = 0
        while at < len(found):
            sides = self.sides_of(found[at])
            at += 1
            for side in sides:
                missing[side] -= 1
                if missing[side] == 0:
                    found.append(side)
        if len(found) < len(every):
            raise NoKind("a kind would contain itself")
        return found

    def sizes(self):
        """Return a dict with the size of the kind of each chief. Raise NoKind.

        What is too large counts MOST_NODES + 1.
        """
        found = {}
        for node in reversed(self.ordered()):
            size = 1 + sum([found[side] for side in self.sides_of(node)])
            found[node] = min(size, MOST_NODES + 1)
        return found

    def written(self, node):
        """Return the kind for which a node stands, with chiefs as its variables."""
        nodes = []
        pending = [node]
        while len(pending) > 0:
            current = self.chief(pending.pop())
            if self.sides[current] is None:
                nodes.append(current)
            else:
                nodes.append("to")
                pending.extend(self.sides_of(current)[::-1])
        return tuple(nodes)

    def is_general(self, node, kind, parts):
        """Return True if a kind is what becomes of the kind for which a node stands.

        The dict has the parts of kinds that stand in place of its variables.
        """
        at = 0
        pending = [node]
        while len(pending) > 0:
            current = self.chief(pending.pop())
            if self.sides[current] is None:
                end = end_of(kind, at)
                if parts.setdefault(current, kind[at:end]) != kind[at:end]:
                    return False
                at = end
            elif kind[at] != "to":
                return False
            else:
                pending.extend(self.sides_of(current)[::-1])
                at += 1
        return True
