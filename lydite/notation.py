"""The notation of terms: reading and writing texts (points 7 and 8)."""

from lydite.errors import BadNames, BadText
from lydite.terms import checked, depths

LETTERS = "abcdefghijklmnopqrstuvwxyz"
DIGITS = "0123456789"
SIGNS = "\\.()"
MOST_LENGTH = 10
MOST_OPEN = 60


def name_end(text, start):
    """Return the index behind the name that begins at an index. Raise BadText."""
    end = start + 1
    while end < len(text) and text[end] in DIGITS:
        if end - start == MOST_LENGTH:
            raise BadText(end)
        end += 1
    return end


def token_end(text, start):
    """Return the index behind the token that begins at an index. Raise BadText."""
    if text[start] in LETTERS:
        return name_end(text, start)
    if text[start] in SIGNS:
        return start + 1
    raise BadText(start)


class Level:
    """A term that is being read: the whole one, or one behind its opener."""

    def __init__(self, opener):
        self.opener = opener
        self.naming = opener == "\\"
        self.names = []
        self.parts = 0
        self.nodes = []

    def is_whole(self):
        """Return True if the term can end here."""
        return not self.naming and self.parts > 0

    def add_part(self, nodes):
        """Add a part to which the parts before it are applied."""
        self.parts += 1
        self.nodes.extend(nodes)

    def all_nodes(self):
        """Return the nodes of the term, with the abstractions of its names."""
        return ["lam"] * len(self.names) + ["app"] * (self.parts - 1) + self.nodes


class Reader:
    """Reads a text token by token, and raises BadText at the first fault."""

    def __init__(self, names):
        self.numbers = {}
        for number, name in enumerate(names):
            self.numbers.setdefault(name, number)
        # For each name, the depths of the abstractions that bear it here.
        self.bound = {}
        self.depth = 0
        self.levels = [Level("")]

    def read(self, token, at):
        """Read the token that begins at an index."""
        if token == "(" or token == "\\":
            self.read_opener(token, at)
        elif token == ".":
            self.read_period(at)
        elif token == ")":
            self.read_closing(at)
        else:
            self.read_name(token, at)

    def read_opener(self, token, at):
        """Begin a new level. The level of the whole text has no opener."""
        if self.levels[-1].naming or len(self.levels) > MOST_OPEN:
            raise BadText(at)
        self.levels.append(Level(token))

    def read_period(self, at):
        """End the names of an abstraction."""
        level = self.levels[-1]
        if not level.naming or len(level.names) == 0:
            raise BadText(at)
        level.naming = False

    def read_closing(self, at):
        """End the innermost term in parentheses."""
        self.end_abstractions(at)
        if self.levels[-1].opener != "(":
            raise BadText(at)
        self.end_level()

    def read_name(self, name, at):
        """Bind a name, or add the variable for which it stands."""
        level = self.levels[-1]
        if level.naming:
            level.names.append(name)
            self.bound.setdefault(name, []).append(self.depth)
            self.depth += 1
        else:
            level.add_part([self.variable(name, at)])

    def variable(self, name, at):
        """Return the variable for which a name stands. Raise BadText."""
        around = self.bound.get(name, [])
        if len(around) > 0:
            return self.depth - 1 - around[-1]
        if name not in self.numbers:
            raise BadText(at)
        return self.depth + self.numbers[name]

    def end_abstractions(self, at):
        """End all abstractions that are open in the innermost parentheses."""
        if not self.levels[-1].is_whole():
            raise BadText(at)
        while self.levels[-1].opener == "\\":
            self.end_level()

    def end_level(self):
        """Make the term of the last level a part of the level around it."""
        level = self.levels.pop()
        for name in level.names:
            self.bound[name].pop()
        self.depth -= len(level.names)
        self.levels[-1].add_part(level.all_nodes())

    def finish(self, at):
        """Return the nodes of the whole text, which ends at an index."""
        self.end_abstractions(at)
        if len(self.levels) > 1:
            raise BadText(at)
        return self.levels[0].all_nodes()


def parse(text, names):
    """Return the term of a text. Raise BadText, TooLarge."""
    reader = Reader(names)
    at = 0
    while at < len(text):
        if text[at] == " ":
            at += 1
        else:
            end = token_end(text, at)
            reader.read(text[at:end], at)
            at = end
    return checked(tuple(reader.finish(len(text))))


def is_name(value):
    """Return True if the value is a name of point 7."""
    if not isinstance(value, str) or not 1 <= len(value) <= MOST_LENGTH:
        return False
    if value[0] not in LETTERS:
        return False
    return all(character in DIGITS for character in value[1:])


def name_table(names):
    """Return the dict with the free names as its keys. Raise BadNames."""
    table = {}
    for name in names:
        if not is_name(name):
            raise BadNames("a free name is no name")
        if name in table:
            raise BadNames("two free names are equal")
        table[name] = True
    return table


def numbered_name(number):
    """Return a name of the list a, b, ..., z, a1, ..., z1, a2, ...."""
    letter = LETTERS[number % len(LETTERS)]
    rounds = number // len(LETTERS)
    if rounds == 0:
        return letter
    return f"{letter}{rounds}"


def bound_names(count, taken):
    """Return so many names for abstractions, without those that are taken."""
    found = []
    number = 0
    while len(found) < count:
        name = numbered_name(number)
        if name not in taken:
            found.append(name)
        number += 1
    return found


def written_variable(number, depth, bound, names):
    """Return the name of a variable at a place of a depth. Raise BadNames."""
    if number < depth:
        return bound[depth - 1 - number]
    if number - depth >= len(names):
        raise BadNames("a free variable has no free name")
    return names[number - depth]


def is_abstraction(text):
    """Return True if a written term is an abstraction."""
    return text.startswith("\\")


def written_abstraction(name, body):
    """Return the text of an abstraction, with the text of its body."""
    if is_abstraction(body):
        return "\\" + name + " " + body[1:]
    return "\\" + name + ". " + body


def written_application(function, argument):
    """Return the text of an application, with the texts of its parts."""
    if is_abstraction(function):
        function = f"({function})"
    # Every written term except a variable has a space in it.
    if " " in argument:
        argument = f"({argument})"
    return f"{function} {argument}"


def show(term, names):
    """Return the text of a term. Raise BadNames."""
    bound = bound_names(term.count("lam"), name_table(names))
    written = []
    # The nodes from the last one on, so that the parts of each are written.
    for node, depth in reversed(list(zip(term, depths(term)))):
        if node == "lam":
            written.append(written_abstraction(bound[depth], written.pop()))
        elif node == "app":
            function = written.pop()
            written.append(written_application(function, written.pop()))
        else:
            written.append(written_variable(node, depth, bound, names))
    return written.pop()
