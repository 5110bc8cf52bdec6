"""Kinds written as texts of one row, and read."""

from sevenruns.asking import ask_text
from sevenruns.errors import InvalidText
from sevenruns.formtexts import form_in, form_line
from sevenruns.kindthings import is_kind
from sevenruns.plaintexts import quotient_word
from sevenruns.words import number_in, quotient_in, whole_in

# What follows the word of a kind.
KIND_FIELDS = {"bare": ("quotient",), "first": ("quotient", "quotient", "tree"), "bent": ()}

# What follows a tree's word, and what follows a number that tells how many of something there are:
# first what comes so many times, then what comes behind all of it.
TREE_FIELDS = {"in": ("number",), "sum": ("wholes",), "product": ("shifts",), "knot": ("sons", "terms")}
COUNTED = {
    "wholes": (("whole", "tree"), ()),
    "shifts": (("quotient", "tree"), ()),
    "sons": (("tree",), ()),
    "terms": (("places",), ()),
    "places": (("number",), ("whole",)),
}

# A tree of forty inputs has no more trees in it, as each node has two sons at least.
MOST_TREES = 79


def kind_line(kind):
    """The kind as a string."""
    if kind[0] == "bare":
        return "bare " + quotient_word(kind[1])
    if kind[0] == "bent":
        return "bent " + form_line(kind[1])
    _, base, scale, tree = kind
    return " ".join(["first", quotient_word(base), quotient_word(scale)] + tree_words(tree))


def tree_words(tree):
    """The list of the words of the tree."""
    if not isinstance(tree, tuple):
        return ["in", str(tree)]
    words = [tree[0], str(len(tree[1]))]
    if tree[0] != "knot":
        for number, son in tree[1]:
            words.append(str(number) if tree[0] == "sum" else quotient_word(number))
            words.extend(tree_words(son))
        return words
    for son in tree[1]:
        words.extend(tree_words(son))
    words.append(str(len(tree[2])))
    for lot, whole in tree[2]:
        words.extend([str(number) for number in (len(lot), *lot, whole)])
    return words


def read_kind(text):
    """The kind that has this text, a string; InvalidText(0, field) if none has."""
    ask_text(text)
    fields = text.split(" ")
    if fields[0] not in KIND_FIELDS:
        raise InvalidText(0, 0)
    kind = ("bent", form_in(fields, 1)) if fields[0] == "bent" else KindReader(read_values(fields)).kind()
    if not is_kind(kind):
        raise InvalidText(0, 0)
    return kind


def read_values(fields):
    """The list of the values of the fields, each of its sort; InvalidText for the first that is not, or is too many."""
    values = [fields[0]]
    # What is still to come, the next one last; a pair stands for what comes so many times.
    wanted = list(reversed(KIND_FIELDS[fields[0]]))
    while wanted:
        sort = wanted.pop()
        if isinstance(sort, tuple):
            repeated, many = sort
            if many > 0:
                wanted.append((repeated, many - 1))
                wanted.extend(list(reversed(repeated)))
        else:
            value = value_in(sort, fields, len(values))
            values.append(value)
            wanted.extend(list(reversed(wanted_behind(sort, value))))
    if len(values) < len(fields):
        raise InvalidText(0, len(values))
    return values


def value_in(sort, fields, at):
    """The value of this sort that field at tells; InvalidText if there is none."""
    if at == len(fields):
        raise InvalidText(0, at)
    field = fields[at]
    if sort == "tree":
        value = field if field in TREE_FIELDS else None
    elif sort == "quotient":
        value = quotient_in(field)
    elif sort == "whole":
        value = whole_in(field)
    else:
        value = number_in(field)
    if value is None:
        raise InvalidText(0, at)
    return value


def wanted_behind(sort, value):
    """What comes behind a field of this sort with this value because of it."""
    if sort == "tree":
        return TREE_FIELDS[value]
    if sort in COUNTED:
        repeated, behind = COUNTED[sort]
        return ((repeated, value), *behind)
    return ()


class KindReader:
    """Values of a text, each of its sort, out of which a kind is put together."""

    def __init__(self, entries):
        self.entries = entries
        self.next_one = 0

    def take(self):
        """The next value."""
        self.next_one += 1
        return self.entries[self.next_one - 1]

    def kind(self):
        """What the values tell, None if it has too many trees for a kind."""
        word = self.take()
        if word == "bare":
            return (word, self.take())
        if len([entry for entry in self.entries if isinstance(entry, str)]) > MOST_TREES + 1:
            return None
        return (word, self.take(), self.take(), self.tree())

    def tree(self):
        """The tree that comes next."""
        word = self.take()
        many = self.take()
        if word == "in":
            return many
        if word == "knot":
            sons = tuple(self.tree() for _ in range(many))
            return (word, sons, tuple(self.term() for _ in range(self.take())))
        return (word, tuple((self.take(), self.tree()) for _ in range(many)))

    def term(self):
        """The term of a knot that comes next."""
        lot = tuple(self.take() for _ in range(self.take()))
        return (lot, self.take())
