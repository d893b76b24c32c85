"""Ground words with all their parts, and atoms, as numbers."""

from eithershown.closing import Closing
from eithershown.kinds import unlike
from eithershown.writing import written


def all_parts(word):
    """The word and all its parts."""
    told = [word]
    for part in word[1:]:
        told.extend(all_parts(part))
    return told


def unlike_words(words):
    """The words once, ascending."""
    texts = {written(word): word for word in words}
    return [texts[text] for text in sorted(texts)]


class WordNodes:
    """Ground words as nodes with heads and parts; each word's parts are among them."""

    def __init__(self, words):
        self.words = words
        self.indexes = {written(word): index for index, word in enumerate(words)}
        self.heads = [(word[0], len(word)) for word in words]
        self.parts = [self.parts_of(word) for word in words]

    def node_of(self, word):
        return self.indexes[written(word)]

    def parts_of(self, word):
        return [self.node_of(part) for part in word[1:]]

    def closing(self):
        return Closing(self.heads, self.parts)


class GroundSet:
    """The words and the atoms that stand in ground clauses. Atoms but equalities are nodes, too, behind the words."""

    def __init__(self, clauses):
        atoms = {}
        words = []
        for clause in clauses:
            for _, atom in clause:
                if written(atom) not in atoms:
                    atoms[written(atom)] = atom
                    words.extend([part for word in atom[1:] for part in all_parts(word)])
        self.numbers = {text: number for number, text in enumerate(atoms)}
        self.atoms = [atoms[text] for text in atoms]
        self.nodes = WordNodes(unlike_words(words))
        self.words = self.nodes.words
        # Of each equality the nodes of both words, of each other atom its own node.
        self.ends = [None] * len(self.atoms)
        self.atom_nodes = [None] * len(self.atoms)
        for number, atom in enumerate(self.atoms):
            if atom[0] == "=":
                self.ends[number] = tuple(self.nodes.parts_of(atom))
            else:
                self.atom_nodes[number] = len(self.nodes.heads)
                self.nodes.heads.append((atom[0], len(atom)))
                self.nodes.parts.append(self.nodes.parts_of(atom))

    def number_of(self, atom):
        return self.numbers[written(atom)]

    def coded(self, clause):
        """The clause's literals as numbers: twice the atom's, one more for a denial."""
        return [2 * self.number_of(atom) + (0 if is_so else 1) for is_so, atom in unlike(clause)]
