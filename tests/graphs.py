"""What the tests share: graphs, configurations, wrong inputs, and slow answers found in another way."""

import itertools

LARGEST = 4294967295

PATH_3 = [0, 1, 1, 2]
PATH_4 = [0, 1, 1, 2, 2, 3]
PATH_5 = [0, 1, 1, 2, 2, 3, 3, 4]
CYCLE_4 = [0, 1, 0, 3, 1, 2, 2, 3]
CYCLE_5 = [0, 1, 0, 4, 1, 2, 2, 3, 3, 4]
STAR_5 = [0, 1, 0, 2, 0, 3, 0, 4]
COMPLETE_5 = [0, 1, 0, 2, 0, 3, 0, 4, 1, 2, 1, 3, 1, 4, 2, 3, 2, 4, 3, 4]

# Each stands outside the limits: what is wrong, vertex_count, edges.
WRONG_GRAPHS = [
    ("no vertices", 0, []),
    ("no vertices, an edge", 0, [0, 1]),
    ("six vertices", 6, []),
    ("six vertices, a path", 6, [0, 1, 1, 2, 2, 3, 3, 4, 4, 5]),
    ("seven vertices", 7, []),
    ("the most vertices that can be handed in", LARGEST, []),
    ("the most vertices, an edge", LARGEST, [0, 1]),
    ("the most vertices, the last as an end", LARGEST, [0, LARGEST - 1]),
    ("one number", 3, [0]),
    ("an odd length", 3, [0, 1, 1]),
    ("an odd length behind all edges", 5, COMPLETE_5 + [4]),
    ("out of order by the first ends", 3, [1, 2, 0, 1]),
    ("out of order by the second ends", 3, [0, 2, 0, 1]),
    ("out of order at the end", 4, [0, 1, 2, 3, 1, 2]),
    ("out of order, the second ends rising", 4, [1, 2, 0, 3]),
    ("an edge twice", 3, [0, 1, 0, 1]),
    ("the last edge twice", 3, [0, 1, 1, 2, 1, 2]),
    ("an edge twice, not side by side", 3, [0, 1, 1, 2, 0, 1]),
    ("a loop at the first vertex", 3, [0, 0]),
    ("a loop at the last vertex", 3, [0, 1, 2, 2]),
    ("a loop at a single vertex", 1, [0, 0]),
    ("u above v", 3, [1, 0]),
    ("u above v behind a good edge", 3, [0, 1, 2, 1]),
    ("an end that is no vertex", 3, [0, 3]),
    ("an end that is no vertex behind a good edge", 3, [0, 1, 1, 3]),
    ("both ends no vertices", 3, [3, 4]),
    ("an end that is no vertex of five", 5, [0, 5]),
    ("an edge on a single vertex", 1, [0, 1]),
    ("the largest number as an end", 5, [0, LARGEST]),
    ("the largest number as the first end", 5, [LARGEST, 0]),
    ("the largest number as both ends", 5, [LARGEST, LARGEST]),
    ("all edges and one more", 5, COMPLETE_5 + [4, 5]),
    ("all edges and the last one twice", 5, COMPLETE_5 + [3, 4]),
    ("as many numbers as can be, all the largest", 5, [LARGEST] * 22),
    ("as many numbers as can be, all 0", 5, [0] * 22),
    ("everything the largest", LARGEST, [LARGEST] * 22),
]

# Within the limits, but not connected: vertex_count, edges.
NOT_CONNECTED = [
    (2, []),
    (3, []),
    (3, [0, 1]),
    (3, [0, 2]),
    (3, [1, 2]),
    (4, [0, 1, 2, 3]),
    (4, [0, 2, 1, 3]),
    (4, PATH_3),
    (5, []),
    (5, [0, 4, 1, 3]),
    (5, [0, 1, 2, 3, 3, 4]),
    (5, [0, 1, 0, 2, 1, 2, 3, 4]),
    # All edges but those of the last vertex, and all but those of the first.
    (5, [0, 1, 0, 2, 0, 3, 1, 2, 1, 3, 2, 3]),
    (5, COMPLETE_5[8:]),
]

# Outside the limits, and if they were taken as graphs, they'd not be connected.
WRONG_AND_NOT_CONNECTED = [
    (0, []),
    (3, [0]),
    (3, [1, 1]),
    (4, [2, 3, 0, 1]),
    (4, [0, 1, 0, 1]),
    (4, [0, 1, 1]),
    (4, [1, 0, 2, 3]),
    (4, [0, 1, 4, 5]),
    (6, []),
    (6, COMPLETE_5),
    (LARGEST, PATH_3),
]

# Lists of pebbles outside the limits, on graphs within them: vertex_count, edges, pebbles.
WRONG_PEBBLES = [
    (1, [], []),
    (1, [], [1, 0]),
    (1, [], [13]),
    (1, [], [LARGEST]),
    (3, PATH_3, []),
    (3, PATH_3, [7]),
    (3, PATH_3, [7, 0]),
    (3, PATH_3, [7, 0, 0, 0]),
    (3, PATH_3, [1] * 7),
    (3, PATH_3, [13, 0, 0]),
    (3, PATH_3, [0, 0, 13]),
    (3, PATH_3, [4, 4, 5]),
    (3, PATH_3, [12, 0, 1]),
    (3, PATH_3, [0, LARGEST, 0]),
    (5, COMPLETE_5, [3, 3, 3, 3, 1]),
    (5, COMPLETE_5, [LARGEST] * 5),
    (5, [], [3, 3, 3, 3]),
    (5, [], [2, 2, 2, 2, 2, 2]),
    # The length and the sum are wrong.
    (3, PATH_3, [13]),
    (3, PATH_3, [LARGEST] * 7),
    (5, COMPLETE_5, [13, 0, 0, 0]),
]


class Untouched(list):
    """A list that says so as soon as somebody changes it."""

    def refuse(self, *ignored, **also_ignored):
        raise AssertionError("a list that was handed in is changed")

    __setitem__ = __delitem__ = __iadd__ = __imul__ = refuse
    append = extend = insert = pop = remove = clear = sort = reverse = refuse


class Unread(list):
    """A list that says so as soon as somebody looks into it."""

    def refuse(self, *ignored):
        raise AssertionError("pebbles are looked at though the graph is wrong")

    __len__ = __iter__ = __getitem__ = refuse


def possible_pairs(vertex_count):
    """All pairs u, v with u < v, in lexicographic order."""
    return list(itertools.combinations(range(vertex_count), 2))


def all_graphs(vertex_count):
    """The flat edges of every graph with these vertices."""
    pairs = possible_pairs(vertex_count)
    for size in range(len(pairs) + 1):
        for chosen in itertools.combinations(pairs, size):
            yield [end for pair in chosen for end in pair]


def connected_graphs():
    """Every connected graph within the limits: vertex_count, edges."""
    for vertex_count in range(1, 6):
        for edges in all_graphs(vertex_count):
            if len(parts(vertex_count, edges)) == 1:
                yield vertex_count, edges


def all_configurations(vertex_count, count):
    """Every configuration with this many pebbles, in lexicographic order."""
    return [
        list(pebbles)
        for pebbles in itertools.product(range(count + 1), repeat=vertex_count)
        if sum(pebbles) == count
    ]


def neighbours(vertex_count, edges):
    """For each vertex the vertices next to it."""
    beside = [[] for _ in range(vertex_count)]
    for u, v in zip(edges[::2], edges[1::2]):
        beside[u].append(v)
        beside[v].append(u)
    return beside


def parts(vertex_count, edges):
    """The connected parts, each a set of vertices."""
    beside = neighbours(vertex_count, edges)
    found = []
    for vertex in range(vertex_count):
        if any(vertex in part for part in found):
            continue
        part = {vertex}
        while True:
            wider = part.union(*(beside[inside] for inside in part))
            if wider == part:
                break
            part = wider
        found.append(part)
    return found


def slow_distances(vertex_count, edges, vertex):
    """The distance from the vertex to each one that a path leads to, found by trying every path."""
    joined = set(zip(edges[::2], edges[1::2]))
    others = [other for other in range(vertex_count) if other != vertex]
    found = {}
    for length in range(vertex_count):
        for rest in itertools.permutations(others, length):
            path = (vertex,) + rest
            if all((min(step), max(step)) in joined for step in zip(path, path[1:])):
                found.setdefault(path[-1], length)
    return found


class SlowAnswers:
    """Answers about one graph, straight from the terms. A vertex is reachable
    if it bears a pebble, or if it is reachable after a move; a configuration
    can be covered if it is, or if it can be after a move."""

    def __init__(self, vertex_count, edges):
        self.beside = neighbours(vertex_count, edges)
        self.known_marks = {}
        self.known_covers = {}

    def after_a_move(self, pebbles):
        for source, held in enumerate(pebbles):
            for target in self.beside[source] if held >= 2 else []:
                after = list(pebbles)
                after[source] -= 2
                after[target] += 1
                yield after

    def reachable(self, pebbles):
        pebbles = tuple(pebbles)
        if pebbles not in self.known_marks:
            marks = [min(held, 1) for held in pebbles]
            for after in self.after_a_move(pebbles):
                marks = [max(pair) for pair in zip(marks, self.reachable(after))]
            self.known_marks[pebbles] = marks
        return self.known_marks[pebbles]

    def solvable(self, pebbles):
        return all(self.reachable(pebbles))

    def coverable(self, pebbles):
        pebbles = tuple(pebbles)
        if pebbles not in self.known_covers:
            covered = min(pebbles) >= 1
            self.known_covers[pebbles] = covered or any(map(self.coverable, self.after_a_move(pebbles)))
        return self.known_covers[pebbles]
