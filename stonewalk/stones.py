"""Questions about pebbles on a graph of at most five vertices."""

NO_SUCH_VERTEX = -2
OUTSIDE_LIMITS = -22
NOT_CONNECTED = -33

MOST_VERTICES = 5
MOST_PEBBLES = 12
MOST_PEBBLES_COUNTED = 6


def is_solvable(vertex_count, edges, pebbles):
    """Tell whether every vertex can be reached, then for each vertex whether it can."""
    if not graph_fits(vertex_count, edges):
        return [OUTSIDE_LIMITS]
    if not configuration_fits(vertex_count, pebbles):
        return [OUTSIDE_LIMITS]
    marks = reachable_marks(edge_pairs(edges), pebbles)
    return [1 if all(marks) else 0] + marks


def optimal_configuration(vertex_count, edges):
    """Give the number of pebbles of the optimal configuration, then the configuration itself."""
    if not graph_fits(vertex_count, edges):
        return [OUTSIDE_LIMITS]
    pairs = edge_pairs(edges)
    count = 0
    solvable = []
    # One pebble on every vertex is solvable, so count goes no further than vertex_count.
    while len(solvable) == 0:
        count += 1
        solvable = solvable_configurations(vertex_count, pairs, count)
    return [count] + solvable[0]


def count_solvable(vertex_count, pebbles, edges):
    """Give the number of solvable configurations with that many pebbles."""
    if not graph_fits(vertex_count, edges):
        return [OUTSIDE_LIMITS]
    if pebbles > MOST_PEBBLES_COUNTED:
        return [OUTSIDE_LIMITS]
    return [len(solvable_configurations(vertex_count, edge_pairs(edges), pebbles))]


def can_cover(vertex_count, edges, pebbles):
    """Tell whether some sequence of moves puts a pebble on every vertex at the same time."""
    if not graph_fits(vertex_count, edges):
        return [OUTSIDE_LIMITS]
    if not configuration_fits(vertex_count, pebbles):
        return [OUTSIDE_LIMITS]
    for configuration in configurations_from(edge_pairs(edges), pebbles):
        if all(configuration):
            return [1]
    return [0]


def cover_from(vertex_count, vertex, edges):
    """Give the cover number from the vertex."""
    if not graph_fits(vertex_count, edges):
        return [OUTSIDE_LIMITS]
    pairs = edge_pairs(edges)
    if not is_connected(vertex_count, pairs):
        return [NOT_CONNECTED]
    if vertex >= vertex_count:
        return [NO_SUCH_VERTEX]
    return [cover_number_from(vertex, pairs)]


def cover_number(vertex_count, edges):
    """Give the largest of the cover numbers from the vertices."""
    if not graph_fits(vertex_count, edges):
        return [OUTSIDE_LIMITS]
    pairs = edge_pairs(edges)
    if not is_connected(vertex_count, pairs):
        return [NOT_CONNECTED]
    return [max([cover_number_from(vertex, pairs) for vertex in range(vertex_count)])]


def graph_fits(vertex_count, edges):
    """Tell whether the number of vertices and the flat list of edges are within their limits."""
    if vertex_count < 1 or vertex_count > MOST_VERTICES:
        return False
    if len(edges) % 2 != 0:
        return False
    return edges_fit(vertex_count, edge_pairs(edges))


def edge_pairs(edges):
    """Make of the flat list, two numbers for each edge, a list of pairs."""
    return [(edges[at], edges[at + 1]) for at in range(0, len(edges), 2)]


def edges_fit(vertex_count, pairs):
    """Tell whether the edges join vertices that exist, lower one first, in strictly increasing order."""
    # No edge is (0, 0), and every edge stands behind it.
    before = (0, 0)
    for pair in pairs:
        u, v = pair
        if u >= v or v >= vertex_count or pair <= before:
            return False
        before = pair
    return True


def configuration_fits(vertex_count, pebbles):
    """Tell whether the list has a number for each vertex and not too many pebbles."""
    return len(pebbles) == vertex_count and sum(pebbles) <= MOST_PEBBLES


def solvable_configurations(vertex_count, pairs, count):
    """List the solvable configurations with count pebbles, in lexicographic order."""
    return [pebbles for pebbles in configurations_with(vertex_count, count) if all(reachable_marks(pairs, pebbles))]


def configurations_with(vertex_count, count):
    """List the configurations with count pebbles, in lexicographic order."""
    beginnings = [[]]
    for vertex in range(vertex_count - 1):
        beginnings = longer_beginnings(beginnings, count)
    # What the other vertices leave over lies on the last one.
    return [beginning + [count - sum(beginning)] for beginning in beginnings]


def longer_beginnings(beginnings, count):
    """Lengthen each beginning of a configuration by one vertex, in every way, in lexicographic order."""
    longer = []
    for beginning in beginnings:
        for pebbles_here in range(count - sum(beginning) + 1):
            longer.append(beginning + [pebbles_here])
    return longer


def reachable_marks(pairs, pebbles):
    """Mark each vertex with 1 if it is reachable from the configuration, else with 0."""
    marks = [0] * len(pebbles)
    for configuration in configurations_from(pairs, pebbles):
        for vertex, pebbles_here in enumerate(configuration):
            if pebbles_here > 0:
                marks[vertex] = 1
    return marks


def configurations_from(pairs, pebbles):
    """List every configuration that some sequence of moves leads to, each once, the given one too."""
    first = tuple(pebbles)
    seen = {first: True}
    waiting = [first]
    # Each move takes a pebble off the graph, so the search comes to an end.
    while len(waiting) > 0:
        configuration = waiting.pop()
        for following in configurations_after_a_move(pairs, configuration):
            if following not in seen:
                seen[following] = True
                waiting.append(following)
    return list(seen)


def configurations_after_a_move(pairs, configuration):
    """List the configurations that a single move along some edge leads to."""
    results = []
    for u, v in pairs:
        if configuration[u] >= 2:
            results.append(moved(configuration, u, v))
        if configuration[v] >= 2:
            results.append(moved(configuration, v, u))
    return results


def moved(configuration, source, target):
    """Give the configuration after the move from source to target."""
    changed = list(configuration)
    changed[source] -= 2
    changed[target] += 1
    return tuple(changed)


def is_connected(vertex_count, pairs):
    """Tell whether a path leads from the first vertex to every other."""
    return len(distances_from(0, pairs)) == vertex_count


def cover_number_from(vertex, pairs):
    """Add up 2 to the power of the distance from the vertex, over all vertices of a connected graph."""
    return sum([1 << distance for distance in distances_from(vertex, pairs).values()])


def distances_from(vertex, pairs):
    """Give the distance of each vertex that a path leads to from the given one."""
    distances = {vertex: 0}
    farthest = [vertex]
    while len(farthest) > 0:
        farther = []
        for here in farthest:
            for there in vertices_beside(here, pairs):
                if there not in distances:
                    distances[there] = distances[here] + 1
                    farther.append(there)
        farthest = farther
    return distances


def vertices_beside(vertex, pairs):
    """List the vertices that an edge joins to the given one."""
    beside = []
    for u, v in pairs:
        if u == vertex:
            beside.append(v)
        if v == vertex:
            beside.append(u)
    return beside
