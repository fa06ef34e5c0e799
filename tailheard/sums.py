"""Sums along steps: the least sum with which each of some nodes is reached, however long the way."""


def looped_nodes(sources):
    """The nodes from which the way back along the sources goes round, as a dict."""
    done = {}
    looped = {}
    for node in sources:
        trail = {}
        while node in sources and node not in trail and node not in done:
            trail[node] = True
            node = sources[node]
        if node in trail:
            looped[node] = True
        for each in trail:
            done[each] = True
    return looped


def all_behind(nodes, edges):
    """All nodes to which edges lead from some nodes, themselves included, as a dict."""
    onward = {}
    for source, target, change in edges:
        onward.setdefault(source, []).append(target)
    found = {node: True for node in nodes}
    queue = list(found)
    while queue:
        node = queue.pop()
        for target in onward.get(node, []):
            if target not in found:
                found[target] = True
                queue.append(target)
    return found


def relaxed(edges, sums, sources):
    """Let each edge tell a lesser sum where it leads; whether one was told."""
    is_less = False
    for source, target, change in edges:
        if source in sums and (target not in sums or sums[source] + change < sums[target]):
            sums[target] = sums[source] + change
            sources[target] = source
            is_less = True
    return is_less


def least_sums(many, edges):
    """For each of so many nodes the least sum of changes along edges from the node 0, None if there is no least one.

    Edges are triples (source, target, change); all nodes are within reach of the node 0.
    """
    sums = {0: 0}
    sources = {}
    left = edges
    while relaxed(left, sums, sources):
        looped = looped_nodes(sources)
        if looped:
            # Sums go down for ever on a loop of sources: all nodes behind it are out, the others hear nothing of them.
            out = all_behind(looped, left)
            left = [edge for edge in left if edge[1] not in out]
            sums = {node: sums[node] for node in sums if node not in out}
            sources = {node: sources[node] for node in sources if node not in out}
    return [sums.get(node) for node in range(many)]
