"""Ranks: how many nodes can follow one another, and what can go on for ever."""


def ranks_of(followers):
    """For each node the greatest number of nodes that can follow one another from it on, itself counted.

    `followers` tells of each node which nodes follow it. A node from which they can follow one another for ever
    has no rank.
    """
    leaders = {node: [] for node in followers}
    left = {}
    for node in followers:
        left[node] = len(followers[node])
        for follower in followers[node]:
            leaders[follower].append(node)
    ranks = {}
    queue = [node for node in followers if left[node] == 0]
    for node in queue:
        ranks[node] = 1
    while queue:
        node = queue.pop()
        for leader in leaders[node]:
            ranks[leader] = max(ranks.get(leader, 0), ranks[node] + 1)
            left[leader] = left[leader] - 1
            if left[leader] == 0:
                queue.append(leader)
    return {node: ranks[node] for node in followers if left[node] == 0}
