"""Pairs of workers that join them: trees, and ways to a root."""

from stillknown.values import is_name, is_tuple_of


def is_pair_of_workers(value):
    """Whether a value is a pair of different workers."""
    return is_tuple_of(value, 2) and is_name(value[0]) and is_name(value[1]) and value[0] != value[1]


def workers_of(pairs):
    """All workers that some pairs name, ascending."""
    return sorted(set([worker for pair in pairs for worker in pair]))


def joined_to(pairs, first):
    """The workers that are joined to one of them, in the order in which they are met from it on."""
    met = [first]
    at = 0
    while at < len(met):
        for one, other in pairs:
            for here, there in ((one, other), (other, one)):
                if here == met[at] and there not in met:
                    met.append(there)
        at += 1
    return met


def do_join(pairs):
    """Whether some pairs, one or more, join all workers that they name."""
    workers = workers_of(pairs)
    return len(joined_to(pairs, workers[0])) == len(workers)


def is_tree(pairs):
    """Whether some pairs, one or more, join all workers that they name without a ring."""
    return do_join(pairs) and len(pairs) == len(workers_of(pairs)) - 1


def ways_to(links, root):
    """The dict from the workers but the root to the next one on the way to it; the farther ones stand behind."""
    met = joined_to(links, root)
    toward = {}
    for worker in met[1:]:
        # The next one on the way is met ahead of all others that are linked to this one.
        toward[worker] = [other for other in met if (worker, other) in links or (other, worker) in links][0]
    return toward


def branches_of(links, root):
    """The dict from the workers but the root, ascending, to the workers of their branches."""
    toward = ways_to(links, root)
    branches = {worker: [worker] for worker in toward}
    for worker in reversed(list(toward)):
        if toward[worker] != root:
            branches[toward[worker]].extend(branches[worker])
    return {worker: branches[worker] for worker in sorted(branches)}
