"""Plain tools on the plain trees of tests/plain_tree.py: all ways below a node, and what is done with them."""

import re

from plain_tree import plain_values


def plain_ways(tree, number):
    """A dict from the ways to the numbers of the nodes at and below a node, in the order of a listing."""
    found = {(): number}
    if tree.nodes[number][0] == "directory":
        for name, below in tree.nodes[number][1].items():
            found.update({(name, *way): reached for way, reached in plain_ways(tree, below).items()})
    return {way: found[way] for way in sorted(found)}


def path_from(path, way):
    return path if not way else path.rstrip("/") + "/" + "/".join(way)


def plain_listing(tree, path):
    ways = plain_ways(tree, tree.follow(path))
    return [(path_from(path, way), tree.status(number)) for way, number in ways.items()]


def plain_usage(tree, path):
    numbers = set(plain_ways(tree, tree.follow(path)).values())
    kinds = [tree.nodes[number][0] for number in numbers]
    octets = sum(len(tree.nodes[number][1]) for number in numbers if tree.nodes[number][0] == "file")
    keys = [key for key in plain_values(tree) if key // 4096 in numbers]
    return kinds.count("file"), kinds.count("directory"), kinds.count("link"), octets, len(keys)


def plain_matches(pattern, name):
    signs = {"*": ".*", "?": "."}
    return re.fullmatch("".join(signs.get(sign, re.escape(sign)) for sign in pattern), name) is not None


def plain_search(tree, path, pattern):
    ways = plain_ways(tree, tree.follow(path))
    return [path_from(path, way) for way in ways if way and plain_matches(pattern, way[-1])]


def plain_differences(tree, path, other, other_path):
    ways = plain_ways(tree, tree.follow(path))
    others = plain_ways(other, other.follow(other_path))
    found = []
    for way in sorted(set(ways) | set(others)):
        if way not in others or way not in ways:
            found.append((path_from("/", way), "removed" if way in ways else "added"))
            continue
        kind, body, _ = tree.nodes[ways[way]]
        other_kind, other_body, _ = other.nodes[others[way]]
        if kind != other_kind:
            found.append((path_from("/", way), "kind"))
        elif kind != "directory" and body != other_body:
            found.append((path_from("/", way), "octets" if kind == "file" else "target"))
    return found


def plain_remove(tree, path):
    """Remove what remove_tree removes, all at once, and return the number of ways."""
    here, name, number = tree.entry(path)
    ways = plain_ways(tree, number)
    del tree.nodes[here][1][name]
    for below in ways.values():
        if tree.nodes[below][0] == "directory":
            del tree.nodes[below]
        else:
            tree.lose(below)
    return len(ways)


def plain_copy(tree, source, target):
    """Copy what copy_tree copies, node by node, and return the number of operations."""
    number = tree.follow(source)
    ways = plain_ways(tree, number)
    bodies = {below: (tree.nodes[below][0], tree.nodes[below][1]) for below in ways.values()}
    bodies = {below: (kind, {} if kind == "directory" else body[:]) for below, (kind, body) in bodies.items()}
    made = {}
    operations = 0
    for way, below in ways.items():
        kind, body = bodies[below]
        if below in made:
            tree.nodes[made[ways[way[:-1]]]][1][way[-1]] = made[below]
            tree.nodes[made[below]][2] += 1
        elif not way:
            made[below] = tree.add(target, kind, body)
        else:
            unused = min(set(range(256)) - set(tree.nodes))
            tree.nodes[unused] = [kind, body, 1]
            tree.nodes[made[ways[way[:-1]]]][1][way[-1]] = unused
            made[below] = unused
        first = kind == "file" and tree.nodes[made[below]][2] == 1
        operations += max(1, -(-len(body) // 5376)) if first else 1
    return operations
