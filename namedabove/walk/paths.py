"""Shortest ways of letters to what letters can be, and the letters of such ways."""


def all_paths(begins, steps):
    """A dict from all that can be reached to tuples (letters, node before, writer, whether it begins a talk).

    The begins are triples (node, writer, whether it begins a talk), and steps tell such triples for a node.
    The nodes stand in the order of the least number of letters on a way to them.
    """
    found = {}
    queue = [(node, 1, None, writer, begins_talk) for node, writer, begins_talk in begins]
    at = 0
    while at < len(queue):
        node, many, before, writer, begins_talk = queue[at]
        at += 1
        if node not in found:
            found[node] = (many, before, writer, begins_talk)
            queue.extend([(near, many + 1, node, *letter) for near, *letter in steps(node) if near not in found])
    return found


def path_to(found, node):
    """The nodes of the way to a node that was found, itself the last one; the second value is the node before."""
    path = []
    while node is not None:
        path.append(node)
        node = found[node][1]
    return path[::-1]


def with_path(letters, found, node, upon):
    """The letters, and behind them those of a shortest way to a node, the first of them upon this letter or none."""
    letters = list(letters)
    for near in path_to(found, node):
        _, _, writer, begins_talk = found[near]
        letters.append((writer, upon, begins_talk))
        upon = len(letters) - 1
    return letters
