"""Paths along links."""


def path_along(links, first, last):
    """A shortest list from a first end of links to a last one, each item linked to the next one, or None."""
    met = {first: True}
    paths = [[first]]
    while len(paths) > 0:
        path = paths.pop(0)
        if path[-1] == last:
            return path
        for i, j in links:
            if i == path[-1] and j not in met:
                met[j] = True
                paths.append([*path, j])
    return None
