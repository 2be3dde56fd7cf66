"""Documents: their nodes, how they change, and their order."""

from hookcheck.errors import NodesError
from hookcheck.paths import compare_ranks, path_rank, text_rank

RECORD = ("record",)
KIND_RANKS = {"null": 0, "false": 1, "true": 2, "number": 3, "text": 4, "record": 5}


def nodes(document):
    """Return the pairs (path, content) of the document, ascending by their paths."""
    return tuple(nodes_below((), document))


def nodes_below(path, fields):
    """Return the list of the nodes of the fields of the record at the path."""
    found = []
    for key, value in fields:
        found.append((path + (key,), content_of(value)))
        if value[0] == "record":
            found.extend(nodes_below(path + (key,), value[1]))
    return found


def content_of(value):
    """Return the content that a path with this value holds."""
    return RECORD if value[0] == "record" else value


def document_of(nodes):
    """Return the document that has these nodes, in whatever order they are told."""
    contents = {}
    for path, content in sorted(nodes, key=node_rank):
        contents[path] = content
    refuse_faults(nodes, list(contents))
    below = {}
    for path in contents:
        below.setdefault(path[:-1], []).append(path)
    return fields_from((), below, contents)


def node_rank(node):
    """Return what orders nodes by their paths alone."""
    return path_rank(node[0])


def refuse_faults(pairs, paths):
    """Raise NodesError for the first of the ascending paths that has a fault."""
    counts = {}
    records = {}
    for path, content in pairs:
        counts[path] = counts.get(path, 0) + 1
        if content == RECORD:
            records[path] = True
    for path in paths:
        if counts[path] > 1:
            raise NodesError("twice", path)
        if len(path) > 1 and path[:-1] not in records:
            raise NodesError("above", path)


def fields_from(path, below, contents):
    """Return the fields of the record at the path; `below` has the ascending paths directly below each path."""
    return tuple([(longer[-1], value_from(longer, below, contents)) for longer in below.get(path, [])])


def value_from(path, below, contents):
    """Return the value at the path."""
    if contents[path] == RECORD:
        return ("record", fields_from(path, below, contents))
    return contents[path]


def field(fields, key):
    """Return the value of the field with the key, or None."""
    for other, value in fields:
        if other == key:
            return value
    return None


def value_at(document, path):
    """Return the value to which the path leads, the document itself counted as a record, or None."""
    value = ("record", document)
    for key in path:
        if value is None or value[0] != "record":
            return None
        value = field(value[1], key)
    return value


def held(document, path):
    """Return the content that the path holds, or None if it is absent."""
    value = value_at(document, path)
    return None if value is None else content_of(value)


def fields_of(value):
    """Return the fields of a record; nothing for a scalar and for None."""
    if value is None or value[0] != "record":
        return ()
    return value[1]


def keys_below(document, path):
    """Return the keys that lead from the path to a present path, ascending."""
    return tuple([key for key, _ in fields_of(value_at(document, path))])


def with_scalar(document, path, scalar):
    """Return the document after the path has been set to the scalar."""
    key = path[0]
    if len(path) == 1:
        return with_field(document, key, scalar)
    inner = fields_of(field(document, key))
    return with_field(document, key, ("record", with_scalar(inner, path[1:], scalar)))


def without(document, path):
    """Return the document after the path has been removed."""
    key = path[0]
    if len(path) == 1:
        return tuple([pair for pair in document if pair[0] != key])
    value = field(document, key)
    if value is None or value[0] != "record":
        return document
    return with_field(document, key, ("record", without(value[1], path[1:])))


def with_field(fields, key, value):
    """Return the fields with this value for the key, in the place of the one that was there."""
    rank = text_rank(key)
    ahead = [pair for pair in fields if text_rank(pair[0]) < rank]
    behind = [pair for pair in fields if text_rank(pair[0]) > rank]
    return tuple(ahead + [(key, value)] + behind)


def content_rank(content):
    """Return what orders contents, scalars among them: their ranks compare as the contents do."""
    place = KIND_RANKS[content[0]]
    if content[0] == "number":
        return (place, abs(content[1]), 1 if content[1] < 0 else 0)
    if content[0] == "text":
        return (place, text_rank(content[1]))
    return (place,)


def document_rank(document):
    """Return what orders documents: their ranks compare as the documents do."""
    listed = nodes(document)
    return (len(listed), tuple([(path_rank(path), content_rank(content)) for path, content in listed]))


def compare_scalars(first, second):
    """Return -1 if the first scalar comes before the second one, 1 if after it, 0 if they are equal."""
    return compare_ranks(content_rank(first), content_rank(second))


def compare_documents(first, second):
    """Return -1 if the first document comes before the second one, 1 if after it, 0 if they are equal."""
    return compare_ranks(document_rank(first), document_rank(second))
