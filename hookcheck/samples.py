"""Samples: finitely many documents that stand for all documents that fit a scope."""

from hookcheck.documents import RECORD, content_rank, document_of, document_rank, held, keys_below, nodes, without
from hookcheck.errors import NotSamples
from hookcheck.parts import numbered_entries, parts, refuse_misfit
from hookcheck.paths import FIRST_SIGNS, KEY_SIGNS, covers
from hookcheck.pools import alike
from hookcheck.scopes import slots_below

NULL = ("null",)


def each_sample(scope):
    """Yield all samples of the scope, ascending."""
    documents = [document_of(filling) for filling in sample_fillings(scope)]
    for sample in sorted(documents, key=document_rank):
        yield sample


def sample_fillings(scope):
    """Return the list of the nodes of each sample; nodes of one sample are told as a tuple, a filling."""
    collections, slots, entry_slots = scope
    plain = fillings_below((), slots_below(slots), ())
    found = list(plain)
    for (collection, _, free), inside in zip(collections, entry_slots):
        entries = fillings_of(inside[0], slots_below(inside), collection + (free,))
        found.extend([one + entry for one in plain if (collection, RECORD) in one for entry in entries])
    return found


def fillings_below(path, below, start):
    """Return the list of the fillings of the slots below the path; the paths of slots lead on from the start."""
    found = [()]
    for slot in below.get(path, []):
        ways = [()] + fillings_of(slot, below, start)
        found = [one + way for one in found for way in ways]
    return found


def fillings_of(slot, below, start):
    """Return the list of the fillings of the slot and the ones below it in which the slot is present."""
    path, kind, _, _, pool = slot
    if kind == "record":
        return [((start + path, RECORD),) + one for one in fillings_below(path, below, start)]
    return [((start + path, content),) for content in (pool if kind == "scalar" else (NULL,))]


def is_sample(scope, document):
    """Tell whether the document is a sample of the scope."""
    collections, slots, entry_slots = scope
    allowed = {slot[0]: slot for slot in slots}
    unnamed = numbered_entries(scope, document)
    if len(unnamed) > 1:
        return False
    for number, entry in unnamed:
        if entry[-1] != collections[number][2]:
            return False
        for slot in entry_slots[number]:
            allowed[entry + slot[0]] = slot
    return all([path in allowed and may_show(allowed[path], content) for path, content in nodes(document)])


def may_show(slot, content):
    """Tell whether the slot may hold the content in a sample."""
    if slot[1] == "record":
        return content == RECORD
    return content in slot[4] if slot[1] == "scalar" else content == NULL


def samples_of(scope, document, *, apart=None):
    """Return the samples of the parts of the document, apart by two scalars if they are passed."""
    refuse_misfit(scope, document)
    return tuple([sample_of_part(scope, part, apart) for part in parts(scope, document)])


def sample_of_part(scope, part, apart):
    """Return the sample of the part, apart by two scalars unless None is passed for them."""
    collections, slots, entry_slots = scope
    pair = None if apart is None else tuple(sorted(apart, key=content_rank))
    found = shown(slots, (), (), part, pair)
    for number, entry in numbered_entries(scope, part):
        path, _, free = collections[number]
        found.extend(shown(entry_slots[number], entry, path + (free,), part, pair))
    return document_of(tuple(found))


def shown(slots, start, end, part, pair):
    """Return the list of the nodes of the sample for the slots, which lead on from the start in the part.

    In the sample they lead on from the end. The pair is None or two scalars, ascending.
    """
    own = {slot[0]: True for slot in slots if slot[1] != "rest"}
    found = []
    for slot in slots:
        path = slot[0]
        if slot[1] == "rest":
            fields = keys_below(part, start + path[:-1])
            if any([path[:-1] + (key,) not in own for key in fields]):
                found.append((end + path, NULL))
        elif held(part, start + path) is not None:
            found.append((end + path, shown_content(slot, held(part, start + path), pair)))
    return found


def shown_content(slot, content, pair):
    """Return what the slot holds in the sample if it holds the content in the part."""
    _, kind, group, tests, pool = slot
    if kind != "scalar":
        return RECORD if kind == "record" else NULL
    members = [member for member in pool if alike(tests, member, content)]
    if pair is None or group is None or content != pair[1] or not alike(tests, pair[0], pair[1]):
        return members[0]
    return members[1]


def first_with(scope, samples):
    """Return the first document whose samples are the tuple."""
    for number in range(len(samples)):
        if not is_met(scope, samples, number):
            raise NotSamples(number)
    found = list(nodes(samples[0]))
    latest = {}
    for sample in samples[1:]:
        number, entry = numbered_entries(scope, sample)[0]
        collection, named, free = scope[0][number]
        latest[number] = key_after(latest[number], named) if number in latest else free
        renamed = collection + (latest[number],)
        below = [(path, content) for path, content in nodes(sample) if covers(entry, path)]
        found.extend([(renamed + path[len(entry):], content) for path, content in below])
    return document_of(tuple(found))


def is_met(scope, samples, number):
    """Tell whether the sample with the number may stand behind those before it, which may stand there."""
    sample = samples[number]
    if not is_sample(scope, sample) or sample_of_part(scope, sample, None) != sample:
        return False
    unnamed = numbered_entries(scope, sample)
    if number == 0:
        return not unnamed
    if not unnamed or without(sample, unnamed[0][1]) != samples[0]:
        return False
    return number == 1 or unnamed[0][0] >= numbered_entries(scope, samples[number - 1])[0][0]


def key_after(key, named):
    """Return the first key behind the key that is not named."""
    found = next_key(key)
    while found in named:
        found = next_key(found)
    return found


def next_key(key):
    """Return the key that comes next in the order of keys."""
    # The small letters, with which keys begin, are the last signs.
    signs = "".join(sorted(KEY_SIGNS))
    for place in reversed(range(len(key))):
        following = signs.find(key[place]) + 1
        if following < len(signs):
            return key[:place] + signs[following] + signs[0] * (len(key) - place - 1)
    return FIRST_SIGNS[0] + signs[0] * len(key)
