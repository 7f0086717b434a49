"""Makes certificates of corpora, writes them as bytes, and reads them back."""

from corpuskeep.chains import alike_ids, chain_to_kept
from corpuskeep.classes import alike_pairs
from corpuskeep.cleaning import count_with_shape
from corpuskeep.corpora import exam_lists, published_words
from corpuskeep.learning import join_gains
from corpuskeep.standing import first_covers
from corpuskeep.volumes import ByteReader, write_number, write_numbers

# The kinds of fates in the order of their bytes, from 0 on, with how many numbers they have; a chain has a list of
# ids instead.
FATES = (("short", 1), ("share", 2), ("nothing", 0), ("chain", 0), ("kept", 0))


def drop_fate(rules, reason, words):
    """Return the fate of a document that is dropped for this reason, with these words left."""
    if reason == ("short",):
        return ("short", len(words))
    name, index = reason
    shape, p, q = rules.shares[index]
    return ("share", index, count_with_shape(words, shape))


def fate_list(contents, corpus):
    """Return the fate of each document as the certificate tells it."""
    rules = contents.rules
    kept = dict(corpus.kept_for)
    near = alike_ids(alike_pairs(corpus.left, rules.run_words, rules.alike_least, rules.alike_of))
    fates = []
    for number, reason, words in corpus.cleaned:
        if reason is not None:
            fates.append(drop_fate(rules, reason, words))
        elif number not in kept:
            fates.append(("nothing",))
        elif kept[number] == number:
            fates.append(("kept",))
        else:
            fates.append(("chain", chain_to_kept(near, number)))
    return fates


def cover_list(length, texts, words):
    """Return for each word None or a tuple (exam, phrase, place) that tells the first standing that covers it."""
    told = []
    for cover in first_covers(length, texts, words):
        if cover is None:
            told.append(None)
        else:
            place, exam, phrase = cover
            told.append((exam, phrase, place))
    return told


def certificate(contents, corpus):
    """Return the certificate of the corpus of the contents."""
    texts = exam_lists(contents)
    covers = [
        cover_list(contents.rules.phrase_words, texts, words)
        for number, reason, words in corpus.cleaned if reason is None
    ]
    gains = join_gains(corpus.joins, published_words(corpus.published))
    return (fate_list(contents, corpus), covers, gains)


def write_fate(told):
    kind = [name for name, many in FATES].index(told[0])
    if told[0] == "chain":
        return [kind] + write_numbers(told[1])
    data = [kind]
    for number in told[1:]:
        data.extend(write_number(number))
    return data


def write_cover(told):
    data = write_number(len(told))
    for cover in told:
        if cover is None:
            data.append(0)
        else:
            data.append(1)
            for number in cover:
                data.extend(write_number(number))
    return data


def write_certificate(paper):
    """Return the bytes of a certificate."""
    fates, covers, gains = paper
    data = write_number(len(fates))
    for told in fates:
        data.extend(write_fate(told))
    data.extend(write_number(len(covers)))
    for told in covers:
        data.extend(write_cover(told))
    return data + write_numbers(gains)


def read_fate(reader):
    name, many = FATES[reader.take_byte(0, len(FATES) - 1)]
    if name == "chain":
        return (name, reader.take_numbers())
    numbers = [reader.take_number() for _ in range(many)]
    return (name, *numbers)


def read_cover(reader):
    """Return the entries for the words of one document."""
    told = []
    for _ in range(reader.take_number()):
        if reader.take_byte(0, 1) == 0:
            told.append(None)
        else:
            told.append((reader.take_number(), reader.take_number(), reader.take_number()))
    return told


def read_certificate(data):
    """Return the certificate of exactly these bytes. Raises InvalidBytes(0)."""
    reader = ByteReader(data)
    fates = [read_fate(reader) for _ in range(reader.take_number())]
    covers = [read_cover(reader) for _ in range(reader.take_number())]
    gains = reader.take_numbers()
    reader.take_end()
    return (fates, covers, gains)
