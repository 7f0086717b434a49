"""Finds where phrases of exam texts stand in a text."""


def phrase_index(length, texts):
    """Return a dict from each phrase to the tuples (text, phrase) that tell where it comes from, in order."""
    index = {}
    for number, exam in enumerate(texts):
        for start in range(len(exam) - length + 1):
            phrase = tuple(exam[start:start + length])
            index.setdefault(phrase, []).append((number, start))
    return index


def phrase_standings(length, texts, words):
    """Return all standings (place, text, phrase) in order."""
    index = phrase_index(length, texts)
    standings = []
    for place in range(len(words) - length + 1):
        for number, start in index.get(tuple(words[place:place + length]), []):
            standings.append((place, number, start))
    return standings


def phrase_cover(length, texts, words, place):
    """Return the first standing that covers the word at the place, or None."""
    index = phrase_index(length, texts)
    last = min(place, len(words) - length)
    for start in range(max(0, place - length + 1), last + 1):
        found = index.get(tuple(words[start:start + length]), [])
        if found:
            number, phrase = found[0]
            return (start, number, phrase)
    return None


def first_covers(length, texts, words):
    """Return for each word the first standing that covers it, or None."""
    index = phrase_index(length, texts)
    covers = [None] * len(words)
    behind = 0
    for place in range(len(words) - length + 1):
        found = index.get(tuple(words[place:place + length]), [])
        if found:
            number, start = found[0]
            # Places before `behind` are covered by an earlier standing.
            for at in range(max(place, behind), place + length):
                covers[at] = (place, number, start)
            behind = place + length
    return covers


def standing_places(length, texts, words):
    """Return the places at which some phrase stands, in ascending order."""
    index = phrase_index(length, texts)
    return [place for place in range(len(words) - length + 1) if tuple(words[place:place + length]) in index]
