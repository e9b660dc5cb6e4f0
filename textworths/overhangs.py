"""Overhangs: of two texts of words that are alike so far, what the longer one has more."""


def overhangs_of_pairs(words):
    """Returns (overhang, longer word) of all two words of which the one begins with the other one."""
    pairs = [(word, word_2) for at, word in enumerate(words) for word_2 in words[at + 1:]]
    begun = [(min(pair), max(pair)) for pair in pairs]
    return [(longer[len(shorter):], longer) for shorter, longer in begun if longer.startswith(shorter)]


def first_shared_text(words, words_2, starts):
    """Returns the first text of words that is one of other words, too; None if there is none.

    It begins with one of the starts (overhang, text), in which the first words are ahead.
    """
    waiting = [(len(text), text, True, over) for over, text in starts]
    met = set()
    # What is put behind two texts keeps their order: so the first one to an overhang is enough.
    while waiting != []:
        nearest = min(waiting)
        waiting.remove(nearest)
        _, text, is_first, over = nearest
        if over == "":
            return text
        if (is_first, over) not in met:
            met.add((is_first, over))
            for over_2, more in _met_by(words_2 if is_first else words, over):
                longer = text + more
                waiting.append((len(longer), longer, is_first == (more == ""), over_2))
    return None


def longest_alike(words, over):
    """Returns how far words can go along an overhang, and on; None if they have no end."""
    # A way on and on comes back to an overhang, and goes farther each time.
    found = {over: True}
    waiting = [over]
    while waiting != []:
        last = waiting.pop()
        for over_2, _ in _met_by(words, last):
            if over_2 not in found:
                found[over_2] = True
                waiting.append(over_2)
    if "" in found:
        return None
    farthest = {over_2: 0 for over_2 in found}
    for _ in range(len(found) + 1):
        farther = {over_2: _farther(words, over_2, farthest) for over_2 in found}
        if farther == farthest:
            return farther[over]
        farthest = farther
    return None


def _met_by(words, over):
    """Returns (overhang, letters more) behind each word that goes along an overhang."""
    found = []
    for word in words:
        if over.startswith(word):
            found.append((over[len(word):], ""))
        elif word.startswith(over):
            found.append((word[len(over):], word[len(over):]))
    return found


def _farther(words, over, farthest):
    """Returns how far words can go along an overhang if it is told how far behind the first one."""
    found = 0
    for word in words:
        if over.startswith(word):
            found = max(found, len(word) + farthest[over[len(word):]])
        elif word.startswith(over):
            found = max(found, len(over) + farthest[word[len(over):]])
        else:
            found = max(found, _alike(over, word))
    return found


def _alike(one, other):
    """Returns how many first letters of two texts are alike."""
    size = 0
    while one[size] == other[size]:
        size += 1
    return size
