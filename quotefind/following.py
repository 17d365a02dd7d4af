"""Following: from an entry on to entries of older books, by the stretches that they share."""


def stretch_over(places):
    return (min(places), max(places))


def length_of(stretch):
    return stretch[1] - stretch[0] + 1


def shared_places(stretch, other):
    shared = (max(stretch[0], other[0]), min(stretch[1], other[1]))
    # Stretches that lie apart share no place, however far apart they are.
    return max(0, length_of(shared))


class Passage:
    """What is asked of an entry here: its books, and its stretch in each of them."""

    def __init__(self, entry):
        self.number = entry.number
        self.older = entry.older
        self.newer = entry.newer
        self.in_older = stretch_over([i for i, j in entry.pairs])
        self.in_newer = stretch_over([j for i, j in entry.pairs])


def shares_enough(passage, later, part):
    """Whether a passage holds enough of a later one's stretch, in the book that both have."""
    return 100 * shared_places(passage.in_newer, later.in_older) >= part * length_of(later.in_older)


def by_newer_book(passages):
    groups = {}
    for passage in passages:
        if passage.newer not in groups:
            groups[passage.newer] = []
        groups[passage.newer].append(passage)
    return groups


def chains_from(start, passages, part):
    """For the number of each passage that is reached from the start one chain of numbers to it."""
    groups = by_newer_book(passages)
    chains = {start.number: [start.number]}
    wave = [start]
    while len(wave) > 0:
        going_on = []
        for later in wave:
            for passage in groups.get(later.older, []):
                if passage.number not in chains and shares_enough(passage, later, part):
                    chains[passage.number] = chains[later.number] + [passage.number]
                    going_on.append(passage)
        wave = going_on
    return chains


def chain_to_oldest(entries, number, names, part):
    """A chain over these entries, from the one of that number to the oldest book that can be reached.

    The names are those of the entries' books, the oldest first.
    """
    passages = [Passage(entry) for entry in entries]
    start = [passage for passage in passages if passage.number == number][0]
    chains = chains_from(start, passages, part)
    reached = [passage for passage in passages if passage.number in chains]
    last = min(reached, key=lambda passage: names.index(passage.older))
    return chains[last.number]
