"""Places: where each word of a book stands."""


def places_of(words):
    places = {}
    for place, word in enumerate(words):
        if word not in places:
            places[word] = []
        places[word].append(place)
    return places
