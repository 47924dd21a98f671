"""Rim behind rim."""

from rimhouse.rims import rim_of


def levels(book, sizes):
    """The list of the levels, each the rising list of its houses' numbers in the whole book."""
    told = []
    left = list(range(len(book)))
    while left:
        places = rim_of([book[number] for number in left], sizes)
        told.append([left[place] for place in places])
        left = [number for place, number in enumerate(left) if place not in places]
    return told
