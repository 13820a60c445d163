"""What follows from equal parts.

A term is a tuple (sign, x, y), x and y the numbers of its parts or NONE. The list heads tells for each term's
number the least number of those equal to it: two terms are equal where their heads are the same.
"""

NONE = -1


def head_of_part(heads, part):
    # NONE must stay what it is: it keeps terms with fewer parts apart from those with more.
    if part == NONE:
        return NONE
    return heads[part]


def shape(heads, term):
    return (term[0], head_of_part(heads, term[1]), head_of_part(heads, term[2]))


def head_by_parts(made, heads, term):
    # All terms of one shape are equal already, so the first one that is met tells the head of all.
    wanted = shape(heads, term)
    for number in range(len(made)):
        if shape(heads, made[number]) == wanted:
            return heads[number]
    return NONE


def numbers_with_head(heads, head):
    return [number for number in range(len(heads)) if heads[number] == head]


def merged(heads, a, b):
    low = min(heads[a], heads[b])
    high = max(heads[a], heads[b])
    return [low if head == high else head for head in heads]


def unequal_pair_of_one_shape(made, heads):
    first = {}
    for number in range(len(made)):
        other = first.setdefault(shape(heads, made[number]), number)
        if heads[other] != heads[number]:
            return (other, number)
    return None


def heads_after_join(made, heads, a, b):
    # Each merging may give further wholes equal parts, so it goes on until no such pair is left.
    # The list handed in stays as it is: the caller may have to drop what comes out.
    pair = (a, b)
    while pair is not None:
        heads = merged(heads, pair[0], pair[1])
        pair = unequal_pair_of_one_shape(made, heads)
    return heads
