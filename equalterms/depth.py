"""How deep terms are, where each part may be taken as any term that is equal to it.

Equal terms have one depth then, so the list depths tells it by their head: depths[heads[a]] is that of a.
"""

from equalterms.equality import NONE


def depth_of_part(heads, depths, part):
    # NONE counts as 0, so that a term without parts comes out as 1.
    if part == NONE:
        return 0
    return depths[heads[part]]


def depth_by_parts(heads, depths, term):
    return 1 + max(depth_of_part(heads, depths, term[1]), depth_of_part(heads, depths, term[2]))


def lowered(made, heads, depths):
    lower = list(depths)
    for number in range(len(made)):
        head = heads[number]
        lower[head] = min(lower[head], depth_by_parts(heads, lower, made[number]))
    return lower


def least_depths(made, heads):
    # A term's parts were made before it, so no depth is above the count of terms: that is a safe beginning.
    # A depth that gets less may lower those of wholes that the round has passed already: hence several rounds.
    depths = [len(made) for head in heads]
    lower = lowered(made, heads, depths)
    while lower != depths:
        depths = lower
        lower = lowered(made, heads, depths)
    return depths
