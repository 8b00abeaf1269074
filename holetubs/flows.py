"""How water comes into tubs and goes on through their holes, at a moment as in the end."""

from holetubs.tubs import AWAY, names_of


def flows(tubs, rain, letting):
    """What comes into each tub an hour, and what each of its holes lets.

    letting(at, much) tells what each hole of the tub at that place lets, where so much comes.
    """
    names = names_of(tubs)
    comes = list(rain)
    lets = []
    # Holes lead to later tubs only, so in this order all that comes into a tub is known ahead of it.
    for at, (name, ground, holes) in enumerate(tubs):
        own = letting(at, comes[at])
        lets.append(own)
        for (height, rate, into), much in zip(holes, own):
            if into != AWAY:
                comes[names.index(into)] += much
    return comes, lets
