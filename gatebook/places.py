"""Places within places: the way up from a place, and what lies in what."""


def way_up(parents, cuts, place):
    way = [place]
    # The place that is cut off still belongs to the way, so it is looked at once it is on it.
    while not cuts[way[-1]] and parents[way[-1]] is not None:
        way.append(parents[way[-1]])
    return way


# Cuts end the way up, but not what lies in what: so this walks the parents alone.
def lies_in(parents, place, other):
    reached = place
    while reached is not None and reached != other:
        reached = parents[reached]
    return reached == other
