"""Rules: the one that decides for a name, a right and the way up from a place, and the answer with its reason."""

from gatebook.circles import roads_from

# Where each part stands in a rule.
WORD = 0
WHO = 1
RIGHT = 2
PLACE = 3

ANSWERED = {"give": "given", "bar": "barred"}


def answer_for(rules, links, name, right, way):
    roads = roads_from(links, name)
    about = [rule for rule in rules if rule[RIGHT] == right and rule[WHO] in roads]
    counting = nearest(about, way)
    if not counting:
        return ("none", [], list(way), None)
    decider = told(deciding(counting, name), roads)
    places = way[:way.index(decider[PLACE]) + 1]
    return (ANSWERED[decider[WORD]], roads[decider[WHO]], places, decider)


# The rules are laid out by their places once, so that a long way up
# doesn't walk all of them anew at each of its places.
def nearest(rules, way):
    by_place = {}
    for rule in rules:
        by_place.setdefault(rule[PLACE], []).append(rule)
    for place in way:
        if place in by_place:
            return by_place[place]
    return []


# The name's own rules come ahead of the bars: an own gift outweighs the bar of a circle.
def deciding(rules, name):
    own = [rule for rule in rules if rule[WHO] == name]
    heard = own if own else rules
    bars = [rule for rule in heard if rule[WORD] == "bar"]
    return bars if bars else heard


# Rules that decide are all of one word, right and place, so no two of them have the same road.
def told(rules, roads):
    return min(rules, key=lambda rule: (len(roads[rule[WHO]]), roads[rule[WHO]]))
