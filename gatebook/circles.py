"""Names in circles within circles: the roads from a name, and the circles in which it is."""


# The names are reached in the order of their roads, shorter ones first and
# equally long ones as lists are ordered. So the first road that comes to a
# circle is the one to tell, and no road has to be compared with another.
def roads_from(links, name):
    roads = {name: [name]}
    waiting = [name]
    while waiting:
        member = waiting.pop(0)
        for circle in sorted(links.get(member, [])):
            if circle not in roads:
                roads[circle] = roads[member] + [circle]
                waiting.append(circle)
    return roads


def road(links, name, circle):
    return roads_from(links, name).get(circle)


def circles_of(links, name):
    return sorted([circle for circle in roads_from(links, name) if circle != name])
