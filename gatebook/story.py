"""A story of deeds at a new house: the answers to them, and the house behind the last one."""

from gatebook.errors import NoPlace, Ring
from gatebook.house import House


def answers(deeds):
    house = House()
    found = []
    for deed in deeds:
        found.append(answered(house, deed))
    return found


def house_after(deeds):
    house = House()
    for deed in deeds:
        answered(house, deed)
    return (house.parents, house.cuts, house.link_pairs(), list(house.rules))


# A refused deed has changed nothing: the house refuses ahead of its first change.
def answered(house, deed):
    try:
        return done(house, deed)
    except NoPlace:
        return "no place"
    except Ring:
        return "ring"


def done(house, deed):
    word = deed[0]
    if word == "add":
        return house.add_place(deed[1])
    if word == "move":
        return house.move_place(deed[1], deed[2])
    if word == "cut" or word == "mend":
        return house.set_cut(deed[1], word == "cut")
    if word == "join":
        return house.add_link(deed[1], deed[2])
    if word == "leave":
        return house.drop_link(deed[1], deed[2])
    if word == "give" or word == "bar":
        return house.put_rule((word, deed[1], deed[2], deed[3]))
    if word == "lift":
        return house.lift_rule((deed[1], deed[2], deed[3], deed[4]))
    if word == "ask":
        return house.ask(deed[1], deed[2], deed[3])
    return house.who_may(deed[1], deed[2])
