"""A house: its places, links and rules, what is done to them, and what is asked of them."""

from gatebook.circles import road
from gatebook.errors import NoPlace, Ring
from gatebook.places import lies_in, way_up
from gatebook.rules import PLACE, WHO, answer_for


class House:
    def __init__(self):
        self.parents = [None]
        self.cuts = [False]
        self.links = {}
        # A dict of True holds each rule once and keeps the order in which they were put down.
        self.rules = {}

    # A list would take a number below nought from its end. The number isn't
    # told in the error, since Python doesn't write out one of very many figures.
    def check_place(self, place):
        if place < 0 or place >= len(self.parents):
            raise NoPlace("there is no such place")

    def add_place(self, parent):
        self.check_place(parent)
        self.parents.append(parent)
        self.cuts.append(False)
        return len(self.parents) - 1

    # Every place lies in the place nought, so the one question refuses to move that one too.
    def move_place(self, place, parent):
        self.check_place(place)
        self.check_place(parent)
        if lies_in(self.parents, parent, place):
            raise Ring("a place does not go into itself or into one that lies in it")
        self.parents[place] = parent
        return True

    def set_cut(self, place, wanted):
        self.check_place(place)
        changed = self.cuts[place] != wanted
        self.cuts[place] = wanted
        return changed

    # The road of a name to itself is the name alone, so the one question
    # refuses to join a name to itself too.
    def add_link(self, member, circle):
        if circle in self.links.get(member, []):
            return False
        if road(self.links, circle, member) is not None:
            raise Ring("a circle does not lie in itself")
        self.links.setdefault(member, []).append(circle)
        return True

    def drop_link(self, member, circle):
        if circle not in self.links.get(member, []):
            return False
        self.links[member].remove(circle)
        return True

    def put_rule(self, rule):
        self.check_place(rule[PLACE])
        if rule in self.rules:
            return False
        self.rules[rule] = True
        return True

    # No rule was ever put down at a place that there isn't, so the place isn't checked.
    def lift_rule(self, rule):
        if rule not in self.rules:
            return False
        self.rules.pop(rule)
        return True

    def ask(self, name, right, place):
        self.check_place(place)
        way = way_up(self.parents, self.cuts, place)
        return answer_for(list(self.rules), self.links, name, right, way)

    # The place is checked here too, since a house without names asks nothing.
    def who_may(self, right, place):
        self.check_place(place)
        return [name for name in self.all_names() if self.ask(name, right, place)[0] == "given"]

    # A member that has left all its circles still has an empty list in the
    # links; going by the pairs leaves it out.
    def all_names(self):
        found = {}
        for member, circle in self.link_pairs():
            found[member] = True
            found[circle] = True
        for rule in self.rules:
            found[rule[WHO]] = True
        return sorted(found)

    def link_pairs(self):
        found = []
        for member, joined in self.links.items():
            found.extend([(member, circle) for circle in joined])
        return sorted(found)
