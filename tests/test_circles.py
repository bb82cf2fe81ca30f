import copy
import inspect
import itertools
import unittest

from gatebook import circles


def every_order(links):
    """The same links with their keys and the circles in their lists in all orders."""
    members = list(links)
    for keys in itertools.permutations(members):
        rows = [list(itertools.permutations(links[key])) for key in keys]
        for chosen in itertools.product(*rows):
            yield {key: list(row) for key, row in zip(keys, chosen)}


def all_roads(links, name):
    """Each road from a name, by trying every step; the measure for what is told."""
    found = [[name]]
    for circle in links.get(name, []):
        found.extend([name] + rest for rest in all_roads(links, circle))
    return found


def told_road(links, name, circle):
    fitting = [names for names in all_roads(links, name) if names[-1] == circle]
    return min(fitting, key=lambda names: (len(names), names), default=None)


def told_circles(links, name):
    return sorted({names[-1] for names in all_roads(links, name)} - {name})


def all_links(names):
    """Every way to link the names so that each is only in ones that stand behind it."""
    pairs = list(itertools.combinations(names, 2))
    for taken in itertools.product((False, True), repeat=len(pairs)):
        links = {}
        for (member, circle), wanted in zip(pairs, taken):
            if wanted:
                links.setdefault(member, []).insert(0, circle)
        yield links


class CirclesCase(unittest.TestCase):
    def road(self, links, name, circle):
        before = copy.deepcopy(links)
        answer = circles.road(links, name, circle)
        self.assert_same_links(links, before)
        return answer

    def circles_of(self, links, name):
        before = copy.deepcopy(links)
        answer = circles.circles_of(links, name)
        self.assert_same_links(links, before)
        return answer

    def assert_same_links(self, links, before):
        self.assertEqual(links, before)
        self.assertEqual(list(links), list(before))


class RoadTest(CirclesCase):
    def test_one_step(self):
        self.assertEqual(self.road({"ann": ["guild"]}, "ann", "guild"), ["ann", "guild"])

    def test_circles_in_circles_several_steps_deep(self):
        links = {"ann": ["bakers"], "bakers": ["guild"], "guild": ["town"], "town": ["land"]}
        self.assertEqual(self.road(links, "ann", "land"), ["ann", "bakers", "guild", "town", "land"])
        self.assertEqual(self.road(links, "bakers", "town"), ["bakers", "guild", "town"])

    def test_one_name_in_several_circles(self):
        links = {"ann": ["guild", "bakers", "choir"]}
        for circle in ("bakers", "choir", "guild"):
            self.assertEqual(self.road(links, "ann", circle), ["ann", circle])

    def test_shortest_where_a_longer_one_is_there_too(self):
        for links in every_order({"s": ["a", "t"], "a": ["t"]}):
            self.assertEqual(self.road(links, "s", "t"), ["s", "t"])

    def test_shortest_though_a_longer_one_is_first_in_order(self):
        for links in every_order({"s": ["a", "z"], "a": ["b"], "b": ["t"], "z": ["t"]}):
            self.assertEqual(self.road(links, "s", "t"), ["s", "z", "t"])

    def test_shortest_where_the_shared_part_lies_behind_the_longer_way(self):
        for links in every_order({"s": ["a", "z"], "a": ["b"], "b": ["m"], "z": ["m"], "m": ["t"]}):
            self.assertEqual(self.road(links, "s", "t"), ["s", "z", "m", "t"])

    def test_first_of_equally_short_ones_in_whatever_order_the_links_stand(self):
        for links in every_order({"s": ["c", "a", "b"], "a": ["t"], "b": ["t"], "c": ["t"]}):
            self.assertEqual(self.road(links, "s", "t"), ["s", "a", "t"])

    def test_an_earlier_name_decides_ahead_of_a_later_one(self):
        for links in every_order({"s": ["a", "b"], "a": ["y"], "b": ["x"], "x": ["t"], "y": ["t"]}):
            self.assertEqual(self.road(links, "s", "t"), ["s", "a", "y", "t"])

    def test_a_later_name_decides_where_the_earlier_ones_are_the_same(self):
        for links in every_order({"s": ["a"], "a": ["y", "x"], "x": ["t"], "y": ["t"]}):
            self.assertEqual(self.road(links, "s", "t"), ["s", "a", "x", "t"])

    def test_a_name_to_itself(self):
        links = {"ann": ["guild"], "guild": ["town"]}
        for name in ("ann", "guild", "town", "stranger", ""):
            self.assertEqual(self.road(links, name, name), [name])
        self.assertEqual(self.road({}, "ann", "ann"), ["ann"])

    def test_none_where_there_is_no_road(self):
        links = {"ann": ["guild"], "bob": ["choir"], "guild": ["town"]}
        for name, circle in (("ann", "choir"), ("ann", "bob"), ("bob", "town"), ("guild", "choir")):
            self.assertIsNone(self.road(links, name, circle))

    def test_none_from_a_circle_down_to_its_member(self):
        links = {"ann": ["guild"], "guild": ["town"]}
        for name, circle in (("guild", "ann"), ("town", "guild"), ("town", "ann")):
            self.assertIsNone(self.road(links, name, circle))

    def test_none_for_names_that_are_in_no_link(self):
        links = {"ann": ["guild"]}
        for name, circle in (("stranger", "guild"), ("ann", "stranger"), ("stranger", "other")):
            self.assertIsNone(self.road(links, name, circle))
        self.assertIsNone(self.road({}, "ann", "guild"))

    def test_a_circle_that_is_no_key(self):
        links = {"ann": ["guild"]}
        self.assertEqual(self.road(links, "ann", "guild"), ["ann", "guild"])
        self.assertEqual(self.road(links, "guild", "guild"), ["guild"])
        self.assertIsNone(self.road(links, "guild", "ann"))

    def test_a_member_whose_list_is_empty(self):
        links = {"ann": [], "bob": ["ann"]}
        self.assertEqual(self.road(links, "bob", "ann"), ["bob", "ann"])
        self.assertIsNone(self.road(links, "ann", "bob"))

    def test_the_empty_text_as_a_name(self):
        links = {"": ["guild"], "ann": ["", "a"], "a": ["guild"]}
        self.assertEqual(self.road(links, "", "guild"), ["", "guild"])
        self.assertEqual(self.road(links, "ann", ""), ["ann", ""])
        self.assertEqual(self.road(links, "ann", "guild"), ["ann", "", "guild"])
        self.assertIsNone(self.road(links, "guild", ""))

    def test_names_of_which_one_is_the_beginning_of_another(self):
        for links in every_order({"s": ["ab", "a", "abc"], "a": ["t"], "ab": ["t"], "abc": ["t"]}):
            self.assertEqual(self.road(links, "s", "t"), ["s", "a", "t"])
        for links in every_order({"s": ["a!", "a"], "a": ["z"], "a!": ["b"], "b": ["t"], "z": ["t"]}):
            self.assertEqual(self.road(links, "s", "t"), ["s", "a", "z", "t"])
        links = {"ann": ["guild"], "anna": ["guilds"]}
        self.assertIsNone(self.road(links, "ann", "guilds"))
        self.assertIsNone(self.road(links, "anna", "guild"))

    def test_order_of_texts_is_pythons(self):
        for first, second in (("Z", "a"), ("10", "9"), ("z", "\u00e9"), (" ", "A"), ("b", "\U0001f511")):
            for links in every_order({"s": [second, first], first: ["t"], second: ["t"]}):
                self.assertEqual(self.road(links, "s", "t"), ["s", first, "t"])

    def test_every_way_to_link_five_names(self):
        for names in (("s", "b", "a", "ab", ""), ("a", "b", "c", "d", "e"), ("e", "d", "c", "b", "a")):
            for links in all_links(names):
                for name, circle in itertools.product(names, repeat=2):
                    self.assertEqual(circles.road(links, name, circle), told_road(links, name, circle))

    def test_ten_names_and_somewhat_more(self):
        for many in (10, 11, 16, 30):
            names = ["n" + str(number).zfill(2) for number in range(many)]
            chain = {member: [circle] for member, circle in zip(names, names[1:])}
            self.assertEqual(self.road(chain, names[0], names[-1]), names)
            full = {name: names[:at:-1] for at, name in enumerate(names)}
            self.assertEqual(self.road(full, names[0], names[-1]), [names[0], names[-1]])

    def test_the_answer_is_the_callers_own(self):
        links = {"ann": ["guild"], "guild": ["town"]}
        for circle in ("ann", "guild", "town"):
            self.road(links, "ann", circle).append("more")
        self.assertEqual(links, {"ann": ["guild"], "guild": ["town"]})
        self.assertEqual(self.road(links, "ann", "town"), ["ann", "guild", "town"])


class CirclesOfTest(CirclesCase):
    def test_by_one_step_or_more_in_order(self):
        for links in every_order({"ann": ["zoo", "bakers"], "bakers": ["guild"], "guild": ["town", "all"]}):
            self.assertEqual(self.circles_of(links, "ann"), ["all", "bakers", "guild", "town", "zoo"])
            self.assertEqual(self.circles_of(links, "bakers"), ["all", "guild", "town"])

    def test_each_once_though_several_roads_lead_to_it(self):
        for links in every_order({"s": ["b", "a", "t"], "a": ["t"], "b": ["t", "a"]}):
            self.assertEqual(self.circles_of(links, "s"), ["a", "b", "t"])

    def test_without_the_name_itself_and_its_members(self):
        links = {"ann": ["guild"], "guild": ["town"]}
        self.assertEqual(self.circles_of(links, "guild"), ["town"])

    def test_empty_for_a_name_that_is_in_none(self):
        links = {"ann": ["guild"], "bob": []}
        for name in ("guild", "bob", "stranger", ""):
            self.assertEqual(self.circles_of(links, name), [])
        self.assertEqual(self.circles_of({}, "ann"), [])

    def test_the_empty_text_and_beginnings_of_names(self):
        links = {"ann": ["ab", "", "a"], "": ["abc"]}
        self.assertEqual(self.circles_of(links, "ann"), ["", "a", "ab", "abc"])
        self.assertEqual(self.circles_of(links, ""), ["abc"])

    def test_order_of_texts_is_pythons(self):
        links = {"ann": ["\u00e9", "z", "a", "Z", "9", "10", " "]}
        self.assertEqual(self.circles_of(links, "ann"), [" ", "10", "9", "Z", "a", "z", "\u00e9"])

    def test_every_way_to_link_five_names(self):
        for names in (("s", "b", "a", "ab", ""), ("e", "d", "c", "b", "a")):
            for links in all_links(names):
                for name in names:
                    self.assertEqual(circles.circles_of(links, name), told_circles(links, name))

    def test_ten_names_and_somewhat_more(self):
        for many in (10, 11, 16, 30):
            names = ["n" + str(number).zfill(2) for number in range(many)]
            full = {name: names[:at:-1] for at, name in enumerate(names)}
            self.assertEqual(self.circles_of(full, names[0]), names[1:])

    def test_the_answer_is_the_callers_own(self):
        links = {"ann": ["guild"]}
        self.circles_of(links, "ann").append("more")
        self.assertEqual(links, {"ann": ["guild"]})
        self.assertEqual(self.circles_of(links, "ann"), ["guild"])


class InterfaceTest(unittest.TestCase):
    def test_names_of_the_arguments(self):
        self.assertEqual(list(inspect.signature(circles.road).parameters), ["links", "name", "circle"])
        self.assertEqual(list(inspect.signature(circles.circles_of).parameters), ["links", "name"])

    def test_kinds_of_the_answers(self):
        self.assertIs(type(circles.road({"a": ["b"]}, "a", "b")), list)
        self.assertIs(type(circles.circles_of({"a": ["b"]}, "a")), list)


if __name__ == "__main__":
    unittest.main()
