import itertools
import random
import unittest

from gatebook import story

# The places 0 to 3, each in the one ahead of it, and 4 beside them in nought.
PLACES = (("add", 0), ("add", 1), ("add", 2), ("add", 0))
NONE_AT_3 = ("none", [], [3, 2, 1, 0], None)


def joins(pairs):
    """Links told as a text: "ann-guild guild-town"."""
    return [("join",) + tuple(pair.split("-")) for pair in pairs.split()]


class QuestionCase(unittest.TestCase):
    # True and 1 are the same for Python, but not when they are written out.
    def assert_same(self, found, wanted):
        self.assertEqual(repr(found), repr(wanted))

    def answers(self, deeds):
        before = list(deeds)
        found = story.answers(deeds)
        self.assertEqual(deeds, before)
        return found

    def assert_ask(self, deeds, name, right, place, wanted):
        self.assert_same(self.answers(list(deeds) + [("ask", name, right, place)])[-1], wanted)

    def assert_who(self, deeds, right, place, wanted):
        self.assert_same(self.answers(list(deeds) + [("who", right, place)])[-1], wanted)


class NearestPlaceTest(QuestionCase):
    def test_given_and_barred_with_road_places_and_rule(self):
        deeds = list(PLACES) + joins("ann-guild") + [("give", "guild", "see", 1), ("bar", "ann", "turn", 2)]
        self.assert_ask(deeds, "ann", "see", 3, ("given", ["ann", "guild"], [3, 2, 1], ("give", "guild", "see", 1)))
        self.assert_ask(deeds, "ann", "turn", 3, ("barred", ["ann"], [3, 2], ("bar", "ann", "turn", 2)))

    def test_places_as_far_as_the_rules_place_and_no_further(self):
        for place in range(4):
            rule = ("give", "ann", "see", place)
            self.assert_ask(list(PLACES) + [rule], "ann", "see", 3, ("given", ["ann"], list(range(3, place - 1, -1)), rule))

    def test_a_rule_counts_in_the_places_that_lie_in_its_place_and_not_around_it(self):
        rule = ("give", "ann", "see", 2)
        deeds = list(PLACES) + [rule]
        self.assert_ask(deeds, "ann", "see", 2, ("given", ["ann"], [2], rule))
        self.assert_ask(deeds, "ann", "see", 1, ("none", [], [1, 0], None))
        self.assert_ask(deeds, "ann", "see", 0, ("none", [], [0], None))
        self.assert_ask(deeds, "ann", "see", 4, ("none", [], [4, 0], None))

    def test_the_nearest_place_counts_alone(self):
        for near, far in (("give", "bar"), ("bar", "give")):
            rules = [(far, "ann", "see", 0), (near, "ann", "see", 2), (far, "ann", "see", 1)]
            word = {"give": "given", "bar": "barred"}[near]
            self.assert_ask(list(PLACES) + rules, "ann", "see", 3, (word, ["ann"], [3, 2], (near, "ann", "see", 2)))

    def test_the_nearest_place_counts_though_a_farther_one_has_the_names_own_rule(self):
        for near, far in (("give", "bar"), ("bar", "give")):
            rules = [(far, "ann", "see", 1), (near, "town", "see", 2)]
            word = {"give": "given", "bar": "barred"}[near]
            self.assert_ask(list(PLACES) + joins("ann-guild guild-town") + rules, "ann", "see", 3,
                            (word, ["ann", "guild", "town"], [3, 2], (near, "town", "see", 2)))

    def test_the_nearest_place_counts_though_a_farther_one_has_a_shorter_road(self):
        rules = [("bar", "guild", "see", 1), ("give", "town", "see", 2)]
        self.assert_ask(list(PLACES) + joins("ann-guild guild-town") + rules, "ann", "see", 2,
                        ("given", ["ann", "guild", "town"], [2], ("give", "town", "see", 2)))

    def test_a_rule_of_another_right_counts_nothing(self):
        rules = [("bar", "ann", "turn", 3), ("bar", "ann", "se", 2), ("bar", "ann", "see ", 2), ("give", "ann", "see", 1)]
        self.assert_ask(list(PLACES) + rules, "ann", "see", 3, ("given", ["ann"], [3, 2, 1], ("give", "ann", "see", 1)))
        self.assert_ask(list(PLACES) + rules[:3], "ann", "see", 3, NONE_AT_3)
        self.assert_ask(list(PLACES) + rules, "ann", "SEE", 3, NONE_AT_3)

    def test_a_rule_about_others_counts_nothing(self):
        rules = [("bar", "bob", "see", 3), ("bar", "bobs", "see", 2), ("give", "guild", "see", 1)]
        deeds = list(PLACES) + joins("ann-guild bob-bobs") + rules
        self.assert_ask(deeds, "ann", "see", 3, ("given", ["ann", "guild"], [3, 2, 1], ("give", "guild", "see", 1)))

    def test_the_rule_of_a_member_is_not_about_its_circle(self):
        deeds = list(PLACES) + joins("ann-guild") + [("give", "ann", "see", 3)]
        self.assert_ask(deeds, "guild", "see", 3, NONE_AT_3)

    def test_a_greater_number_is_not_a_nearer_place(self):
        deeds = list(PLACES) + [("move", 1, 4), ("give", "ann", "see", 4), ("bar", "ann", "see", 1)]
        self.assert_ask(deeds, "ann", "see", 3, ("barred", ["ann"], [3, 2, 1], ("bar", "ann", "see", 1)))
        self.assert_ask(deeds + [("lift", "bar", "ann", "see", 1)], "ann", "see", 3,
                        ("given", ["ann"], [3, 2, 1, 4], ("give", "ann", "see", 4)))


class CutTest(QuestionCase):
    def test_a_cut_ends_the_search(self):
        deeds = list(PLACES) + [("give", "ann", "see", 0), ("give", "ann", "see", 1), ("cut", 2)]
        self.assert_ask(deeds, "ann", "see", 3, ("none", [], [3, 2], None))
        self.assert_ask(deeds, "ann", "see", 2, ("none", [], [2], None))
        self.assert_ask(deeds, "ann", "see", 1, ("given", ["ann"], [1], ("give", "ann", "see", 1)))

    def test_the_place_that_is_cut_off_still_counts(self):
        rule = ("give", "ann", "see", 2)
        deeds = list(PLACES) + [rule, ("cut", 2)]
        self.assert_ask(deeds, "ann", "see", 3, ("given", ["ann"], [3, 2], rule))
        self.assert_ask(deeds, "ann", "see", 2, ("given", ["ann"], [2], rule))

    def test_mended_the_search_goes_on(self):
        rule = ("bar", "ann", "see", 0)
        deeds = list(PLACES) + [rule, ("cut", 2), ("cut", 1), ("mend", 2)]
        self.assert_ask(deeds, "ann", "see", 3, ("none", [], [3, 2, 1], None))
        self.assert_ask(deeds + [("mend", 1)], "ann", "see", 3, ("barred", ["ann"], [3, 2, 1, 0], rule))

    def test_cuts_below_the_asked_place_and_beside_it_count_nothing(self):
        rule = ("give", "ann", "see", 0)
        deeds = list(PLACES) + [rule, ("cut", 3), ("cut", 4)]
        self.assert_ask(deeds, "ann", "see", 2, ("given", ["ann"], [2, 1, 0], rule))

    def test_the_place_nought_cut_off(self):
        rule = ("give", "ann", "see", 0)
        self.assert_ask(list(PLACES) + [("cut", 0), rule], "ann", "see", 3, ("given", ["ann"], [3, 2, 1, 0], rule))
        self.assert_ask([("cut", 0)], "ann", "see", 0, ("none", [], [0], None))


class DecidingTest(QuestionCase):
    def assert_told(self, links, rules, name, wanted):
        """The rules in all orders; wanted is the answer at the place nought."""
        for order in itertools.permutations(rules):
            self.assert_ask(joins(links) + list(order), name, "see", 0, wanted)

    def test_the_names_own_rules_ahead_of_those_of_circles(self):
        rules = [("bar", "guild", "see", 0), ("give", "ann", "see", 0), ("bar", "town", "see", 0)]
        self.assert_told("ann-guild guild-town ann-town", rules, "ann", ("given", ["ann"], [0], rules[1]))
        rules = [("give", "guild", "see", 0), ("bar", "ann", "see", 0), ("give", "town", "see", 0)]
        self.assert_told("ann-guild guild-town ann-town", rules, "ann", ("barred", ["ann"], [0], rules[1]))

    def test_of_the_names_own_the_bar_ahead_of_the_gift(self):
        rules = [("give", "ann", "see", 0), ("bar", "ann", "see", 0), ("give", "guild", "see", 0)]
        self.assert_told("ann-guild", rules, "ann", ("barred", ["ann"], [0], rules[1]))

    def test_of_circles_the_bars_ahead_of_the_gifts_though_their_road_is_longer(self):
        rules = [("give", "guild", "see", 0), ("bar", "town", "see", 0), ("give", "choir", "see", 0)]
        self.assert_told("ann-guild ann-choir guild-town", rules, "ann", ("barred", ["ann", "guild", "town"], [0], rules[1]))

    def test_of_circles_the_bars_ahead_of_the_gifts_though_their_road_is_later(self):
        rules = [("give", "a", "see", 0), ("bar", "z", "see", 0)]
        self.assert_told("ann-a ann-z", rules, "ann", ("barred", ["ann", "z"], [0], rules[1]))

    def test_both_words_for_one_circle(self):
        rules = [("give", "guild", "see", 0), ("bar", "guild", "see", 0)]
        self.assert_told("ann-guild", rules, "ann", ("barred", ["ann", "guild"], [0], rules[1]))

    def test_of_several_circles_the_shortest_road(self):
        for word, answer in (("give", "given"), ("bar", "barred")):
            rules = [(word, "a", "see", 0), (word, "z", "see", 0), (word, "b", "see", 0)]
            self.assert_told("ann-m m-a ann-z m-b", rules, "ann", (answer, ["ann", "z"], [0], rules[1]))

    def test_of_equally_short_ones_the_first_road(self):
        for word, answer in (("give", "given"), ("bar", "barred")):
            rules = [(word, "c", "see", 0), (word, "a", "see", 0), (word, "b", "see", 0)]
            self.assert_told("ann-c ann-b ann-a", rules, "ann", (answer, ["ann", "a"], [0], rules[1]))

    def test_the_first_road_is_not_the_first_circle(self):
        rules = [("give", "a", "see", 0), ("give", "z", "see", 0)]
        self.assert_told("ann-m ann-n n-a m-z", rules, "ann", ("given", ["ann", "m", "z"], [0], rules[1]))

    def test_roads_of_one_beginning_are_told_apart_by_what_comes_behind(self):
        rules = [("give", "y", "see", 0), ("give", "x", "see", 0)]
        self.assert_told("ann-m m-x m-y", rules, "ann", ("given", ["ann", "m", "x"], [0], rules[1]))

    def test_lists_of_names_are_ordered_and_not_their_letters_in_a_row(self):
        rules = [("give", "z", "see", 0), ("give", "b", "see", 0)]
        self.assert_told("ann-a a-z ann-a! a!-b", rules, "ann", ("given", ["ann", "a", "z"], [0], rules[0]))

    def test_the_road_told_is_the_first_of_the_shortest_to_that_circle(self):
        rules = [("give", "town", "see", 0)]
        self.assert_told("ann-z z-town ann-b b-town ann-a a-c c-town", rules, "ann",
                         ("given", ["ann", "b", "town"], [0], rules[0]))

    def test_the_shortest_road_counts_for_a_circle_that_has_longer_ones_too(self):
        rules = [("give", "b", "see", 0), ("give", "a", "see", 0)]
        self.assert_told("ann-b ann-x x-a ann-a", rules, "ann", ("given", ["ann", "a"], [0], rules[1]))

    def test_a_name_that_is_a_circle(self):
        rules = [("give", "town", "see", 0), ("bar", "ann", "see", 0)]
        self.assert_told("ann-guild guild-town", rules, "guild", ("given", ["guild", "town"], [0], rules[0]))
        self.assert_told("ann-guild guild-town", rules, "town", ("given", ["town"], [0], rules[0]))
        self.assert_told("ann-guild guild-town", rules, "ann", ("barred", ["ann"], [0], rules[1]))

    def test_beginnings_of_names(self):
        rules = [("bar", "anna", "see", 0), ("bar", "an", "see", 0), ("give", "ann", "see", 0)]
        self.assert_told("ann-anna ann-an", rules, "ann", ("given", ["ann"], [0], rules[2]))
        self.assert_told("", rules[:2], "ann", ("none", [], [0], None))


class NoneTest(QuestionCase):
    def test_the_whole_way_up(self):
        self.assert_ask([], "ann", "see", 0, ("none", [], [0], None))
        self.assert_ask(PLACES, "ann", "see", 3, NONE_AT_3)
        self.assert_ask(PLACES, "ann", "see", 4, ("none", [], [4, 0], None))

    def test_a_name_that_nobody_has_heard_of(self):
        deeds = list(PLACES) + joins("ann-guild") + [("give", "guild", "see", 0), ("bar", "ann", "see", 3)]
        self.assert_ask(deeds, "stranger", "see", 3, NONE_AT_3)
        self.assert_ask(deeds, "", "see", 3, NONE_AT_3)

    def test_a_right_that_nobody_has_heard_of(self):
        deeds = list(PLACES) + joins("ann-guild") + [("give", "guild", "see", 0), ("bar", "ann", "see", 3)]
        self.assert_ask(deeds, "ann", "fly", 3, NONE_AT_3)
        self.assert_ask(deeds, "ann", "", 3, NONE_AT_3)
        self.assert_ask(deeds, "ann", "ann", 3, NONE_AT_3)

    def test_the_empty_text_as_a_name_and_as_a_right(self):
        rules = [("give", "", "see", 0), ("bar", "ann", "", 0), ("give", "", "", 0)]
        deeds = joins("ann-guild") + [("join", "bob", "")] + rules
        self.assert_ask(deeds, "", "see", 0, ("given", [""], [0], rules[0]))
        self.assert_ask(deeds, "bob", "see", 0, ("given", ["bob", ""], [0], rules[0]))
        self.assert_ask(deeds, "ann", "", 0, ("barred", ["ann"], [0], rules[1]))
        self.assert_ask(deeds, "", "", 0, ("given", [""], [0], rules[2]))
        self.assert_ask(deeds, "bob", "", 0, ("given", ["bob", ""], [0], rules[2]))
        self.assert_ask(deeds, "ann", "see", 0, ("none", [], [0], None))
        self.assert_ask(deeds, "guild", "", 0, ("none", [], [0], None))
        self.assert_who(deeds, "", 0, ["", "bob"])
        self.assert_who(deeds, "see", 0, ["", "bob"])


class WhoTest(QuestionCase):
    def test_members_and_circles_in_order_each_once(self):
        deeds = joins("bob-guild ann-guild guild-town ann-town cid-choir") + [("give", "town", "see", 0)]
        self.assert_who(deeds, "see", 0, ["ann", "bob", "guild", "town"])

    def test_the_who_of_rules(self):
        deeds = [("give", "zed", "see", 0), ("give", "ann", "see", 0), ("give", "Zed", "see", 0)]
        self.assert_who(deeds, "see", 0, ["Zed", "ann", "zed"])

    def test_a_name_by_a_rule_and_by_a_link_is_told_once(self):
        deeds = joins("ann-guild") + [("give", "ann", "see", 0), ("give", "guild", "see", 0), ("give", "ann", "turn", 0)]
        self.assert_who(deeds, "see", 0, ["ann", "guild"])

    def test_not_those_that_are_barred(self):
        deeds = joins("ann-guild bob-guild cid-guild cid-rogues") + [
            ("give", "guild", "see", 0), ("bar", "bob", "see", 0), ("bar", "rogues", "see", 0)]
        self.assert_who(deeds, "see", 0, ["ann", "guild"])

    def test_not_those_for_whom_no_rule_decides(self):
        deeds = joins("ann-guild bob-choir guild-town") + [("give", "guild", "see", 0), ("give", "dora", "turn", 0)]
        self.assert_who(deeds, "see", 0, ["ann", "guild"])

    def test_the_place_as_in_a_question(self):
        deeds = list(PLACES) + joins("ann-guild bob-guild") + [
            ("give", "guild", "see", 0), ("bar", "ann", "see", 2), ("give", "cid", "see", 1), ("give", "dan", "see", 3)]
        for place, names in ((0, "ann bob guild"), (1, "ann bob cid guild"), (2, "bob cid guild"),
                             (3, "bob cid dan guild"), (4, "ann bob guild")):
            self.assert_who(deeds, "see", place, names.split())
        for place, names in ((1, "cid"), (2, "cid"), (3, "cid dan"), (4, "ann bob guild")):
            self.assert_who(deeds + [("cut", 1)], "see", place, names.split())

    def test_names_are_found_by_rules_of_other_rights_and_at_other_places(self):
        """Names of which only a rule elsewhere tells are asked for too, and have what is theirs by a circle."""
        deeds = list(PLACES) + [("give", "ann", "turn", 4), ("bar", "bob", "see", 4), ("give", "cid", "see", 4)]
        self.assert_who(deeds, "turn", 4, ["ann"])
        self.assert_who(deeds, "see", 4, ["cid"])
        self.assert_who(deeds, "see", 3, [])
        deeds += [("join", "ann", "guild"), ("join", "bob", "guild"), ("give", "guild", "see", 3)]
        self.assert_who(deeds, "see", 3, ["ann", "bob", "guild"])

    def test_the_empty_list(self):
        self.assert_who([], "see", 0, [])
        self.assert_who(joins("ann-guild"), "see", 0, [])
        self.assert_who([("bar", "ann", "see", 0)], "see", 0, [])
        self.assert_who([("give", "ann", "turn", 0)], "see", 0, [])

    def test_names_that_are_in_no_link_and_no_rule_any_more(self):
        deeds = joins("ann-guild bob-guild") + [("give", "guild", "see", 0), ("give", "cid", "see", 0)]
        self.assert_who(deeds, "see", 0, ["ann", "bob", "cid", "guild"])
        self.assert_who(deeds + [("leave", "ann", "guild")], "see", 0, ["bob", "cid", "guild"])
        self.assert_who(deeds + [("lift", "give", "cid", "see", 0)], "see", 0, ["ann", "bob", "guild"])
        self.assert_who(deeds + [("lift", "give", "guild", "see", 0)], "see", 0, ["cid"])

    def test_order_of_texts_is_pythons(self):
        names = ["\u00e9", "z", "ab", "a", "a!", "Z", "9", "10", " ", "", "\U0001f511"]
        for shift in range(len(names)):
            deeds = [("give", name, "see", 0) for name in names[shift:] + names[:shift]]
            self.assert_who(deeds, "see", 0, sorted(names))

    def test_it_agrees_with_the_questions(self):
        deeds = list(PLACES) + joins("ann-guild bob-guild guild-town cid-town") + [
            ("give", "town", "see", 0), ("bar", "guild", "see", 1), ("give", "bob", "see", 2), ("bar", "cid", "see", 4)]
        names = ["ann", "bob", "cid", "guild", "town"]
        for place in range(5):
            asked = self.answers(deeds + [("ask", name, "see", place) for name in names])[len(deeds):]
            self.assert_who(deeds, "see", place, [name for name, answer in zip(names, asked) if answer[0] == "given"])


class RestsOnTest(QuestionCase):
    """Point 14: what changes an answer, and what doesn't."""

    DEEDS = tuple(PLACES) + tuple(joins("ann-guild ann-watch guild-town watch-town")) + (
        ("give", "town", "see", 0), ("give", "ann", "see", 1))

    def test_the_rule_told_is_lifted(self):
        deeds = list(self.DEEDS)
        self.assert_ask(deeds, "ann", "see", 2, ("given", ["ann"], [2, 1], ("give", "ann", "see", 1)))
        deeds.append(("lift", "give", "ann", "see", 1))
        town = ("give", "town", "see", 0)
        self.assert_ask(deeds, "ann", "see", 2, ("given", ["ann", "guild", "town"], [2, 1, 0], town))
        deeds.append(("lift",) + town)
        self.assert_ask(deeds, "ann", "see", 2, ("none", [], [2, 1, 0], None))
        deeds.append(town)
        self.assert_ask(deeds, "ann", "see", 2, ("given", ["ann", "guild", "town"], [2, 1, 0], town))

    def test_a_bar_is_lifted(self):
        deeds = [("give", "ann", "see", 0), ("bar", "ann", "see", 0)]
        self.assert_ask(deeds, "ann", "see", 0, ("barred", ["ann"], [0], deeds[1]))
        self.assert_ask(deeds + [("lift", "bar", "ann", "see", 0)], "ann", "see", 0, ("given", ["ann"], [0], deeds[0]))

    def test_a_step_of_the_road_is_left_and_joined_again(self):
        deeds = list(self.DEEDS[:-1])
        town = ("give", "town", "see", 0)
        by_guild = ("given", ["ann", "guild", "town"], [4, 0], town)
        by_watch = ("given", ["ann", "watch", "town"], [4, 0], town)
        self.assert_ask(deeds, "ann", "see", 4, by_guild)
        for step in (("ann", "guild"), ("guild", "town")):
            self.assert_ask(deeds + [("leave",) + step], "ann", "see", 4, by_watch)
            self.assert_ask(deeds + [("leave",) + step, ("join",) + step], "ann", "see", 4, by_guild)
            for other in (("ann", "watch"), ("watch", "town")):
                self.assert_ask(deeds + [("leave",) + other], "ann", "see", 4, by_guild)
                self.assert_ask(deeds + [("leave",) + step, ("leave",) + other], "ann", "see", 4,
                                ("none", [], [4, 0], None))

    def test_rules_away_from_the_way_up_and_about_others(self):
        asked = [("ask", name, "see", 2) for name in ("ann", "guild", "town")] + [("ask", "ann", "see", 0)]
        without = self.answers(list(self.DEEDS) + asked)[-4:]
        for word in ("give", "bar"):
            more = [(word, "ann", "see", 3), (word, "town", "see", 4), (word, "bob", "see", 2), (word, "ann", "turn", 2),
                    (word, "guilds", "see", 2), ("join", "bob", "ann"), ("join", "bob", "guild")]
            self.assert_same(self.answers(list(self.DEEDS) + more + asked)[-4:], without)

    def test_a_rule_farther_up_and_a_cut_behind_the_rules_place(self):
        wanted = ("given", ["ann"], [2, 1], ("give", "ann", "see", 1))
        for more in (("bar", "ann", "see", 0), ("cut", 1), ("cut", 0), ("cut", 3), ("bar", "guild", "see", 1)):
            self.assert_ask(list(self.DEEDS) + [more], "ann", "see", 2, wanted)

    def test_what_changes_the_answer(self):
        for more, wanted in (
            (("bar", "guild", "see", 2), ("barred", ["ann", "guild"], [2], ("bar", "guild", "see", 2))),
            (("bar", "ann", "see", 1), ("barred", ["ann"], [2, 1], ("bar", "ann", "see", 1))),
            (("cut", 2), ("none", [], [2], None)),
            (("move", 2, 0), ("given", ["ann", "guild", "town"], [2, 0], ("give", "town", "see", 0))),
        ):
            self.assert_ask(list(self.DEEDS) + [more], "ann", "see", 2, wanted)

    def test_answers_ahead_of_a_deed_stay_as_they_were(self):
        deeds = [("ask", "ann", "see", 0), ("give", "ann", "see", 0), ("ask", "ann", "see", 0), ("who", "see", 0),
                 ("join", "bob", "ann"), ("who", "see", 0), ("bar", "ann", "see", 0), ("ask", "ann", "see", 0),
                 ("who", "see", 0)]
        self.assert_same(self.answers(deeds), [
            ("none", [], [0], None), True, ("given", ["ann"], [0], deeds[1]), ["ann"], True, ["ann", "bob"], True,
            ("barred", ["ann"], [0], deeds[6]), []])

    def test_the_order_of_links_and_rules_makes_no_difference(self):
        links = joins("ann-b ann-a a-t b-t a-b")
        rules = [("give", "t", "see", 0), ("bar", "b", "see", 0), ("give", "a", "see", 0), ("give", "b", "turn", 1),
                 ("give", "t", "turn", 1)]
        asked = [("ask", name, right, 1) for name in ("ann", "a", "b", "t") for right in ("see", "turn")]
        asked += [("who", right, place) for right in ("see", "turn") for place in (0, 1)]
        wanted = None
        for order in itertools.chain(
            (list(row) + rules for row in itertools.permutations(links)),
            (links + list(row) for row in itertools.permutations(rules)),
            (list(row) + links[::-1] for row in itertools.permutations(rules)),
        ):
            found = self.answers([("add", 0)] + order + asked)[-len(asked):]
            wanted = wanted or found
            self.assert_same(found, wanted)
        self.assert_same(wanted[:2], [("barred", ["ann", "b"], [1, 0], rules[1]), ("given", ["ann", "b"], [1], rules[3])])


class ToldHouse:
    """A house kept and asked as the document's words tell it, by trying all roads; the measure for the program."""

    def __init__(self):
        self.parents = [None]
        self.cuts = [False]
        self.pairs = set()
        self.rules = []

    def state(self):
        return (self.parents, self.cuts, sorted(self.pairs), self.rules)

    def is_place(self, place):
        return place in range(len(self.parents))

    def roads(self, name):
        found = [[name]]
        for member, circle in self.pairs:
            if member == name:
                found.extend([name] + rest for rest in self.roads(circle))
        return found

    def told_road(self, name, circle):
        fitting = [names for names in self.roads(name) if names[-1] == circle]
        return min(fitting, key=lambda names: (len(names), names), default=None)

    def around(self, place):
        return [] if place is None else [place] + self.around(self.parents[place])

    def way(self, place):
        whole = self.around(place)
        ends = [at for at, step in enumerate(whole) if self.cuts[step] or step == 0]
        return whole[:ends[0] + 1]

    def toggled(self, kept, thing, wanted):
        """Puts a thing into a list or takes it out, and tells whether that is new."""
        if (thing in kept) == wanted:
            return False
        if wanted:
            kept.append(thing)
        else:
            kept.remove(thing)
        return True

    def do(self, deed):
        word, told = deed[0], deed[1:]
        named = {"add": told, "move": told, "cut": told, "mend": told, "give": told[2:], "bar": told[2:],
                 "ask": told[2:], "who": told[1:]}
        if not all(self.is_place(place) for place in named.get(word, ())):
            return "no place"
        return getattr(self, "do_" + word)(*told)

    def do_add(self, parent):
        self.parents.append(parent)
        self.cuts.append(False)
        return len(self.parents) - 1

    def do_move(self, place, parent):
        if place == 0 or place in self.around(parent):
            return "ring"
        self.parents[place] = parent
        return True

    def do_cut(self, place, wanted=True):
        before, self.cuts[place] = self.cuts[place], wanted
        return before != wanted

    def do_mend(self, place):
        return self.do_cut(place, False)

    def do_join(self, member, circle):
        if member == circle or self.told_road(circle, member):
            return "ring"
        kept = list(self.pairs)
        new = self.toggled(kept, (member, circle), True)
        self.pairs = set(kept)
        return new

    def do_leave(self, member, circle):
        kept = list(self.pairs)
        new = self.toggled(kept, (member, circle), False)
        self.pairs = set(kept)
        return new

    def do_give(self, who, right, place):
        return self.toggled(self.rules, ("give", who, right, place), True)

    def do_bar(self, who, right, place):
        return self.toggled(self.rules, ("bar", who, right, place), True)

    def do_lift(self, word, who, right, place):
        return self.toggled(self.rules, (word, who, right, place), False)

    def do_ask(self, name, right, place):
        way = self.way(place)
        for at, step in enumerate(way):
            here = [rule for rule in self.rules if rule[2:] == (right, step) and self.told_road(name, rule[1])]
            here = [rule for rule in here if rule[1] == name] or here
            here = [rule for rule in here if rule[0] == "bar"] or here
            roads = sorted((len(self.told_road(name, rule[1])), self.told_road(name, rule[1]), rule) for rule in here)
            if roads:
                _, names, rule = roads[0]
                return ("given" if rule[0] == "give" else "barred", names, way[:at + 1], rule)
        return ("none", [], way, None)

    def do_who(self, right, place):
        names = {name for pair in self.pairs for name in pair} | {rule[1] for rule in self.rules}
        return [name for name in sorted(names) if self.do_ask(name, right, place)[0] == "given"]


def some_deed(chance, names, places):
    word = chance.choice(
        "add move cut mend join join join leave give give give bar bar lift ask ask ask ask who who".split())
    place = chance.choice([chance.randrange(places)] * 12 + [-1, places + 3])
    other = chance.randrange(places)
    name, circle = chance.choice(names), chance.choice(names)
    right = chance.choice(["see", "turn", ""])
    rest = {
        "add": (place,), "move": (place, other), "cut": (place,), "mend": (place,), "join": (name, circle),
        "leave": (name, circle), "lift": (chance.choice(["give", "bar"]), name, right, place), "who": (right, place),
    }.get(word, (name, right, place))
    return (word,) + rest


def some_story(seed, many, names, places):
    chance = random.Random(seed)
    deeds = [("add", place // 2) for place in range(places - 1)]
    while len(deeds) < many:
        deeds.append(some_deed(chance, names, places))
    return deeds


class MeasureTest(QuestionCase):
    def assert_as_told(self, deeds):
        house = ToldHouse()
        self.assert_same(self.answers(deeds), [house.do(deed) for deed in deeds])
        self.assert_same(story.house_after(deeds), house.state())

    def test_many_small_stories(self):
        for seed in range(400):
            self.assert_as_told(some_story(seed, 60, ["ann", "bob", "a", ""], 4))

    def test_stories_with_more_names(self):
        for seed in range(60):
            self.assert_as_told(some_story(seed, 150, ["ann", "bob", "cid", "guild", "town", "ab", "a!", "a"], 7))

    def test_stories_of_three_hundred_deeds_and_some_more(self):
        for seed in range(6):
            self.assert_as_told(some_story(seed, 300 + 40 * seed, list("jihgfedcba"), 30))

    def test_the_stories_tell_of_everything(self):
        """What is measured above is only worth something if all answers come up there."""
        found = [(deed[0], answer[0] if isinstance(answer, tuple) else answer)
                 for seed in range(400) for deeds in [some_story(seed, 60, ["ann", "bob", "a", ""], 4)]
                 for deed, answer in zip(deeds, story.answers(deeds)) if deed[0] not in ("add", "who")]
        for word in ("move", "cut", "mend", "give", "bar", "ask"):
            self.assertIn((word, "no place"), found)
        for word in ("move", "cut", "mend", "join", "leave", "give", "bar", "lift"):
            self.assertIn((word, True), found)
        for word in ("cut", "mend", "join", "leave", "give", "bar", "lift"):
            self.assertIn((word, False), found)
        for pair in (("move", "ring"), ("join", "ring"), ("ask", "given"), ("ask", "barred"), ("ask", "none")):
            self.assertIn(pair, found)


class BoundsTest(QuestionCase):
    def test_places_two_hundred_deep_and_somewhat_more(self):
        for many in (199, 200, 201, 260, 1500):
            deeds = [("add", place) for place in range(many - 1)]
            rule = ("give", "guild", "see", 0)
            deeds += [("join", "ann", "guild"), rule]
            whole = list(range(many - 1, -1, -1))
            self.assert_ask(deeds, "ann", "see", many - 1, ("given", ["ann", "guild"], whole, rule))
            self.assert_ask(deeds, "bob", "see", many - 1, ("none", [], whole, None))
            self.assert_who(deeds, "see", many - 1, ["ann", "guild"])
            self.assert_ask(deeds + [("cut", many // 2)], "ann", "see", many - 1,
                            ("none", [], whole[:many - many // 2], None))
            self.assert_same(self.answers(deeds + [("move", 1, many - 1), ("add", many), ("add", many - 1)])[-3:],
                             ["ring", "no place", many])

    def test_some_hundred_deeds_more_than_three_hundred(self):
        names = [f"n{number:02}" for number in range(12)]
        deeds = [("add", place) for place in range(220)]
        deeds += [("join", member, circle) for member, circle in zip(names, names[1:])]
        deeds += [("give", names[-1], "see", place) for place in range(0, 220, 2)]
        deeds += [("bar", names[0], "see", place) for place in range(0, 220, 3)]
        deeds += [("ask", name, "see", place) for name in names for place in (220, 219, 100, 1)]
        deeds += [("who", "see", place) for place in range(221)]
        found = self.answers(deeds)
        self.assertGreater(len(deeds), 600)
        for place, answer in enumerate(found[-221:]):
            nearest = place - place % 2 if place < 220 else 218
            barred = place - place % 3 if place < 220 else 219
            self.assert_same(answer, names[1:] if barred >= nearest else names)
        self.assert_same(found[-221 - 4], ("given", [names[-1]], [220, 219, 218], ("give", names[-1], "see", 218)))

    def test_ten_names_each_in_all_that_stand_behind_it_and_somewhat_more(self):
        for many in (10, 11, 16, 30):
            names = [f"n{number:02}" for number in range(many)]
            deeds = [("join", member, circle) for member, circle in itertools.combinations(names[::-1], 2)]
            deeds += [("give", names[0], "see", 0)]
            self.assert_who(deeds, "see", 0, names)
            self.assert_ask(deeds, names[-1], "see", 0, ("given", [names[-1], names[0]], [0], deeds[-1]))
            self.assert_same(self.answers(deeds + [("join", names[0], names[-1])])[-1], "ring")


class OwnTest(QuestionCase):
    DEEDS = (("add", 0), ("join", "ann", "guild"), ("give", "guild", "see", 0), ("ask", "ann", "see", 1),
             ("ask", "ann", "see", 1), ("who", "see", 1), ("who", "see", 1), ("ask", "bob", "see", 1),
             ("ask", "bob", "see", 1))

    def test_what_is_given_back_is_the_callers_own(self):
        deeds = list(self.DEEDS)
        wanted = repr(story.answers(deeds))
        found = story.answers(deeds)
        for answer in found:
            for part in [answer] + (list(answer) if isinstance(answer, tuple) else []):
                if isinstance(part, list):
                    part.append("more")
        found.clear()
        self.assertEqual(deeds, list(self.DEEDS))
        self.assertEqual(repr(story.answers(deeds)), wanted)

    def test_no_two_answers_share_a_list(self):
        found = story.answers(list(self.DEEDS))
        lists = [answer for answer in found if isinstance(answer, list)]
        lists += [part for answer in found if isinstance(answer, tuple) for part in answer if isinstance(part, list)]
        self.assertEqual(len({id(part) for part in lists}), len(lists))

    def test_the_deeds_are_after_the_call_as_they_were(self):
        deeds = list(self.DEEDS)
        same = list(deeds)
        story.answers(deeds)
        story.house_after(deeds)
        self.assertEqual(len(deeds), len(same))
        for deed, before, told in zip(deeds, same, self.DEEDS):
            self.assertIs(deed, before)
            self.assertEqual(deed, told)

    def test_kinds(self):
        found = story.answers(list(self.DEEDS))
        self.assertIs(type(found), list)
        self.assertEqual([type(part) for part in found[3]], [str, list, list, tuple])
        self.assertEqual([type(part) for part in found[7]], [str, list, list, type(None)])
        self.assertEqual([type(answer) for answer in found], [int, bool, bool, tuple, tuple, list, list, tuple, tuple])


if __name__ == "__main__":
    unittest.main()
