import inspect
import unittest

from gatebook import story

# A list takes numbers below nought from its end, and Python writes out no number of some thousand figures.
NO_PLACES = (4, 5, 200, 10 ** 30, 10 ** 5000, -1, -2, -4, -5, -200, -10 ** 30, -10 ** 5000)

# Four places, of which 2 lies in 1 and 3 in 2; 1 is cut off.
HOUSE = (
    ("add", 0), ("add", 1), ("add", 2), ("cut", 1),
    ("join", "ann", "guild"), ("join", "guild", "town"), ("join", "bob", "guild"),
    ("give", "guild", "see", 1), ("bar", "bob", "see", 1), ("give", "town", "turn", 3),
)
EMPTY = ([None], [False], [], [])


class DeedsCase(unittest.TestCase):
    def answers(self, deeds):
        before = list(deeds)
        found = story.answers(deeds)
        self.assertEqual(deeds, before)
        return found

    def house_after(self, deeds):
        before = list(deeds)
        found = story.house_after(deeds)
        self.assertEqual(deeds, before)
        return found

    # True and 1 are the same for Python, but not when they are written out.
    def assert_same(self, found, wanted):
        self.assertEqual(repr(found), repr(wanted))

    def assert_answers(self, deeds, wanted):
        self.assert_same(self.answers(list(deeds)), wanted)

    def assert_last(self, deeds, wanted):
        self.assert_same(self.answers(list(deeds))[-1], wanted)

    def assert_house(self, deeds, wanted):
        self.assert_same(self.house_after(list(deeds)), wanted)

    def questions(self):
        names = ("ann", "bob", "guild", "town", "stranger")
        asked = [("ask", name, right, place) for name in names for right in ("see", "turn") for place in range(4)]
        return asked + [("who", right, place) for right in ("see", "turn") for place in range(4)]

    def assert_refused(self, deeds, refused, wanted):
        """The deed is answered with the text, and behind it all is as without it."""
        deeds = list(deeds)
        self.assert_last(deeds + [refused], wanted)
        self.assert_same(self.house_after(deeds + [refused]), self.house_after(deeds))
        without = self.answers(deeds + self.questions() + [("add", 0)])
        behind = self.answers(deeds + [refused] + self.questions() + [("add", 0)])
        self.assert_same(behind[:len(deeds)] + behind[len(deeds) + 1:], without)


class AddTest(DeedsCase):
    def test_numbers_in_order(self):
        self.assert_answers([("add", 0), ("add", 0), ("add", 2), ("add", 1), ("add", 4)], [1, 2, 3, 4, 5])
        self.assert_house([("add", 0), ("add", 0), ("add", 2), ("add", 1)], ([None, 0, 0, 2, 1], [False] * 5, [], []))

    def test_a_new_place_is_not_cut_off_though_its_parent_is(self):
        self.assert_house([("cut", 0), ("add", 0)], ([None, 0], [True, False], [], []))

    def test_a_parent_that_there_is_not(self):
        for parent in NO_PLACES:
            self.assert_refused(HOUSE, ("add", parent), "no place")

    def test_a_refused_one_takes_no_number(self):
        deeds = [("add", 1), ("add", 0), ("add", 2), ("add", -1), ("add", 1), ("add", 3)]
        self.assert_answers(deeds, ["no place", 1, "no place", "no place", 2, "no place"])

    def test_the_place_that_would_be_made_is_no_parent_of_itself(self):
        self.assert_answers([("add", 1), ("add", 0), ("add", 1)], ["no place", 1, 2])


class MoveTest(DeedsCase):
    ROW = (("add", 0), ("add", 1), ("add", 2), ("add", 0))

    def test_with_all_that_lies_in_it(self):
        deeds = self.ROW + (("move", 2, 4),)
        self.assert_last(deeds, True)
        self.assert_house(deeds, ([None, 0, 4, 2, 0], [False] * 5, [], []))
        self.assert_last(deeds + (("ask", "ann", "see", 3),), ("none", [], [3, 2, 4, 0], None))
        self.assert_last(deeds + (("ask", "ann", "see", 1),), ("none", [], [1, 0], None))

    def test_rules_of_the_new_places_around_count_and_those_of_the_old_do_not(self):
        deeds = self.ROW + (("give", "ann", "see", 1), ("bar", "ann", "see", 4), ("move", 2, 4))
        self.assert_last(deeds + (("ask", "ann", "see", 3),), ("barred", ["ann"], [3, 2, 4], ("bar", "ann", "see", 4)))

    def test_rules_and_cuts_go_with_the_place(self):
        deeds = self.ROW + (("give", "ann", "see", 2), ("cut", 2), ("move", 2, 4))
        self.assert_last(deeds + (("ask", "ann", "see", 3),), ("given", ["ann"], [3, 2], ("give", "ann", "see", 2)))
        self.assert_house(deeds, ([None, 0, 4, 2, 0], [False, False, True, False, False], [],
                                  [("give", "ann", "see", 2)]))

    def test_into_the_parent_that_it_has_already(self):
        for place, parent in ((1, 0), (2, 1), (3, 2), (4, 0)):
            deeds = self.ROW + (("move", place, parent),)
            self.assert_last(deeds, True)
            self.assert_same(self.house_after(list(deeds)), self.house_after(list(self.ROW)))

    def test_into_one_with_a_greater_number_and_back(self):
        deeds = self.ROW + (("move", 1, 4), ("move", 4, 0), ("move", 1, 0), ("move", 4, 3))
        self.assert_answers(deeds, [1, 2, 3, 4, True, True, True, True])
        self.assert_house(deeds, ([None, 0, 1, 2, 3], [False] * 5, [], []))

    def test_into_one_farther_up(self):
        self.assert_house(self.ROW + (("move", 3, 0),), ([None, 0, 1, 0, 0], [False] * 5, [], []))

    def test_the_place_nought_is_never_moved(self):
        for parent in range(4):
            self.assert_refused(HOUSE, ("move", 0, parent), "ring")
        self.assert_refused([], ("move", 0, 0), "ring")

    def test_into_itself(self):
        for place in range(4):
            self.assert_refused(HOUSE, ("move", place, place), "ring")

    def test_into_one_that_lies_in_it(self):
        for place, parent in ((1, 2), (2, 3), (1, 3)):
            self.assert_refused(HOUSE, ("move", place, parent), "ring")

    def test_a_cut_makes_no_difference_to_what_lies_in_what(self):
        for cut in range(4):
            for place, parent in ((1, 2), (2, 3), (1, 3), (0, 3)):
                self.assert_refused(HOUSE + (("cut", cut),), ("move", place, parent), "ring")

    def test_what_lies_in_what_is_asked_as_it_is_now(self):
        deeds = self.ROW + (("move", 2, 4), ("move", 1, 3), ("move", 4, 1), ("move", 2, 0), ("move", 4, 1))
        self.assert_answers(deeds, [1, 2, 3, 4, True, True, "ring", True, True])
        self.assert_house(deeds, ([None, 3, 0, 2, 1], [False] * 5, [], []))

    def test_a_place_that_there_is_not(self):
        for place in NO_PLACES:
            for parent in range(4):
                self.assert_last(HOUSE + (("move", place, parent),), "no place")
            self.assert_refused(HOUSE, ("move", place, 0), "no place")

    def test_into_one_that_there_is_not(self):
        for parent in NO_PLACES:
            for place in range(1, 4):
                self.assert_refused(HOUSE, ("move", place, parent), "no place")

    def test_where_ring_would_hold_too(self):
        for other in NO_PLACES:
            self.assert_refused(HOUSE, ("move", 0, other), "no place")
            self.assert_refused(HOUSE, ("move", other, other), "no place")


class CutTest(DeedsCase):
    def test_true_where_that_is_new_else_false(self):
        for place in range(3):
            deeds = [("add", 0), ("add", 1)]
            deeds += [("mend", place), ("cut", place), ("cut", place), ("mend", place), ("mend", place), ("cut", place)]
            self.assert_answers(deeds, [1, 2, False, True, False, True, False, True])

    def test_the_way_up(self):
        deeds = [("add", 0), ("add", 1), ("cut", 1), ("ask", "ann", "see", 2), ("ask", "ann", "see", 1),
                 ("ask", "ann", "see", 0), ("mend", 1), ("ask", "ann", "see", 2), ("cut", 2), ("ask", "ann", "see", 2)]
        ways = [answer[2] for answer in self.answers(deeds) if isinstance(answer, tuple)]
        self.assert_same(ways, [[2, 1], [1], [0], [2, 1, 0], [2]])

    def test_each_place_for_itself(self):
        deeds = [("add", 0), ("add", 1), ("cut", 2), ("cut", 0)]
        self.assert_house(deeds, ([None, 0, 1], [True, False, True], [], []))
        self.assert_house(deeds + [("mend", 2)], ([None, 0, 1], [True, False, False], [], []))

    def test_a_place_that_there_is_not(self):
        for place in NO_PLACES:
            self.assert_refused(HOUSE, ("cut", place), "no place")
            self.assert_refused(HOUSE, ("mend", place), "no place")


class JoinTest(DeedsCase):
    def test_true_and_false_where_the_link_is_there_already(self):
        deeds = [("join", "ann", "guild"), ("join", "ann", "guild"), ("join", "ann", "town"), ("join", "bob", "guild")]
        self.assert_answers(deeds, [True, False, True, True])
        pairs = [("ann", "guild"), ("ann", "town"), ("bob", "guild")]
        self.assert_house(deeds, ([None], [False], pairs, []))

    def test_a_link_beside_a_longer_road_is_new(self):
        deeds = [("join", "ann", "guild"), ("join", "guild", "town"), ("join", "ann", "town"), ("join", "ann", "town")]
        self.assert_answers(deeds, [True, True, True, False])

    def test_a_name_into_itself(self):
        self.assert_refused([], ("join", "ann", "ann"), "ring")
        for name in ("ann", "guild", "town", ""):
            self.assert_refused(HOUSE, ("join", name, name), "ring")

    def test_a_ring_by_one_step_and_by_several(self):
        chain = [("join", name, "abcde"[at + 1]) for at, name in enumerate("abcd")]
        for member, circle in (("b", "a"), ("e", "d"), ("c", "a"), ("d", "a"), ("e", "a"), ("e", "b")):
            self.assert_refused(chain, ("join", member, circle), "ring")
        for member, circle in (("a", "e"), ("b", "e"), ("a", "c")):
            self.assert_last(chain + [("join", member, circle)], True)

    def test_a_ring_along_one_of_several_branches(self):
        deeds = [("join", "a", "b"), ("join", "a", "c"), ("join", "a", "d"), ("join", "c", "x"), ("join", "d", "y")]
        for circle in ("b", "c", "d", "x", "y"):
            self.assert_refused(deeds, ("join", circle, "a"), "ring")
        self.assert_last(deeds + [("join", "x", "d")], True)

    def test_leaving(self):
        deeds = [("leave", "ann", "guild"), ("join", "ann", "guild"), ("join", "ann", "town"), ("leave", "ann", "guild"),
                 ("leave", "ann", "guild"), ("leave", "guild", "ann"), ("leave", "town", "ann")]
        self.assert_answers(deeds, [False, True, True, True, False, False, False])
        self.assert_house(deeds, ([None], [False], [("ann", "town")], []))

    def test_leaving_takes_away_that_link_alone(self):
        deeds = [("join", "ann", "guild"), ("join", "guild", "town"), ("join", "ann", "town")]
        self.assert_last(deeds + [("leave", "ann", "town"), ("leave", "ann", "guild")], True)
        self.assert_house(deeds + [("leave", "ann", "town")],
                          ([None], [False], [("ann", "guild"), ("guild", "town")], []))
        self.assert_last(deeds[:2] + [("leave", "ann", "town")], False)

    def test_leaving_oneself(self):
        self.assert_last(HOUSE + (("leave", "ann", "ann"),), False)

    def test_joining_again_behind_a_leave(self):
        deeds = [("join", "ann", "guild"), ("leave", "ann", "guild"), ("join", "ann", "guild"), ("join", "ann", "guild")]
        self.assert_answers(deeds, [True, True, True, False])
        self.assert_house(deeds, ([None], [False], [("ann", "guild")], []))

    def test_the_other_way_round_behind_a_leave(self):
        deeds = [("join", "a", "b"), ("join", "b", "c"), ("join", "c", "a"), ("leave", "b", "c"), ("join", "c", "a")]
        self.assert_answers(deeds, [True, True, "ring", True, True])
        self.assert_house(deeds, ([None], [False], [("a", "b"), ("c", "a")], []))

    def test_nothing_is_left_of_a_link_that_is_left(self):
        self.assert_house([("join", "ann", "guild"), ("leave", "ann", "guild")], EMPTY)

    def test_the_empty_text_as_a_name(self):
        deeds = [("join", "", "guild"), ("join", "ann", ""), ("join", "guild", ""), ("join", "", "guild"),
                 ("leave", "", "guild"), ("join", "guild", "")]
        self.assert_answers(deeds, [True, True, "ring", False, True, True])


class RuleTest(DeedsCase):
    def test_true_and_false_where_it_is_there_already(self):
        for word in ("give", "bar"):
            deed = (word, "ann", "see", 0)
            self.assert_answers([deed, deed, deed], [True, False, False])
            self.assert_house([deed, deed], ([None], [False], [], [deed]))

    def test_both_words_for_one_name_right_and_place(self):
        deeds = [("give", "ann", "see", 0), ("bar", "ann", "see", 0), ("give", "ann", "see", 0), ("bar", "ann", "see", 0)]
        self.assert_answers(deeds, [True, True, False, False])
        self.assert_house(deeds, ([None], [False], [], deeds[:2]))

    def test_another_name_right_or_place_is_another_rule(self):
        deeds = [("add", 0), ("give", "ann", "see", 0), ("give", "bob", "see", 0), ("give", "ann", "turn", 0),
                 ("give", "ann", "see", 1), ("give", "see", "ann", 0)]
        self.assert_answers(deeds, [1, True, True, True, True, True])
        self.assert_house(deeds, ([None, 0], [False, False], [], deeds[1:]))

    def test_a_place_that_there_is_not(self):
        for place in NO_PLACES:
            self.assert_refused(HOUSE, ("give", "ann", "see", place), "no place")
            self.assert_refused(HOUSE, ("bar", "ann", "see", place), "no place")

    def test_a_refused_one_does_not_come_to_be_with_its_place(self):
        deeds = [("give", "ann", "see", 1), ("add", 0), ("ask", "ann", "see", 1), ("give", "ann", "see", 1)]
        self.assert_answers(deeds, ["no place", 1, ("none", [], [1, 0], None), True])

    def test_lifting(self):
        for word, other in (("give", "bar"), ("bar", "give")):
            deeds = [("lift", word, "ann", "see", 0), (word, "ann", "see", 0), ("lift", other, "ann", "see", 0),
                     ("lift", word, "bob", "see", 0), ("lift", word, "ann", "turn", 0), ("lift", word, "ann", "see", 0),
                     ("lift", word, "ann", "see", 0)]
            self.assert_answers(deeds, [False, True, False, False, False, True, False])
            self.assert_house(deeds[:5], ([None], [False], [], [(word, "ann", "see", 0)]))
            self.assert_house(deeds, EMPTY)

    def test_lifting_takes_away_that_rule_alone(self):
        rules = [("give", "ann", "see", 0), ("bar", "ann", "see", 0), ("give", "ann", "see", 1), ("give", "bob", "see", 0)]
        for rule in rules:
            deeds = [("add", 0)] + rules + [("lift",) + rule]
            self.assert_last(deeds, True)
            self.assert_house(deeds, ([None, 0], [False, False], [], [other for other in rules if other != rule]))

    def test_lifting_the_rule_of_a_circle_by_its_member_does_nothing(self):
        deeds = [("join", "ann", "guild"), ("give", "guild", "see", 0), ("lift", "give", "ann", "see", 0)]
        self.assert_answers(deeds, [True, True, False])

    def test_lifting_a_rule_of_a_place_around_does_nothing(self):
        deeds = [("add", 0), ("give", "ann", "see", 0), ("lift", "give", "ann", "see", 1)]
        self.assert_answers(deeds, [1, True, False])

    def test_lifting_at_a_place_that_there_is_not(self):
        everywhere = [("give", "ann", "see", place) for place in range(4)]
        for place in NO_PLACES:
            for word in ("give", "bar"):
                self.assert_refused(HOUSE + tuple(everywhere), ("lift", word, "ann", "see", place), False)
        self.assert_refused([], ("lift", "give", "ann", "see", 1), False)

    def test_put_down_again_behind_its_lift_it_stands_behind_all_others(self):
        rules = [("give", "ann", "see", 0), ("bar", "bob", "see", 0), ("give", "cid", "see", 0)]
        deeds = rules + [("lift",) + rules[0], rules[0]]
        self.assert_answers(deeds, [True, True, True, True, True])
        self.assert_house(deeds, ([None], [False], [], [rules[1], rules[2], rules[0]]))

    def test_put_down_again_while_it_is_there_it_stays_where_it_stands(self):
        rules = [("give", "ann", "see", 0), ("bar", "bob", "see", 0)]
        self.assert_house(rules + [rules[0]], ([None], [False], [], rules))


class NoPlaceTest(DeedsCase):
    def test_every_deed_but_lift(self):
        for place in NO_PLACES:
            for deed in (
                ("add", place), ("move", 1, place), ("move", place, 1), ("cut", place), ("mend", place),
                ("give", "ann", "see", place), ("bar", "ann", "see", place),
                ("ask", "ann", "see", place), ("who", "see", place),
            ):
                self.assert_refused(HOUSE, deed, "no place")

    def test_in_a_new_house(self):
        for place in (1, 2, -1, -2, 10 ** 5000, -10 ** 5000):
            for deed in (
                ("add", place), ("move", 0, place), ("move", place, 0), ("cut", place), ("mend", place),
                ("give", "ann", "see", place), ("bar", "ann", "see", place),
                ("ask", "ann", "see", place), ("who", "see", place),
            ):
                self.assert_answers([deed], ["no place"])
                self.assert_house([deed], EMPTY)


class HouseAfterTest(DeedsCase):
    def test_a_new_house(self):
        self.assert_house([], EMPTY)
        self.assert_answers([], [])

    def test_parents_cuts_links_and_rules(self):
        self.assert_house(HOUSE, (
            [None, 0, 1, 2], [False, True, False, False],
            [("ann", "guild"), ("bob", "guild"), ("guild", "town")],
            [("give", "guild", "see", 1), ("bar", "bob", "see", 1), ("give", "town", "turn", 3)],
        ))

    def test_links_in_pythons_order_of_tuples(self):
        pairs = [("b", "c"), ("a", "z"), ("", "b"), ("a", "Z"), ("ab", "a!"), ("a", ""), ("a!", "c"), ("Z", "b"),
                 ("a", "\u00e9"), ("10", "9"), ("9", "b")]
        deeds = [("join", member, circle) for member, circle in pairs]
        self.assert_house(deeds, ([None], [False], sorted(pairs), []))
        self.assert_house(deeds[::-1], ([None], [False], sorted(pairs), []))

    def test_rules_not_in_order_but_as_they_were_put_down(self):
        rules = [("give", "bob", "see", 1), ("bar", "ann", "turn", 0), ("give", "ann", "see", 1), ("bar", "ann", "see", 0)]
        self.assert_house([("add", 0)] + rules, ([None, 0], [False, False], [], rules))
        self.assert_house([("add", 0)] + rules[::-1], ([None, 0], [False, False], [], rules[::-1]))

    def test_questions_change_nothing(self):
        self.assert_same(self.house_after(list(HOUSE) + self.questions()), self.house_after(list(HOUSE)))

    def test_kinds(self):
        found = story.house_after(list(HOUSE))
        self.assertIs(type(found), tuple)
        self.assertEqual([type(part) for part in found], [list] * 4)
        self.assertEqual({type(pair) for pair in found[2]} | {type(rule) for rule in found[3]}, {tuple})

    def test_what_is_given_back_is_the_callers_own(self):
        deeds = list(HOUSE) + self.questions()
        wanted = repr(story.house_after(deeds))
        told = repr(story.answers(deeds))
        for part in story.house_after(deeds):
            part.append("more")
            part[0] = "other"
        self.assertEqual(repr(story.house_after(deeds)), wanted)
        self.assertEqual(repr(story.answers(deeds)), told)
        self.assertEqual(deeds, list(HOUSE) + self.questions())

    def test_each_call_begins_with_a_new_house(self):
        for _ in range(3):
            self.assert_answers([("add", 0), ("join", "a", "b"), ("give", "a", "see", 1)], [1, True, True])
            self.assert_house([], EMPTY)


class InterfaceTest(unittest.TestCase):
    def test_names_of_the_arguments(self):
        self.assertEqual(list(inspect.signature(story.answers).parameters), ["deeds"])
        self.assertEqual(list(inspect.signature(story.house_after).parameters), ["deeds"])


if __name__ == "__main__":
    unittest.main()
