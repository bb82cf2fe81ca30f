import inspect
import itertools
import unittest

from gatebook import places

DEPTHS = (2, 199, 200, 201, 260, 1500)


def told_way(parents, cuts, place):
    """The way up as the document's words tell it, step by step; the measure for what is told."""
    if cuts[place] or parents[place] is None:
        return [place]
    return [place] + told_way(parents, cuts, parents[place])


def all_around(parents, place):
    """The place and all in which it lies, found by joining one parent after the other."""
    around = {place}
    for _ in parents:
        around |= {parents[inner] for inner in around if parents[inner] is not None}
    return around


def all_parents(many):
    """Every way to lay the places in one another so that all lie in the place nought."""
    for chosen in itertools.product(range(many), repeat=many - 1):
        parents = [None] + list(chosen)
        if all(0 in all_around(parents, place) for place in range(many)):
            yield parents


def down(many):
    """Each place in the one ahead of it, the deepest with the greatest number."""
    return [None] + list(range(many - 1))


def up(many):
    """Each place but the last in the one behind it, so that parents have the greater numbers."""
    return [None] + list(range(2, many)) + [0]


class PlacesCase(unittest.TestCase):
    def way_up(self, parents, cuts, place):
        before = (list(parents), list(cuts))
        answer = places.way_up(parents, cuts, place)
        self.assertEqual((parents, cuts), before)
        return answer

    def lies_in(self, parents, place, other):
        before = list(parents)
        answer = places.lies_in(parents, place, other)
        self.assertEqual(parents, before)
        return answer


class WayUpTest(PlacesCase):
    def test_of_the_place_nought(self):
        self.assertEqual(self.way_up([None], [False], 0), [0])
        self.assertEqual(self.way_up([None], [True], 0), [0])
        self.assertEqual(self.way_up([None, 0, 1], [False, True, False], 0), [0])

    def test_as_far_as_the_place_nought_where_none_is_cut_off(self):
        parents = [None, 0, 1, 0, 3]
        cuts = [False] * 5
        self.assertEqual(self.way_up(parents, cuts, 1), [1, 0])
        self.assertEqual(self.way_up(parents, cuts, 2), [2, 1, 0])
        self.assertEqual(self.way_up(parents, cuts, 4), [4, 3, 0])

    def test_as_far_as_the_first_one_that_is_cut_off_with_it(self):
        parents = [None, 0, 1, 2, 3]
        self.assertEqual(self.way_up(parents, [False, True, False, False, False], 4), [4, 3, 2, 1])
        self.assertEqual(self.way_up(parents, [False, True, False, True, False], 4), [4, 3])
        self.assertEqual(self.way_up(parents, [True, False, False, False, False], 4), [4, 3, 2, 1, 0])

    def test_the_place_alone_where_it_is_cut_off_itself(self):
        self.assertEqual(self.way_up([None, 0, 1], [False, False, True], 2), [2])
        self.assertEqual(self.way_up([None, 0, 1], [False, True, True], 2), [2])

    def test_cuts_beside_and_below_count_nothing(self):
        parents = [None, 0, 1, 1, 0]
        self.assertEqual(self.way_up(parents, [False, False, False, True, True], 2), [2, 1, 0])
        self.assertEqual(self.way_up(parents, [False, False, True, True, True], 1), [1, 0])

    def test_a_parent_with_a_greater_number(self):
        parents = [None, 3, 1, 0]
        self.assertEqual(self.way_up(parents, [False] * 4, 1), [1, 3, 0])
        self.assertEqual(self.way_up(parents, [False] * 4, 2), [2, 1, 3, 0])
        self.assertEqual(self.way_up(parents, [False, False, False, True], 2), [2, 1, 3])

    def test_two_hundred_places_one_within_the_other_and_somewhat_more(self):
        for many in DEPTHS:
            cuts = [False] * many
            self.assertEqual(self.way_up(down(many), cuts, many - 1), list(range(many - 1, -1, -1)))
            self.assertEqual(self.way_up(up(many), cuts, 1), list(range(1, many)) + [0])

    def test_a_cut_in_the_depth(self):
        cuts = [False] * 200
        cuts[100] = True
        self.assertEqual(self.way_up(down(200), cuts, 199), list(range(199, 99, -1)))
        self.assertEqual(self.way_up(up(200), cuts, 1), list(range(1, 101)))

    def test_every_way_to_lay_and_cut_four_places(self):
        for parents in all_parents(4):
            for cuts in itertools.product((False, True), repeat=4):
                for place in range(4):
                    self.assertEqual(self.way_up(parents, list(cuts), place), told_way(parents, cuts, place))

    def test_the_answer_is_the_callers_own(self):
        parents = [None, 0]
        cuts = [False, False]
        self.way_up(parents, cuts, 1).append(7)
        self.assertEqual((parents, cuts), ([None, 0], [False, False]))
        self.assertEqual(self.way_up(parents, cuts, 1), [1, 0])


class LiesInTest(PlacesCase):
    def test_a_place_and_itself(self):
        for place in range(4):
            self.assertIs(self.lies_in([None, 0, 1, 0], place, place), True)
        self.assertIs(self.lies_in([None], 0, 0), True)

    def test_its_parent_and_all_in_which_that_one_lies(self):
        parents = [None, 0, 1, 2]
        for other in (2, 1, 0):
            self.assertIs(self.lies_in(parents, 3, other), True)
        self.assertIs(self.lies_in(parents, 1, 0), True)

    def test_not_the_other_way_round(self):
        parents = [None, 0, 1, 2]
        for place, other in ((0, 1), (0, 3), (1, 2), (1, 3), (2, 3)):
            self.assertIs(self.lies_in(parents, place, other), False)

    def test_not_in_a_place_beside_it(self):
        parents = [None, 0, 0, 1, 2]
        for place, other in ((1, 2), (2, 1), (3, 2), (4, 1), (3, 4), (4, 3)):
            self.assertIs(self.lies_in(parents, place, other), False)

    def test_a_parent_with_a_greater_number(self):
        parents = [None, 3, 1, 0]
        for place, other in ((1, 3), (2, 3), (2, 1), (1, 0)):
            self.assertIs(self.lies_in(parents, place, other), True)
        for place, other in ((3, 1), (3, 2), (1, 2), (0, 3)):
            self.assertIs(self.lies_in(parents, place, other), False)

    def test_two_hundred_places_one_within_the_other_and_somewhat_more(self):
        for many in DEPTHS:
            self.assertIs(self.lies_in(down(many), many - 1, 0), True)
            self.assertIs(self.lies_in(down(many), 0, many - 1), False)
            self.assertIs(self.lies_in(up(many), 1, 0), True)
            self.assertIs(self.lies_in(up(many), 1, many - 1), True)
            self.assertIs(self.lies_in(up(many), 0, 1), False)

    def test_every_way_to_lay_five_places(self):
        for parents in all_parents(5):
            for place, other in itertools.product(range(5), repeat=2):
                self.assertIs(self.lies_in(parents, place, other), other in all_around(parents, place))


class InterfaceTest(unittest.TestCase):
    def test_names_of_the_arguments(self):
        self.assertEqual(list(inspect.signature(places.way_up).parameters), ["parents", "cuts", "place"])
        self.assertEqual(list(inspect.signature(places.lies_in).parameters), ["parents", "place", "other"])

    def test_kinds_of_the_answers(self):
        self.assertIs(type(places.way_up([None], [False], 0)), list)
        self.assertIs(type(places.lies_in([None], 0, 0)), bool)


if __name__ == "__main__":
    unittest.main()
