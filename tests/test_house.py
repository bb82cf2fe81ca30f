import unittest

from gatebook.errors import NoPlace, Ring
from gatebook.house import House

NO_PLACES = (2, 3, 10 ** 30, 10 ** 5000, -1, -2, -3, -10 ** 30, -10 ** 5000)


def some_house():
    """The place 1 lies in nought; ann is in the guild, and that in the town."""
    house = House()
    house.add_place(0)
    house.add_link("ann", "guild")
    house.add_link("guild", "town")
    house.put_rule(("give", "town", "see", 0))
    return house


def state(house):
    return repr((house.parents, house.cuts, house.link_pairs(), list(house.rules)))


class HouseCase(unittest.TestCase):
    def assert_refused(self, error, deed):
        house = some_house()
        before = state(house)
        with self.assertRaises(error):
            deed(house)
        self.assertEqual(state(house), before)


class RingTest(HouseCase):
    def test_a_link(self):
        for member, circle in (("ann", "ann"), ("town", "town"), ("stranger", "stranger"), ("", ""),
                               ("guild", "ann"), ("town", "guild"), ("town", "ann")):
            self.assert_refused(Ring, lambda house: house.add_link(member, circle))

    def test_a_place_moved(self):
        for place, parent in ((0, 0), (0, 1), (1, 1)):
            self.assert_refused(Ring, lambda house: house.move_place(place, parent))


class NoPlaceTest(HouseCase):
    def test_all_that_names_a_place(self):
        for place in NO_PLACES:
            for deed in (
                lambda house: house.add_place(place),
                lambda house: house.move_place(place, 0),
                lambda house: house.move_place(1, place),
                lambda house: house.move_place(0, place),
                lambda house: house.move_place(place, place),
                lambda house: house.set_cut(place, True),
                lambda house: house.set_cut(place, False),
                lambda house: house.put_rule(("give", "ann", "see", place)),
                lambda house: house.ask("ann", "see", place),
                lambda house: house.who_may("see", place),
            ):
                self.assert_refused(NoPlace, deed)

    def test_but_a_rule_lifted(self):
        for place in NO_PLACES:
            house = some_house()
            before = state(house)
            self.assertIs(house.lift_rule(("give", "town", "see", place)), False)
            self.assertEqual(state(house), before)


class HousesTest(unittest.TestCase):
    def test_each_has_its_own_values(self):
        some_house()
        self.assertEqual(state(House()), repr(([None], [False], [], [])))


if __name__ == "__main__":
    unittest.main()
