import copy
import unittest
from itertools import product

from nogroupleaves.earn import best_plan, earned
from nogroupleaves.house import house_text, read_house
from plans import amount_of, best_of, groups_of, plans_of, random_houses
from samples import SAMPLES

# Ann holds wood, Bob holds nails, and Cyd holds nothing, but is needed for chairs.
SHOP = read_house(
    "good wood good nail good box"
    " member ann has wood 5 member bob has nail 4 has wood 1 member cyd"
    " recipe box cost 3 times 2 needs bob takes wood 2 takes nail 1 gives box 1"
    " recipe chair cost 1 times 4 needs cyd needs ann takes box 1 gives nail 2"
    " order crate pays 20 takes box 1"
    " order nails pays 4 takes nail 4"
    " order wood pays 7 takes wood 3 takes nail 1"
)
ANN, BOB, CYD = 0, 1, 2
ALL = (ANN, BOB, CYD)
# Two orders for the same goods, two recipes that do the same, and one that does nothing.
TWINS = read_house(
    "good g member a has g 1"
    " recipe r cost 0 times 2 takes g 1 gives g 1 recipe s cost 0 times 1 recipe t cost 0 times 1"
    " order o pays 5 takes g 1 order p pays 5 takes g 1 order q pays 0 takes g 0"
)


class EarnedTest(unittest.TestCase):
    def check(self, house, group, plan, expected):
        worked_out = earned(house, group, plan)
        self.assertEqual(worked_out, expected, (group, plan))
        if expected is not None:
            self.assertIs(type(worked_out), int)

    def test_pays_less_costs(self):
        self.check(SHOP, ALL, ((0, 0), ()), 0)
        self.check(SHOP, ALL, ((1, 0), ()), -3)
        self.check(SHOP, ALL, ((1, 0), (0,)), 17)
        self.check(SHOP, ALL, ((2, 0), (0,)), 14)
        self.check(SHOP, ALL, ((2, 1), (0, 1)), 20 + 4 - 2 * 3 - 1)
        self.check(SHOP, ALL, ((1, 0), (0, 2)), 20 + 7 - 3)

    def test_by_name(self):
        self.assertEqual(earned(house=SHOP, group=ALL, plan=((1, 0), (0,))), 17)

    def test_stock_is_the_sum_of_what_members_hold(self):
        self.check(SHOP, (ANN,), ((0, 0), (2,)), None)
        self.check(SHOP, (BOB,), ((0, 0), (2,)), None)
        self.check(SHOP, (ANN, BOB), ((0, 0), (2,)), 7)
        self.check(SHOP, (BOB,), ((0, 0), (1,)), 4)
        self.check(SHOP, (ANN, CYD), ((0, 0), (1,)), None)

    def test_runs_that_lack_goods(self):
        # Bob has wood for no box; with Ann there is wood for both boxes, but not for an order of wood behind them.
        self.check(SHOP, (BOB,), ((1, 0), ()), None)
        self.check(SHOP, (ANN, BOB), ((2, 0), ()), -6)
        self.check(SHOP, (ANN, BOB), ((2, 0), (2,)), None)
        self.check(SHOP, (ANN, BOB), ((1, 0), (2,)), 4)
        self.check(SHOP, ALL, ((0, 1), ()), None)
        self.check(SHOP, ALL, ((1, 2), ()), None)

    def test_runs_that_use_what_an_earlier_run_gave(self):
        self.check(SHOP, ALL, ((1, 1), ()), -4)
        self.check(SHOP, ALL, ((2, 2), (1,)), 4 - 6 - 2)
        seed = read_house(
            "good g member a has g 1 recipe r cost 0 times 4 takes g 1 gives g 2 order o pays 9 takes g 5"
        )
        self.check(seed, (0,), ((3,), (0,)), None)
        self.check(seed, (0,), ((4,), (0,)), 9)

    def test_recipes_run_in_their_order(self):
        # The first recipe cannot use what the second one gives.
        house = read_house(
            "good g good h member a recipe r cost 0 times 1 takes g 1 gives h 1 recipe s cost 0 times 1 gives g 1"
        )
        self.check(house, (0,), ((1, 1), ()), None)
        self.check(house, (0,), ((0, 1), ()), 0)

    def test_a_run_takes_before_it_gives(self):
        house = read_house("good g member a recipe r cost 0 times 1 takes g 1 gives g 2")
        self.check(house, (0,), ((1,), ()), None)

    def test_members_that_are_needed(self):
        self.check(SHOP, (ANN, CYD), ((1, 0), ()), None)
        self.check(SHOP, (ANN, BOB), ((1, 1), ()), None)
        self.check(SHOP, (BOB, CYD), ((0, 1), ()), None)
        # A recipe without a run needs nobody.
        self.check(SHOP, (ANN,), ((0, 0), ()), 0)
        self.check(SHOP, (ANN, BOB), ((1, 0), (0,)), 17)

    def test_numbers_of_runs(self):
        lots = read_house("good g member a recipe r cost 2 times 3 gives g 1 recipe s cost 1 times 1")
        for first, second in product(range(-2, 7), range(-2, 7)):
            expected = -2 * first - second if 0 <= first <= 3 and 0 <= second <= 1 else None
            self.check(lots, (0,), ((first, second), ()), expected)

    def test_wrong_lengths(self):
        for runs in ((), (0,), (0, 0, 0), (1,), (1, 0, 0)):
            self.check(SHOP, ALL, (runs, ()), None)
        bare = read_house("good g member a")
        self.check(bare, (0,), ((), ()), 0)
        self.check(bare, (0,), ((0,), ()), None)
        self.check(bare, (0,), ((), (0,)), None)

    def test_orders_that_are_not_there(self):
        for filled in ((-1,), (3,), (4,), (-1, 0), (0, 3), (0, 1, 2, 3), (-3, -2, -1)):
            self.check(TWINS, (0,), ((0, 0, 0), filled), None)

    def test_orders_not_in_order_or_twice(self):
        for filled in ((2, 0), (0, 0), (2, 2), (0, 2, 2), (0, 2, 1), (2, 1, 0)):
            self.check(TWINS, (0,), ((0, 0, 0), filled), None)
        self.check(TWINS, (0,), ((0, 0, 0), (0, 2)), 5)

    def test_orders_take_together(self):
        self.check(TWINS, (0,), ((0, 0, 0), (0,)), 5)
        self.check(TWINS, (0,), ((0, 0, 0), (1,)), 5)
        self.check(TWINS, (0,), ((0, 0, 0), (0, 1)), None)

    def test_like_step_by_step(self):
        for house in random_houses(60):
            for group in groups_of(len(house.members)):
                for plan in plans_of(house)[::7]:
                    self.check(house, group, plan, amount_of(house, group, plan))

    def test_no_plans_like_step_by_step(self):
        for group in groups_of(3):
            for runs in product((-1, 0, 1, 2, 3), repeat=2):
                for size in range(4):
                    for filled in product((-1, 0, 1, 2, 3), repeat=size):
                        self.check(SHOP, group, (runs, filled), amount_of(SHOP, group, (runs, filled)))


class BestPlanTest(unittest.TestCase):
    def test_greatest_amount(self):
        self.assertEqual(best_plan(SHOP, (CYD,)), (0, ((0, 0), ())))
        self.assertEqual(best_plan(SHOP, (ANN,)), (0, ((0, 0), ())))
        self.assertEqual(best_plan(SHOP, (BOB,)), (4, ((0, 0), (1,))))
        self.assertEqual(best_plan(SHOP, (ANN, BOB)), (24, ((1, 0), (0, 2))))
        self.assertEqual(best_plan(house=SHOP, group=ALL), (24, ((1, 0), (0, 2))))

    def test_first_plan_of_several(self):
        self.assertEqual(best_plan(TWINS, (0,)), (5, ((0, 0, 0), (0,))))

    def test_fewer_runs_of_an_earlier_recipe_come_first(self):
        # One run of either recipe suffices; (0, 1) stands before (1, 0).
        house = read_house(
            "good g member a recipe r cost 1 times 2 gives g 1 recipe s cost 1 times 2 gives g 1"
            " order o pays 4 takes g 1"
        )
        self.assertEqual(best_plan(house, (0,)), (3, ((0, 1), (0,))))

    def test_shorter_fillings_come_first(self):
        house = read_house("good g member a order o pays 0 takes g 0 order p pays 3 takes g 0 order q pays 0 takes g 0")
        # (0, 1) stands before (0, 1, 2) and before (1,).
        self.assertEqual(best_plan(house, (0,)), (3, ((), (0, 1))))

    def test_runs_stand_before_orders(self):
        # Selling the good itself earns as much as what a run makes of it.
        house = read_house(
            "good g good h member a has g 1 recipe r cost 0 times 1 takes g 1 gives h 1"
            " order o pays 3 takes h 1 order p pays 3 takes g 1"
        )
        self.assertEqual(best_plan(house, (0,)), (3, ((0,), (1,))))

    def test_nothing_is_better_than_a_loss(self):
        house = read_house("good g member a recipe r cost 9 times 4 gives g 1 order o pays 8 takes g 1")
        self.assertEqual(best_plan(house, (0,)), (0, ((0,), ())))

    def test_a_loss_can_be_worth_it(self):
        house = read_house("good g member a recipe r cost 9 times 4 gives g 1 order o pays 99 takes g 4")
        self.assertEqual(best_plan(house, (0,)), (63, ((4,), (0,))))

    def test_no_recipes_and_no_orders(self):
        self.assertEqual(best_plan(read_house("good g member a has g 9"), (0,)), (0, ((), ())))

    def test_like_all_plans(self):
        houses = random_houses(50) + [read_house(text) for text, _ in SAMPLES] + [SHOP, TWINS]
        for house in houses:
            for group in groups_of(len(house.members))[::2]:
                self.assertEqual(best_plan(house, group), best_of(house, group), (house_text(house), group))

    def test_best_plan_earns_its_amount(self):
        for house in random_houses(60):
            for group in groups_of(len(house.members)):
                amount, plan = best_plan(house, group)
                self.assertIs(type(amount), int)
                self.assertIs(type(plan), tuple)
                self.assertEqual(earned(house, group, plan), amount)

    def test_arguments_are_not_changed(self):
        for house in random_houses(20) + [SHOP, TWINS]:
            before = copy.deepcopy(house)
            for group in groups_of(len(house.members)):
                earned(house, group, best_plan(house, group)[1])
            self.assertEqual(house, before)


if __name__ == "__main__":
    unittest.main()
