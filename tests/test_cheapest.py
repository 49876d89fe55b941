import itertools
import random
import unittest

from keptcalls.cheapest import best, cheapest_clears
from keptcalls.comparing import compare
from keptcalls.errors import NoFunction, NoMenu, NoPrices
from keptcalls.rooms import told
from tests import drawn
from tests.samples import BOXES, BUMP, COUNTER, EMPTY, MAKE, PAIR, READ, SAME, call, choice_with, library_with, marks, plain

STALE, FRESH = marks("thing"), marks("thing", clears=((0, 0),))
NAMED = marks("name", clears=((0, 0),))
# Two functions that read; the second one returns the number plus 1.
TWICE = library_with(MAKE, BUMP, READ, (1, (0, None), None, (("get", 1, 0, 0), ("add", 1, 1), ("return", 1))), modulus=2)
BARE = (2, ((), ()), (MAKE, SAME), (0, 1))


def plain_menu(library, **offers):
    """The menu in which the functions f0, f1, .. have these offers, each other one being plain for nothing."""
    return [offers.get(f"f{f}", [(None, 0)]) for f in range(len(library[2]))]


class CheapestTest(unittest.TestCase):
    def wanted(self, library, slots, rows, limit):
        """The answer by the document's words, for (price, choice) in the order in which they are looked at."""
        answers = [compare(library, slots, choice, limit) for price, choice in rows]
        safe = [price for (price, choice), answer in zip(rows, answers) if answer[0] == "safe"]
        some = [(price, choice, answer) for (price, choice), answer in zip(rows, answers)
                if not safe or price <= min(safe)]
        for price, choice, answer in some:
            if answer[0] == "full":
                return ("full", choice)
        bars = [(choice, answer[1]) for price, choice, answer in some if answer[0] == "apart"]
        if not safe:
            return ("none", bars)
        return ("best", min(safe), [choice for price, choice, answer in some if answer[0] == "safe"], bars)

    def holds(self, library, slots, answer, wanted):
        """The answer is the wanted one, but for the histories, which are apart and as short."""
        bars = {"best": 3, "none": 1}.get(answer[0])
        self.assertIs(type(answer), tuple)
        if bars is not None:
            self.assertIs(type(answer[bars]), list)
            self.assertEqual([(choice, len(history)) for choice, history in answer[bars]],
                             [(choice, len(history)) for choice, history in wanted[bars]])
            for bar in answer[bars]:
                self.assertEqual((type(bar), type(bar[1])), (tuple, list))
                self.assert_apart(library, slots, *bar)
            self.assertEqual(answer[:bars], wanted[:bars])
            self.assertEqual(len(answer), bars + 1)
        else:
            self.assertEqual(answer, wanted)
        return answer

    def assert_apart(self, library, slots, choice, history):
        one, other = told(library, slots, history, plain(library))[0], told(library, slots, history, choice)[0]
        self.assertEqual(one[:-1], other[:-1])
        self.assertNotEqual(one[-1], other[-1])

    def best(self, library, slots, menu, limit):
        rows = [(sum(price for settings, price in offers), tuple(settings for settings, price in offers))
                for offers in itertools.product(*menu)]
        answer = best(library, slots, menu, limit)
        return self.holds(library, slots, answer, self.wanted(library, slots, sorted(rows, key=lambda row: row[0]), limit))

    def clears(self, library, slots, choice, f, prices, limit):
        rows = []
        for many in range(len(prices) + 1):
            for clears in itertools.combinations(sorted(prices), many):
                rows.append((sum(prices[one] for one in clears), len(clears), clears))
        rows = [(price, choice[:f] + (choice[f][:4] + (clears,),) + choice[f + 1:]) for price, many, clears in sorted(rows)]
        answer = cheapest_clears(library, slots, choice, f, prices, limit)
        return self.holds(library, slots, answer, self.wanted(library, slots, rows, limit))


class TestBest(CheapestTest):
    def test_the_interface(self):
        for one in (best, cheapest_clears):
            self.assertEqual(one.__module__, "keptcalls.cheapest")

    def test_the_example_of_the_document(self):
        menu = [[(None, 0)], [(None, 0)], [(STALE, 1), (FRESH, 2), (None, 9)]]
        answer = self.best(COUNTER, (0,), menu, 60)
        self.assertEqual(answer[:3], ("best", 2, [(None, None, FRESH)]))
        self.assertEqual([(choice, len(history)) for choice, history in answer[3]], [((None, None, STALE), 4)])

    def test_the_cheapest_is_safe(self):
        answer = self.best(COUNTER, (0,), plain_menu(COUNTER, f2=[(STALE, 3), (None, 1), (FRESH, 2)]), 60)
        self.assertEqual(answer, ("best", 1, [plain(COUNTER)], []))

    def test_all_safe_choices_of_the_least_price(self):
        # Those of one price come in the order of the menu, safe ones and bars alike.
        offers = [(FRESH, 4), (STALE, 4), (None, 4), (NAMED, 4)]
        for order in itertools.permutations(offers):
            answer = self.best(COUNTER, (0,), plain_menu(COUNTER, f2=list(order)), 60)
            self.assertEqual(answer[:3], ("best", 4, [choice_with(COUNTER, f2=settings) for settings, price in order
                                                      if settings in (FRESH, None)]))
            self.assertEqual([choice[2] for choice, history in answer[3]],
                             [settings for settings, price in order if settings in (STALE, NAMED)])

    def test_bars_behind_the_first_safe_one_of_its_price(self):
        answer = self.best(COUNTER, (0,), plain_menu(COUNTER, f2=[(FRESH, 4), (STALE, 4), (NAMED, 5)]), 60)
        self.assertEqual([choice[2] for choice, history in answer[3]], [STALE])

    def test_dearer_choices_are_no_bars(self):
        answer = self.best(COUNTER, (0,), plain_menu(COUNTER, f2=[(NAMED, 9), (FRESH, 4), (None, 5), (STALE, 3)]), 60)
        self.assertEqual(answer[:3], ("best", 4, [choice_with(COUNTER, f2=FRESH)]))
        self.assertEqual([choice[2] for choice, history in answer[3]], [STALE])

    def test_the_last_offers_change_fastest(self):
        menu = plain_menu(TWICE, f2=[(STALE, 0), (NAMED, 0)], f3=[(NAMED, 0), (STALE, 0), (marks("thing", size=2), 0)])
        answer = self.best(TWICE, (0,), menu, 60)
        self.assertEqual(answer[0], "none")
        self.assertEqual([choice[2:] for choice, history in answer[1]],
                         [(one, other) for one in (STALE, NAMED) for other in (NAMED, STALE, marks("thing", size=2))])
        menu = plain_menu(TWICE, f2=[(FRESH, 1), (None, 0)], f3=[(FRESH, 0), (None, 1)])
        self.assertEqual(self.best(TWICE, (0,), menu, 400), ("best", 0, [(None, None, None, FRESH)], []))
        menu = plain_menu(TWICE, f2=[(FRESH, 1), (None, 1)], f3=[(FRESH, 0), (None, 0)])
        self.assertEqual(self.best(TWICE, (0,), menu, 400)[2], [(None, None) + some for some in (
            (FRESH, FRESH), (FRESH, None), (None, FRESH), (None, None))])

    def test_prices_are_added(self):
        menu = plain_menu(TWICE, f0=[(None, 7)], f2=[(STALE, 1), (FRESH, 30)], f3=[(FRESH, 20), (None, 50), (STALE, 2)])
        answer = self.best(TWICE, (0,), menu, 400)
        self.assertEqual(answer[:3], ("best", 57, [(None, None, FRESH, FRESH)]))
        # 1 + 2, 1 + 20, 30 + 2 and 1 + 50 are less than 30 + 20 but for the last one.
        self.assertEqual([choice[2:] for choice, history in answer[3]], [(STALE, STALE), (STALE, FRESH), (FRESH, STALE)])

    def test_none_is_safe(self):
        answer = self.best(COUNTER, (0,), plain_menu(COUNTER, f2=[(NAMED, 7), (STALE, 3)]), 60)
        self.assertEqual((answer[0], [choice[2] for choice, history in answer[1]]), ("none", [STALE, NAMED]))
        self.assertEqual([len(history) for choice, history in answer[1]], [4, 6])

    def test_the_histories_are_as_short_as_any(self):
        # Behind what all histories of so many deeds say.
        answer = self.best(COUNTER, (0,), plain_menu(COUNTER, f2=[(STALE, 0), (NAMED, 0)]), 60)
        every = [call(0, k=0), call(0), call(1, 0), call(2, 0), ("drop", 0)]
        for choice, history in answer[1]:
            for shorter in itertools.product(every, repeat=len(history) - 1):
                self.assertEqual(told(COUNTER, (0,), list(shorter), choice)[0],
                                 told(COUNTER, (0,), list(shorter), plain(COUNTER))[0])

    def test_full(self):
        # FRESH has 9 rows, plain fewer.
        self.assertEqual([compare(COUNTER, (0,), choice_with(COUNTER, f2=FRESH), limit)[0] for limit in (8, 9)], ["full", "safe"])
        fresh, stale = choice_with(COUNTER, f2=FRESH), choice_with(COUNTER, f2=STALE)
        for price, wanted in ((1, ("full", fresh)), (2, ("full", fresh)), (3, ("best", 2, [plain(COUNTER)], []))):
            for offers in ([(FRESH, price), (None, 2)], [(None, 2), (FRESH, price)]):
                self.assertEqual(self.best(COUNTER, (0,), plain_menu(COUNTER, f2=offers), 8), wanted)
        # The first one is told, also behind one that is apart, and also where none is safe.
        self.assertEqual(compare(COUNTER, (0,), stale, 8)[0], "apart")
        self.assertEqual(self.best(COUNTER, (0,), plain_menu(COUNTER, f2=[(FRESH, 1), (STALE, 0)]), 8), ("full", fresh))
        self.assertEqual(self.best(COUNTER, (0,), plain_menu(COUNTER, f2=[(FRESH, 1), (STALE, 0), (NAMED, 2)]), 2), ("full", stale))
        larger = marks("thing", size=2, clears=((0, 0),))
        for offers, first in (([(FRESH, 1), (larger, 1)], FRESH), ([(larger, 1), (FRESH, 1)], larger), ([(larger, 2), (FRESH, 1)], FRESH)):
            self.assertEqual(self.best(COUNTER, (0,), plain_menu(COUNTER, f2=offers), 2), ("full", choice_with(COUNTER, f2=first)))

    def test_a_library_of_no_function(self):
        for slots in ((), (0,), (0, 0)):
            self.assertEqual(self.best(EMPTY, slots, [], 1), ("best", 0, [()], []))

    def test_the_greatest_and_the_least_price(self):
        menu = plain_menu(COUNTER, f0=[(None, 99)], f1=[(None, 99)], f2=[(STALE, 0), (FRESH, 99)])
        self.assertEqual(self.best(COUNTER, (0,), menu, 60)[:2], ("best", 297))

    def test_lists_are_new(self):
        menu = plain_menu(COUNTER, f2=[(STALE, 0), (NAMED, 0), (FRESH, 0), (None, 0)])
        answer = best(COUNTER, (0,), menu, 60)
        made = [answer[2], answer[3]] + [history for choice, history in answer[3]]
        self.assertEqual(len({id(one) for one in made}), 4)
        for one in made:
            one.clear()
        self.best(COUNTER, (0,), menu, 60)
        self.assertEqual(menu, plain_menu(COUNTER, f2=[(STALE, 0), (NAMED, 0), (FRESH, 0), (None, 0)]))

    def test_drawn_ones(self):
        words = {"best": 0, "none": 0, "full": 0}
        for seed in range(60):
            draw = random.Random(f"menu {seed}")
            library = drawn.library_of(seed)
            menu, many = [], 1
            for f in range(5):
                offers = list(dict.fromkeys(draw.choice([None, drawn.settings_of(draw, library[1])]) for _ in range(draw.randint(1, 3))))
                offers = offers if many * len(offers) <= 12 else offers[:1]
                many *= len(offers)
                menu.append([(settings, draw.choice([0, 1, 1, 2, 99])) for settings in offers])
            words[self.best(library, drawn.slots_of(seed, library), menu, 30)[0]] += 1
        self.assertTrue(all(words.values()), words)


class TestMenus(CheapestTest):
    def refuses(self, library, *menus):
        for menu in menus:
            with self.assertRaises(NoMenu, msg=menu) as caught:
                best(library, (0,), menu, 60)
            self.assertIs(type(caught.exception), NoMenu)

    def test_the_number_of_choices(self):
        library = library_with(*[(0, (), None, (("return", 0),) * 0)] * 5)
        some = [(None, 0), (marks("name"), 0), (marks("thing"), 0), (marks("content"), 0)]
        for many, right in (((4, 4, 2, 1, 1), True), ((2, 2, 2, 2, 2), True), ((1, 3, 3, 3, 1), True), ((1, 1, 1, 1, 4), True),
                            ((4, 3, 3, 1, 1), False), ((2, 2, 2, 3, 2), False), ((4, 4, 4, 1, 1), False), ((4, 4, 4, 4, 4), False)):
            menu = [some[:one] for one in many]
            if right:
                answer = best(library, (), menu, 60)
                self.assertEqual(answer[:2] + answer[3:], ("best", 0, []))
                self.assertEqual(answer[2], [tuple(settings for settings, price in offers) for offers in itertools.product(*menu)])
            else:
                self.refuses(library, menu)

    def test_the_number_of_offers(self):
        sizes = [(marks("name", size=size), 0) for size in (1, 2, 3)]
        four = [(None, 0)] + sizes
        self.assertEqual(best(EMPTY[:2] + ((MAKE,), ()), (), [four], 60)[0], "best")
        self.refuses(COUNTER, plain_menu(COUNTER, f2=four + [(STALE, 0)]), plain_menu(COUNTER, f0=[]),
                     [[], [], []], [[(None, 0)], [], [(None, 0)]])

    def test_one_list_for_each_function(self):
        for many in (0, 1, 2, 4, 5):
            self.refuses(COUNTER, [[(None, 0)]] * many)
        self.refuses(EMPTY, [[(None, 0)]], [[]])

    def test_equal_settings(self):
        self.refuses(COUNTER, plain_menu(COUNTER, f2=[(None, 0), (None, 0)]), plain_menu(COUNTER, f2=[(None, 0), (None, 1)]),
                     plain_menu(COUNTER, f0=[(STALE, 0), (None, 3), (STALE, 9)]),
                     plain_menu(COUNTER, f0=[(STALE, 0), (tuple(list(STALE)), 1)]))
        # Lists of several functions may have equal ones.
        self.assertEqual(self.best(COUNTER, (0,), plain_menu(COUNTER, f0=[(FRESH, 1), (None, 0)], f2=[(FRESH, 1), (None, 0)]), 60)[0],
                         "best")

    def test_prices(self):
        for price in (-1, 100, 10 ** 20, True, False, None, "1", (1,), [1], {}):
            self.refuses(COUNTER, plain_menu(COUNTER, f2=[(FRESH, price)]), plain_menu(COUNTER, f0=[(None, 1), (FRESH, price)]))

    def test_settings(self):
        for settings in (True, False, 0, (), [], "name", list(FRESH), FRESH[:4], FRESH + (0,), ("names",) + FRESH[1:],
                         marks("thing", clears=((0, 1),)), marks("thing", size=0), marks("thing", errors=True), (FRESH,), (None,)):
            self.refuses(COUNTER, plain_menu(COUNTER, f2=[(settings, 0)]), plain_menu(COUNTER, f1=[(None, 0), (settings, 0)]))
        self.assertEqual(best(BOXES, (), plain_menu(BOXES, f1=[(marks("thing", clears=((1, 1),)), 5)]), 60)[:2], ("best", 5))

    def test_tuples_for_lists_and_lists_for_tuples(self):
        menu = plain_menu(COUNTER)
        self.refuses(COUNTER, tuple(menu), [tuple(offers) for offers in menu], menu[:2] + [((None, 0),)],
                     menu[:2] + [[[None, 0]]], menu[:2] + [[(None, 0, 0)]], menu[:2] + [[(None,)]], menu[:2] + [[None]],
                     menu[:2] + [(None, 0)], menu[:2] + [None], menu[:2] + [{None: 0}], {0: menu[0], 1: menu[1], 2: menu[2]},
                     None, True, 0, "", "abc", (), [], {}, [0, 0, 0], ["", "", ""], [[0], [0], [0]])


class TestClears(CheapestTest):
    def test_the_settings_of_the_examples(self):
        answer = self.clears(COUNTER, (0,), choice_with(COUNTER, f2=STALE), 2, {(0, 0): 7}, 60)
        self.assertEqual(answer[:3], ("best", 7, [choice_with(COUNTER, f2=FRESH)]))
        self.assertEqual([choice for choice, history in answer[3]], [choice_with(COUNTER, f2=STALE)])
        # The clears that f has mean nothing.
        self.assertEqual(cheapest_clears(COUNTER, (0,), choice_with(COUNTER, f2=FRESH), 2, {(0, 0): 7}, 60), answer)

    def test_a_price_of_nothing(self):
        answer = self.clears(COUNTER, (0,), choice_with(COUNTER, f2=STALE), 2, {(0, 0): 0}, 60)
        self.assertEqual(answer[:3], ("best", 0, [choice_with(COUNTER, f2=FRESH)]))
        self.assertEqual([choice for choice, history in answer[3]], [choice_with(COUNTER, f2=STALE)])

    def test_none_is_safe(self):
        answer = self.clears(COUNTER, (0,), choice_with(COUNTER, f2=marks("name")), 2, {(0, 0): 1}, 60)
        self.assertEqual((answer[0], [choice[2][4] for choice, history in answer[1]]), ("none", [(), ((0, 0),)]))

    def test_the_order(self):
        # With "name" none is safe, so all are bars, in their order: the sums, then the lengths, then ascending.
        library = library_with(MAKE, BUMP, READ, modulus=2, kinds=((None, None), (None, 0)))
        fields = [(0, 0), (0, 1), (1, 0), (1, 1)]
        choice = choice_with(library, f2=marks("name"))
        for prices, ahead in (((0, 0, 0, 0), [(), ((0, 0),), ((0, 1),), ((1, 0),), ((1, 1),), ((0, 0), (0, 1)), ((0, 0), (1, 0))]),
                              ((1, 1, 1, 1), [(), ((0, 0),), ((0, 1),), ((1, 0),), ((1, 1),), ((0, 0), (0, 1))]),
                              ((3, 2, 1, 0), [(), ((1, 1),), ((1, 0),), ((1, 0), (1, 1)), ((0, 1),), ((0, 1), (1, 1)), ((0, 0),),
                                              ((0, 0), (1, 1)), ((0, 1), (1, 0))]),
                              ((99, 0, 99, 0), [(), ((0, 1),), ((1, 1),), ((0, 1), (1, 1)), ((0, 0),), ((1, 0),), ((0, 0), (0, 1)),
                                                ((0, 0), (1, 1)), ((0, 1), (1, 0)), ((1, 0), (1, 1)), ((0, 0), (0, 1), (1, 1))])):
            answer = self.clears(library, (0,), choice, 2, dict(zip(fields, prices)), 60)
            self.assertEqual((answer[0], len(answer[1])), ("none", 16))
            self.assertEqual([choice[2][4] for choice, history in answer[1]][:len(ahead)], ahead)

    def test_the_order_of_the_keys_means_nothing(self):
        fields = [(0, 0), (1, 0), (1, 1)]
        choice = choice_with(BOXES, f2=marks("name"), f1=marks("thing"))
        wanted = cheapest_clears(BOXES, (1, 0), choice, 2, {one: 1 for one in fields}, 40)
        for order in itertools.permutations(fields):
            self.assertEqual(cheapest_clears(BOXES, (1, 0), choice, 2, {one: 1 for one in order}, 40), wanted)

    def test_other_functions_stay_what_they_are(self):
        # The functions of the document's example: with f3's clears one is safe, another one is not.
        held = marks("thing")
        choice = (None, None, None, held, held)
        answer = self.clears(PAIR, (0,), choice, 4, {(0, 0): 0, (0, 1): 0}, 60)
        self.assertEqual(answer[0], "best")
        self.assertEqual({some[:4] for some in answer[2] + [bar[0] for bar in answer[3]]}, {choice[:4]})
        self.assertEqual({some[4][:4] for some in answer[2] + [bar[0] for bar in answer[3]]}, {held[:4]})

    def test_full(self):
        for prices, limit in itertools.product((0, 1), (1, 2, 6, 7, 8, 9, 60)):
            self.clears(COUNTER, (0,), choice_with(COUNTER, f2=STALE), 2, {(0, 0): prices}, limit)
        self.assertEqual(cheapest_clears(COUNTER, (0,), choice_with(COUNTER, f2=STALE), 2, {(0, 0): 1}, 1),
                         ("full", choice_with(COUNTER, f2=STALE)))
        self.assertEqual(cheapest_clears(COUNTER, (0,), choice_with(COUNTER, f2=STALE), 2, {(0, 0): 1}, 8),
                         ("full", choice_with(COUNTER, f2=FRESH)))

    def test_kinds_of_no_fields(self):
        choice = (marks("name", "copied"), None)
        self.assertEqual(self.clears(BARE, (0,), choice, 0, {}, 60), ("best", 0, [choice], []))
        for prices in ({(0, 0): 1}, {(1, 0): 1}, []):
            with self.assertRaises(NoPrices):
                cheapest_clears(BARE, (0,), choice, 0, prices, 60)

    def test_drawn_ones(self):
        words = {"best": 0, "none": 0, "full": 0}
        for seed, (library, slots, choice) in enumerate(drawn.cases(0, 60)):
            draw = random.Random(f"prices {seed}")
            prices = {(kind, i): draw.choice([0, 1, 2, 99]) for kind, row in enumerate(library[1]) for i in range(len(row))}
            f = draw.choice([f for f in range(5) if choice[f]])
            words[self.clears(library, slots, choice, f, prices, 40)[0]] += 1
        self.assertTrue(all(words.values()), words)

    def test_what_is_no_function_that_is_not_plain(self):
        choice = choice_with(COUNTER, f2=STALE)
        for f in (0, 1, 3, -1, 10 ** 20, True, False, None, "2", (2,), [2], {}, "", STALE):
            with self.assertRaises(NoFunction, msg=f) as caught:
                cheapest_clears(COUNTER, (0,), choice, f, {(0, 0): 1}, 60)
            self.assertIs(type(caught.exception), NoFunction)
        # True is no function, also where function 1 is not plain.
        with self.assertRaises(NoFunction):
            cheapest_clears(COUNTER, (0,), (STALE,) * 3, True, {(0, 0): 1}, 60)
        with self.assertRaises(NoFunction):
            cheapest_clears(COUNTER, (0,), (STALE,) * 3, -1, {(0, 0): 1}, 60)
        with self.assertRaises(NoFunction):
            cheapest_clears(EMPTY, (), (), 0, {}, 60)

    def test_what_are_no_prices(self):
        choice = choice_with(BOXES, f2=STALE)
        right = {(0, 0): 1, (1, 0): 99, (1, 1): 0}
        self.assertIn(cheapest_clears(BOXES, (1, 0), choice, 2, right, 5)[0], ("best", "none", "full"))
        wrong = [None, True, 0, "", (), [], {}, list(right), list(right.items()), tuple(right), {(0, 0): 1}]
        wrong += [{one: right[one] for one in right if one != left} for left in right]
        wrong += [{**right, more: 1} for more in ((0, 1), (1, 2), (2, 0), (-1, 0), 0, None, "a", (0,), ((0, 0),), (0, 0, 0))]
        wrong += [{**{one: right[one] for one in right if one != (0, 0)}, more: 1} for more in ((0, 1), 0, "a", None, ())]
        wrong += [{**right, one: price} for one in right for price in (-1, 100, True, False, None, "1", (1,), [1], 10 ** 20)]
        for prices in wrong:
            with self.assertRaises(NoPrices, msg=prices) as caught:
                cheapest_clears(BOXES, (1, 0), choice, 2, prices, 5)
            self.assertIs(type(caught.exception), NoPrices)
