import random
from fractions import Fraction
from itertools import combinations

from shutopen.books import Book
from shutopen.errors import DuplicateName, InvalidOwner, InvalidRow, RunsAway, TooMany, Unfillable, UnknownOwner, WrongSum, WrongTotal
from shutopen.fills import Fill
from shutopen.kinds import Kind
from shutopen.owners import Owners
from shutopen.rests import end_of, rest_of
from shutopen.vessels import Vessel
from tests.helpers import Case, any_values, dot, example_book, example_vessel, frac, fraction_list, fracs, pair, random_vessels, row, summed

ADA = ("ada", row(4, 0, 0))
BEN = ("ben", row(0, 1, 0))


def example(*more):
    return Owners(example_vessel(), ADA, BEN, *more)


def random_owners(seed, many):
    """Owners of random vessels that rest. All but the last one bring the contents of some fill or just anything, the
    last one what is left of the contents of a fill with few kinds, so that there are several best rows at times.
    """
    rnd = random.Random(seed)
    for vessel in random_vessels(seed, many):
        is_shut = [word == "shut" for word, _ in vessel.states]
        whole = some_contents(rnd, vessel.book, is_shut)
        rows = []
        for _ in range(rnd.randint(0, 3)):
            own = some_contents(rnd, vessel.book, is_shut)
            if rnd.random() < 0.4:
                own = [item * shut for item, shut in zip(fracs(fraction_list(rnd, len(is_shut), -1, 2, 2)), is_shut)]
            rows.append(own)
        rows.append([item - sum(own[at] for own in rows) for at, item in enumerate(whole)])
        there = vessel.with_amounts(row(*whole))
        if end_of(there)[0] == "rests":
            yield Owners(there, *[(name, row(*own)) for name, own in zip(["ada", "ben", "cid", "dan"], rows)])


def some_contents(rnd, book, is_shut):
    """The contents of a fill with few kinds, 0 at open wares."""
    parts = row(*[rnd.randint(1, 2) if rnd.random() < 0.4 else 0 for _ in book.kinds])
    return [item * shut for item, shut in zip(fracs(Fill(book, parts).contents), is_shut)]


class OwnersCase(Case):
    def names_of(self, owners):
        return [name for name, _ in owners.owners]

    def burden(self, owners, numbers):
        """The least burden of what so many of each owner bring, None if no fill fits; and the vessel."""
        rows = [own for _, own in owners.owners]
        vessel = owners.vessel.with_amounts(row(*summed(rows, row(*numbers), len(owners.vessel.states))))
        end = end_of(vessel)
        return (frac(vessel.burden_of(end[1])) if end[0] == "rests" else None), vessel

    def shares_beside(self, rnd, owners):
        """Shares with the right sum: price shares, or moved away from them."""
        shares = fracs(owners.price_shares()[1])
        if len(shares) > 1 and rnd.random() < 0.8:
            moved = Fraction(rnd.randint(-4, 4), rnd.randint(1, 3))
            one, other = rnd.sample(range(len(shares)), 2)
            shares[one] += moved
            shares[other] -= moved
        return row(*shares)


class TestMaking(OwnersCase):
    def test_attributes(self):
        owners = example()
        self.assertEqual((owners.vessel, owners.owners, owners.total), (example_vessel(), (ADA, BEN), (-2, 1)))
        self.assertEqual((len(owners), repr(owners)), (2, "Owners(2 owners)"))
        one = Owners(example_vessel(), ("me", row(4, 1, 0)))
        self.assertEqual((len(one), repr(one), one.total), (1, "Owners(1 owners)", (-2, 1)))
        four = Owners(example_vessel(), ADA, ("b", row(-1, 3, 0)), ("c", row(0, -2, 0)), ("d", row(1, 0, 0)))
        self.assertEqual((len(four), four.total), (4, (-2, 1)))
        self.assertEqual(Owners(example_vessel(), *list(owners.owners)).owners, owners.owners)

    def test_errors_in_their_order(self):
        vessel = example_vessel()
        self.assertEqual(self.raised(InvalidOwner, Owners, vessel).at, 0)
        wrongs = [*any_values(), ("ada",), ("ada", row(4, 0, 0), 1), list(ADA), ("Ada", row(4, 0, 0)), (["ada"], row(4, 0, 0)), ("ada", row(4, 0)),
                  ("ada", row(4, 0, 0, 0)), ("ada", list(row(4, 0, 0))), ("ada", (4, 0, 0)), ("ada", row(4, 0, 1)), ("ada", row(4, 0, "-1/9")),
                  ("ada", ((2, 2), (0, 1), (0, 1))), ("ada", ((True, 1), (0, 1), (0, 1)))]
        for wrong in wrongs:
            self.assertEqual(self.raised(InvalidOwner, Owners, vessel, wrong).at, 0)
            self.assertEqual(self.raised(InvalidOwner, Owners, vessel, ADA, ADA, BEN, BEN, BEN, wrong, None).at, 5)
        self.assertEqual(self.raised(DuplicateName, Owners, vessel, ADA, BEN, ("cid", row(0, 0, 0)), BEN, ADA).name, "ben")
        five = [(name, row(0, 0, 0)) for name in "abcde"]
        self.assertEqual(self.raised(TooMany, Owners, vessel, *five).most, 4)
        self.assertEqual(self.raised(WrongTotal, Owners, vessel, *five[:4]).ware, "water")
        self.assertEqual(self.raised(WrongTotal, Owners, vessel, ADA, ("ben", row(0, 2, 0))).ware, "salt")
        self.assertEqual(self.raised(WrongTotal, Owners, vessel, ADA).ware, "salt")
        opened = vessel.with_state("water", ("open", (0, 1)))
        self.assertEqual(self.raised(InvalidOwner, Owners, opened, BEN, ADA).at, 1)
        self.assertEqual(self.raised(WrongTotal, Owners, opened, ("ada", row(0, 0, 0))).ware, "salt")

    def test_vessels_that_do_not_rest(self):
        vessel = example_vessel().with_amounts(row(-4, 1, 0))
        self.assertEqual(self.raised(Unfillable, Owners, vessel, ("ada", row(-4, 0, 0)), BEN).row, end_of(vessel)[1])
        self.raised(WrongTotal, Owners, vessel, ADA, BEN)
        book = Book(["a"], Kind("x", (1,), cost=(-1, 1)), Kind("y", (-1,)))
        runs = Vessel(book, [("shut", (1, 1))])
        caught = self.raised(RunsAway, Owners, runs, ("ada", row(1)))
        self.assertEqual(("runs", caught.fill, caught.mixture), end_of(runs))

    def test_all_wares_open(self):
        owners = Owners(Vessel(example_book(), [("open", (0, 1))] * 3), ("ada", row(0, 0, 0)), ("ben", row(0, 0, 0)))
        self.assertEqual((owners.total, owners.price_shares()[1], owners.idle()), ((0, 1), row(0, 0), ("ada", "ben")))
        copies, fill = owners.undone_by_copies(row(1, -1))
        self.assertLess(frac(owners.vessel.burden_of(fill)), copies[0] - copies[1])


class TestSets(OwnersCase):
    def test_example(self):
        owners = example()
        self.assertEqual([owners.burden_of(names) for names in ([], ["ada"], ["ben"], ["ben", "ada"])], [(0, 1), (0, 1), (0, 1), (-2, 1)])
        self.assertEqual(owners.vessel_of(["ben"]), example_vessel().with_amounts(row(0, 1, 0)))
        self.assertEqual(owners.vessel_of(names=("ben", "ada")), owners.vessel)
        self.assertEqual(owners.copies_vessel((3, 4)), example_vessel().with_amounts(row(12, 4, 0)))
        self.assertEqual(owners.copies_vessel(copies=(0, 0)), example_vessel().with_amounts(row(0, 0, 0)))
        debt = Owners(example_vessel(), ("ada", row(5, 1, 0)), ("ben", row(-1, 0, 0)))
        self.assertEqual((debt.burden_of(["ben"]), debt.burden_of(names=["ada"])), (None, (-2, 1)))

    def test_random_sets(self):
        rnd = random.Random(221)
        count = [0, 0]
        for owners in random_owners(222, 120):
            names = self.names_of(owners)
            for size in range(len(names) + 1):
                chosen = rnd.sample(names, size)
                burden, vessel = self.burden(owners, [int(name in chosen) for name in names])
                self.assertEqual(owners.vessel_of(chosen), vessel)
                found = owners.burden_of(tuple(chosen))
                self.assertEqual(None if found is None else frac(found), burden)
                count[found is None] += 1
        self.assertGreater(min(count), 20)

    def test_wrong_names(self):
        owners = example()
        for function in (owners.vessel_of, owners.burden_of):
            for value in any_values():
                if not isinstance(value, (list, tuple)):
                    self.assertEqual(self.raised(UnknownOwner, function, value).name, value)
                self.assertEqual(self.raised(UnknownOwner, function, ["ada", value, "zoe"]).name, value)
            for value, name in [(["ada", "ben", "ada"], "ada"), (("ben", "cid", "ben"), "cid"), (["ada", "ada"], "ada"), (["ada", ["ben"]], ["ben"]),
                                ("ada", "ada")]:
                self.assertEqual(self.raised(UnknownOwner, function, value).name, name)


class TestPriceShares(OwnersCase):
    def test_example(self):
        owners = example()
        self.assertEqual(owners.price_shares(), (row(0, -2, "5/2"), row(0, -2)))
        self.assertIs(owners.is_price_share(row(0, -2)), True)
        self.assertIs(owners.is_price_share(shares=row(-1, -1)), False)
        self.assertEqual((owners.span("ada"), owners.span(name="ben"), owners.idle()), (((0, 1), (0, 1)), ((-2, 1), (-2, 1)), ("ada",)))

    def test_random_owners(self):
        rnd = random.Random(223)
        count = [0, 0]
        for owners in random_owners(224, 150):
            prices, shares = owners.price_shares()
            self.hold_best_row(owners.vessel, rest_of(owners.vessel).fill, prices)
            self.assertEqual(fracs(shares), [dot(prices, own) for _, own in owners.owners])
            self.assertEqual(sum(fracs(shares)), frac(owners.total))
            self.assertIs(owners.is_price_share(shares), True)
            again = Owners(owners.vessel, *owners.owners)
            self.assertEqual(again.price_shares(), (prices, shares))
            beside = self.shares_beside(rnd, owners)
            found = owners.is_price_share(beside)
            self.assertEqual(found, owners.undone_by_copies(beside) is None)
            count[found] += 1
        self.assertGreater(min(count), 20)

    def test_span(self):
        ends = {"one": 0, "stretch": 0, "none": 0}
        for owners in random_owners(225, 150):
            idle = []
            for name in self.names_of(owners):
                low, high = owners.span(name)
                others = [own for own in self.names_of(owners) if own != name]
                at = self.names_of(owners).index(name)
                share = frac(owners.price_shares()[1][at])
                self.assertTrue((low is None or frac(low) <= share) and (high is None or share <= frac(high)))
                if len(owners) == 1:
                    self.assertEqual((low, high), (owners.total, owners.total))
                idle += [name] if (low, high) == ((0, 1), (0, 1)) else []
                ends["none"] += low is None or high is None
                ends["one"] += low is not None and low == high
                ends["stretch"] += low is not None and high is not None and low != high
                self.hold_span(owners, at, low, high, others)
            self.assertEqual(owners.idle(), tuple(idle))
        self.assertGreater(min(ends.values()), 10)

    def hold_span(self, owners, at, low, high, others):
        """Both ends are price shares of the two owners: this one and all others together; what is beyond is none."""
        if not others:
            return
        rest = summed([own for _, own in owners.owners], row(*[int(k != at) for k in range(len(owners))]), len(owners.vessel.states))
        pair_of = Owners(owners.vessel, ("me", owners.owners[at][1]), ("them", row(*rest)))
        total = frac(owners.total)
        for end, beyond in ((low, -1), (high, 1)):
            if end is None:
                far = frac(pair_of.price_shares()[1][0]) + beyond * 10 ** 6
                self.assertTrue(pair_of.is_price_share(row(far, total - far)))
            else:
                self.assertTrue(pair_of.is_price_share(row(frac(end), total - frac(end))))
                out = frac(end) + Fraction(beyond, 1000)
                self.assertFalse(pair_of.is_price_share(row(out, total - out)))

    def test_no_ends(self):
        owners = Owners(Vessel(Book(["a"], Kind("x", (1,))), [("shut", (0, 1))]), ("ada", row(1)), ("ben", row(-1)))
        self.assertEqual((owners.span("ada"), owners.span("ben"), owners.idle()), ((None, (0, 1)), ((0, 1), None), ()))
        both = Owners(Vessel(Book(["a", "b"], Kind("x", (1, 0))), [("shut", (0, 1))] * 2), ("ada", row(0, 1)), ("ben", row(0, -1)), ("cid", row(0, 0)))
        self.assertEqual((both.span("ada"), both.span("cid"), both.idle()), ((None, None), ((0, 1), (0, 1)), ("cid",)))

    def test_unknown_owner(self):
        for value in [*any_values(), "cid", ["ada"], ("ada",)]:
            self.assertEqual(self.raised(UnknownOwner, example().span, value).name, value)


class TestUndone(OwnersCase):
    def check(self, owners, shares):
        found = owners.undone(shares)
        self.assertEqual(Owners(owners.vessel, *owners.owners).undone(shares=shares), found)
        names = self.names_of(owners)
        for size in range(len(names) + 1):
            for places in combinations(range(len(names)), size):
                burden, vessel = self.burden(owners, [int(at in places) for at in range(len(names))])
                total = sum(frac(shares[at]) for at in places)
                if burden is not None and burden < total:
                    self.assertEqual(found[0], tuple([names[at] for at in places]))
                    self.assertTrue(vessel.fits(found[1]))
                    self.assertLess(frac(vessel.burden_of(found[1])), total)
                    return size
        self.assertIsNone(found)
        return 0

    def test_example(self):
        owners = example()
        self.assertEqual(self.check(owners, row(-1, -1)), 0)
        self.assertEqual(self.check(owners, row(0, -2)), 0)
        self.assertEqual(self.check(owners, row(1, -3)), 1)
        self.assertEqual(owners.undone(row(1, -3))[0], ("ada",))
        self.assertEqual(owners.undone(row(-3, 1))[0], ("ben",))

    def test_random_owners(self):
        rnd = random.Random(226)
        sizes = {0: 0, 1: 0, 2: 0}
        for owners in random_owners(227, 600):
            size = self.check(owners, self.shares_beside(rnd, owners))
            sizes[size] = sizes.get(size, 0) + 1
        self.assertGreater(min(sizes[size] for size in (0, 1, 2)), 8)

    def test_fewest_owners_first_and_then_the_least_indexes(self):
        book = Book(["a", "b"], Kind("x", (1, 0), cost=(2, 1)), Kind("y", (0, 1), cost=(2, 1)), Kind("z", (1, 1), cost=(1, 1)))
        vessel = Vessel(book, [("shut", (2, 1)), ("shut", (2, 1))])
        owners = Owners(vessel, ("p", row(1, 0)), ("q", row(1, 0)), ("r", row(0, 1)), ("s", row(0, 1)))
        self.assertEqual(owners.total, (2, 1))
        # Only p and s, or q and s, or q and r, or p and r can do without the others.
        self.assertEqual(owners.undone(row(0, 1, 0, 1))[0], ("q", "s"))
        self.assertEqual(owners.undone(row(0, 1, 1, 0))[0], ("q", "r"))
        self.assertEqual(owners.undone(row(1, 1, 1, -1))[0], ("p", "r"))
        self.assertEqual(owners.undone(row(3, "-1/3", "-1/3", "-1/3"))[0], ("p",))
        self.assertIsNone(owners.undone(row(0, 0, 1, 1)))
        for shares in (row(0, 1, 0, 1), row(0, 1, 1, 0), row(1, 1, 1, -1), row(3, "-1/3", "-1/3", "-1/3"), row(0, 0, 1, 1)):
            self.check(owners, shares)


class TestCopies(OwnersCase):
    def check(self, owners, shares):
        found = owners.undone_by_copies(shares)
        self.assertEqual(Owners(owners.vessel, *owners.owners).undone_by_copies(shares=shares), found)
        self.assertEqual(found is None, owners.is_price_share(shares))
        if found is not None:
            copies, fill = found
            self.assertIs(type(copies), tuple)
            self.assertEqual(len(copies), len(owners))
            self.assertTrue(all(type(number) is int and number >= 0 for number in copies))
            burden, vessel = self.burden(owners, copies)
            self.assertEqual(owners.copies_vessel(copies), vessel)
            self.assertTrue(vessel.fits(fill))
            self.assertLess(frac(vessel.burden_of(fill)), sum(number * share for number, share in zip(copies, fracs(shares))))
            self.assertLessEqual(burden, frac(vessel.burden_of(fill)))
        return found

    def test_example(self):
        owners = example()
        self.assertIsNotNone(self.check(owners, row(-1, -1)))
        self.assertIsNone(self.check(owners, row(0, -2)))
        self.assertEqual(self.burden(owners, (3, 4))[0], -8)
        self.assertIsNotNone(self.check(owners, row("-1/100", "-199/100")))
        self.assertIsNotNone(self.check(owners, row(100, -102)))

    def test_random_owners(self):
        rnd = random.Random(228)
        count = [0, 0]
        standing = 0
        for owners in random_owners(229, 250):
            shares = self.shares_beside(rnd, owners)
            found = self.check(owners, shares)
            count[found is None] += 1
            standing += found is not None and owners.undone(shares) is None
        self.assertGreater(min(*count, standing), 10)

    def test_debts(self):
        owners = Owners(example_vessel(), ("ada", row(5, 1, 0)), ("ben", row(-1, 0, 0)))
        self.assertIsNotNone(self.check(owners, row(-3, 1)))
        self.assertIsNotNone(self.check(owners, row(3, -5)))

    def test_wrong_shares_and_wrong_sums(self):
        owners = example()
        for function in (owners.is_price_share, owners.undone, owners.undone_by_copies):
            for value, at in [*[(value, -1) for value in any_values() if not isinstance(value, tuple)], ((), -1), ((None,), -1), (row(-2), -1), (row(0, -1, -1), -1), (list(row(0, -2)), -1), ((0, -2), 0),
                              (((0, 1), None), 1), (((0, 1), (-4, 2)), 1), (((False, 1), (-2, 1)), 0)]:
                self.assertEqual(self.raised(InvalidRow, function, value).at, at)
            for shares, total in [(row(0, 0), (0, 1)), (row(-1, "-3/2"), (-5, 2)), (row(2, "1/3"), (7, 3))]:
                self.assertEqual(self.raised(WrongSum, function, shares).total, total)
