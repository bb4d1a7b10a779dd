import random

from shutopen.bench import Bench
from shutopen.books import Book, wide_book
from shutopen.kinds import Kind
from shutopen.rests import end_of
from shutopen.sure import freedoms, maybe
from shutopen.works import Works
from shutopen.workrests import works_rest
from shutopen.workvessels import works_vessel
from tests.helpers import any_values, example_book, frac, pair, row
from tests.test_bench import DOOR, POUR, SKIM, BenchCase, example


def text(value):
    n, d = value
    return str(n) if d == 1 else f"{n}/{d}"


def example_works():
    """The works of the example, with the valve from b to a."""
    bench = Bench(example_book())
    bench.do(("pour", "main", row(0, 1, 0)), ("pot", "b"), ("pour", "b", row(4, 0, 0)), ("door", "heat", "main", (5, 2)), ("door", "heat", "b", (5, 2)),
             ("valve", "water", "b", "main", (1, 4)))
    return bench


class TestAnswers(BenchCase):
    def check(self, bench, line, answer):
        self.assertEqual(bench.say(line), answer, line)
        self.assertEqual(bench(line), answer)
        self.assertEqual(bench.say(line=line), answer)
        self.assertEqual(bench.log()[-3:], [(line, answer)] * 3)

    def test_example(self):
        bench = example_works()
        bench.do(("skim", "main", "brine", (1, 2)))
        for line, answer in [("end", "rests"), ("deeds", "7"), ("steps", "2 0"), ("burden", "-1/4"), ("loss", "0"), ("single", "yes"),
                             ("amount main brine", "1/2"), ("amount b ice", "1"), ("amount b steam", "0"), ("flow b main water", "3"),
                             ("maybe main brine", "yes"), ("maybe main ice", "no"), ("contents main water", "3/2"), ("contents main heat", "4"),
                             ("contents b water", "1"), ("skimmed main brine", "1/2"), ("skimmed main ice", "0"), ("skimmed b brine", "0"),
                             ("poured main water", "-3/2"), ("poured main heat", "-4"), ("poured b water", "4")]:
            self.check(bench, line, answer)
        bench.undo()
        self.check(bench, "steps", "1 1")
        self.check(bench, "burden", "-5/4")
        self.check(bench, "flow b main water", "3")

    def test_ends(self):
        bench = Bench(example_book())
        self.check(bench, "end", "rests")
        bench.do(("take", "main", row(1, 0, 0)))
        self.check(bench, "end", "unfillable")
        for line in ("burden", "amount main ice", "loss", "maybe main ice", "single", "contents main heat"):
            self.check(bench, line, "error unfillable")
        for line, answer in [("deeds", "1"), ("steps", "1 0"), ("skimmed main ice", "0"), ("poured main water", "-1")]:
            self.check(bench, line, answer)
        bench.do(("door", "water", "main", (1, 1)))
        self.check(bench, "end", "runs")
        for line in ("burden", "amount main ice", "loss", "maybe main ice", "single", "contents main heat"):
            self.check(bench, line, "error runsaway")
        bench = example_works()
        bench.do(("take", "b", row(9, 0, 0)))
        self.check(bench, "flow b main water", "error unfillable")
        self.check(bench, "flow main b water", "unknown")

    def test_several_rests(self):
        book = Book(["a"], Kind("x", (1,)), Kind("y", (1,)), Kind("z", (1,), cost=(1, 1)))
        bench = Bench(book)
        self.check(bench, "single", "yes")
        bench.do(("pour", "main", row(2)))
        self.check(bench, "single", "no")
        for line, answer in [("maybe main x", "yes"), ("maybe main y", "yes"), ("maybe main z", "no"), ("amount main x", "0"), ("amount main y", "2")]:
            self.check(bench, line, answer)

    def test_random_benches(self):
        rnd = random.Random(251)
        for _ in range(40):
            kinds = [Kind("x", (1, 0), cost=pair(rnd.randint(0, 2))), Kind("y", (0, 1), cost=pair(rnd.randint(0, 2))),
                     Kind("z", (1, 1), cost=pair(rnd.randint(0, 4)))]
            bench = Bench(Book(["a", "b"], *kinds))
            bench.do(("pot", "p"), ("pour", "main", row(rnd.randint(0, 3), rnd.randint(0, 3))), ("pour", "p", row(rnd.randint(-1, 3), rnd.randint(0, 3))),
                     rnd.choice([("gate", "a", "main", "p"), ("valve", "a", "main", "p", (1, 3)), ("valve", "b", "p", "main", (0, 1))]),
                     rnd.choice([("pour", "p", row(0, 0)), ("door", "b", "p", pair(rnd.randint(-1, 2)))]))
            works = bench.present
            vessel = works_vessel(works)
            if end_of(vessel)[0] != "rests":
                self.check(bench, "end", end_of(vessel)[0])
                continue
            rest = works_rest(works)
            lot = maybe(vessel)[0]
            self.check(bench, "burden", text(rest.burden))
            self.check(bench, "single", "yes" if freedoms(vessel)[0] == 0 else "no")
            for pot, fill in zip(works.pot_names(), rest.fills):
                for name in "xyz":
                    self.check(bench, f"amount {pot} {name}", text(fill[name]))
                    self.check(bench, f"maybe {pot} {name}", "yes" if f"{pot}.{name}" in lot else "no")
                for at, ware in enumerate("ab"):
                    self.check(bench, f"contents {pot} {ware}", text(fill.contents[at]))
                    self.check(bench, f"poured {pot} {ware}", text(works.amounts_of(pot)[at]))
            for (ware, source, goal, _), flow in zip(works.valves, rest.flows):
                self.check(bench, f"flow {source} {goal} {ware}", text(flow))
                self.check(bench, f"flow {goal} {source} {ware}", "unknown")

    def test_unknown_lines(self):
        bench = example_works()
        lines = ["", " ", "end ", " end", "end\n", "End", "ends", "end end", "deeds 1", "steps main", "burden main", "loss main ice", "single main",
                 "amount", "amount main", "amount main brine ice", "amount  main brine", "amount main  brine", "amount main brine ", "amount brine main",
                 "amount a brine", "amount main fog", "amount main heat", "amount MAIN brine", "maybe", "maybe main heat", "maybe x ice", "skimmed main",
                 "skimmed main heat", "skimmed c ice", "contents main ice", "contents main", "contents c water", "poured main ice", "poured main",
                 "poured c water", "flow", "flow b main", "flow b main salt", "flow main b water", "flow water b main", "flow b main water water",
                 "flow b b water", "flow b c water", "what", "undo", "rests", "error", "text", "amount main b.ice", "poured b main"]
        for line in lines:
            self.check(bench, line, "unknown")
        self.assertEqual(bench("flow b main water"), "3")

    def test_any_value(self):
        bench = example_works()
        for value in [*any_values(), ["end"], ("end",), {"end": 1}, bench, bench.present]:
            self.assertEqual((bench.say(value), bench(value)), ("unknown", "unknown"))
            self.assertEqual(len(bench.log()) % 2, 0)

    def test_unknown_goes_ahead_of_errors(self):
        bench = Bench(example_book())
        bench.do(("take", "main", row(1, 0, 0)))
        for line in ("amount main fog", "amount side ice", "maybe main heat", "contents main ice", "flow main main water", "burden main"):
            self.check(bench, line, "unknown")

    def test_wide_books(self):
        book = wide_book(("a.b", "c"), [("x.y", (1, 0), (10 ** 9, 1)), ("z", (0, 1), (0, 1))])
        bench = Bench(book)
        bench.do(("pour", "main", row(3, 1)))
        for line, answer in [("amount main x.y", "3"), ("maybe main x.y", "yes"), ("contents main a.b", "3"), ("poured main c", "1"), ("burden", "3000000000")]:
            self.check(bench, line, answer)

    def test_nothing_is_changed_but_the_log(self):
        bench = example()
        bench.do(SKIM)
        bench.undo()
        before = (bench.text(), bench.history(), bench.journal())
        for line in ("end", "burden", "loss", "what", "amount main ice"):
            bench(line)
        self.assertEqual((bench.text(), bench.history(), bench.journal()), before)
        self.assertEqual([line for line, _ in bench.log()], ["end", "burden", "loss", "what", "amount main ice"])


class TestLog(BenchCase):
    def test_order(self):
        bench = example()
        self.assertEqual(bench.log(), [])
        bench("deeds")
        bench.say(None)
        bench.undo()
        bench("deeds")
        bench.begin()
        bench("steps")
        bench.drop()
        self.assertEqual(bench.log(), [("deeds", "2"), (None, "unknown"), ("deeds", "0"), ("steps", "0 0")])
        self.assertTrue(all(type(entry) is tuple for entry in bench.log()))

    def test_lists_and_dicts_are_copies(self):
        bench = example()
        inner, table = [1], {"x": [2]}
        line = [inner, table, (inner, {"y": inner})]
        bench(line)
        bench(table)
        bench((table,))
        inner.append(3)
        table["x"].append(4)
        table["z"] = 5
        line.append(6)
        expected = [([[1], {"x": [2]}, ([1], {"y": [1]})], "unknown"), ({"x": [2]}, "unknown"), (({"x": [2]},), "unknown")]
        self.assertEqual(bench.log(), expected)
        found = bench.log()
        found[0][0][0].append(7)
        found[0][0][2][1]["y"].append(8)
        found[1][0]["x"].append(9)
        found[2][0][0].clear()
        found.append(None)
        self.assertEqual(bench.log(), expected)
        other = bench.twin()
        other.log()[1][0].clear()
        self.assertEqual((bench.log(), other.log()), (expected, expected))

    def test_objects_stay_what_they_are(self):
        bench = example()
        works = bench.present
        bench([works, (works, {"a": bench})])
        line, answer = bench.log()[0]
        self.assertIs(line[0], works)
        self.assertIs(line[1][0], works)
        self.assertIs(line[1][1]["a"], bench)
        self.assertEqual(answer, "unknown")
        bench({(1, "a"): [works], None: True, 3: {}})
        self.assertEqual(bench.log()[1][0], {(1, "a"): [works], None: True, 3: {}})


class TestLoss(BenchCase):
    def test_answers_of_loss(self):
        bench = Bench(example_book())
        bench.do(POUR, DOOR, ("skim", "main", "ice", (1, 1)), ("door", "heat", "main", (7, 2)))
        self.assertEqual(bench("loss"), "1")
        self.assertEqual(frac(bench.loss()), 1)
        self.assertEqual(bench.whole(), Works(example_book(), [("main", row(4, 1, 0))], doors=[("heat", "main", (7, 2))] * 2))
