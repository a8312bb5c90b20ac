import importlib
import inspect
import pathlib
import unittest

FUNCTIONS = {
    "amounts": "plus(one, other) total(row) least(row) at_most(one, other) gap(one, other)",
    "sets": "set_of(many, parts) both(one, other) common(one, other) minus(one, other) subsets(parts)",
    "markets": "end_to_end(market, *rest) beside(market, *rest) check_join(market) check_run(market, run)"
               " part_there(market, part)",
    "texts": "market_text(market) market_from(text)",
    "covers": "demand_of(market, demand) cover(market, parts) is_stock(market, demand, parts)"
              " misfit_place(market, demand, parts) check_stock(market, demand, parts) over(market, demand, parts)"
              " begins(market, demand) changed(market, demand, run, by)",
    "halving": "halves(market, parts) lots(market, parts, number) remade(market, one, other)"
               " shares(market, times, parts)",
    "steps": "steps_of(market, demand, stock) moved(market, demand, stock, outs, ins) turned_back(move)",
    "rings": "is_ring(market, demand, stock, outs, ins) is_walk(market, demand, stock, run, outs, ins)"
             " rings(market, demand, stock) growing_ways(market, demand, stock)"
             " walks_between(market, demand, stock, run)",
    "stocks": "some_stock(market, demand) has_stock(market, demand) stocks_of(market, demand)"
              " beside_stock(market, demand, stock) lean(market, demand, stock)",
    "differences": "split_rings(market, demand, stock, other) split_run(market, demand, run, stock, other)"
                   " split_sizes(market, demand, number, stock, other)",
    "cuts": "strength(market) least_cut(market) leaving(market, points) entering(market, points)"
            " outflow(market, demand, points) bears(market, losses) lacking(market, demand)"
            " state_of(market, demand, part) full_points(market, demand, part) blow_at(market, number)",
    "ways": "ways(market, number, stock) chain_of(market, way) is_way(market, parts)",
    "walks": "world_of(market, world) move_price(market, world, outs, ins)"
             " cheaper_ring(market, demand, world, stock) distances(market, demand, world, stock)"
             " shortest_walk(market, demand, world, stock, run)",
    "cheapest": "cheapest(market, demand, world) price_of(market, demand, world)"
                " is_cheapest(market, demand, world, stock) cheapest_stocks(market, demand, world)",
    "heights": "fits(market, demand, world, stock, heights) fitting(market, demand, world, stock)"
               " value_of(market, demand, world, heights) held(market, world, heights)"
               " barred(market, world, heights)",
    "strangers": "entry(market, demand, world, run) price_with(market, demand, world, run, price)"
                 " price_with_two(market, demand, world, run, price, other_run, other_price)",
    "notes": "count_worlds(notes) worlds(notes) path(notes, world, other) check_notes(market, notes)",
    "safety": "is_safe(market, demand, notes, stock) safe_heights(market, demand, notes, stock)"
              " unsafe_ring(market, demand, notes, stock) safe_stock(market, demand, notes)"
              " only_possible(market, demand, notes, stock)",
    "possible": "is_possible(market, demand, notes, stock) possible_heights(market, demand, notes, stock)"
                " possible_stocks(market, demand, notes) trail(market, demand, notes, one, other)",
    "regrets": "regret_in(market, demand, world, stock) regret(market, demand, notes, stock)"
               " misfit(market, demand, notes, stock, heights) least_misfit(market, demand, notes, stock)"
               " price_ends(market, demand, notes) world_at(market, demand, notes, number)",
    "nearest": "nearest_world(market, notes, heights) surely_held(market, notes, heights)"
               " surely_barred(market, notes, heights)",
    "critical": "critical_price(market, demand, world, part) critical_ends(market, demand, notes, part)"
                " end_worlds(market, demand, notes, part)",
    "verdicts": "verdict_in(market, demand, world, part) four(market, demand, notes, part)"
                " safe_four(market, demand, notes, stock, part)",
    "pairs": "with_ring(market, demand, one, other) against_ring(market, demand, one, other)"
             " sort_of(market, demand, one, other) with_parts(market, demand, part)"
             " against_parts(market, demand, part) mixed_partner(market, demand, part)"
             " walk_over(market, demand, run, part, sign)",
    "lengths": "lengths_world(market, stock, outs, ins) breaking_world(market, demand, one, other, word)",
    "judging": "judge_worlds(market, demand, notes, part) steady(market, demand)",
    "losing": "by_tables(market, demand, world)",
    "further": "losses_of_two(market, demand, world, one, other) lot_sorts(market, demand, parts)"
               " bears_rises(market, demand, world, stock, rises)"
               " second_difference(market, demand, world, less, more, part)",
    "waiting": "ahead(market, world, number, losses) bound(market, world, number, losses)",
    "mending": "mend_price(market, demand, world, stock, loss) mend_rings(market, demand, world, stock, loss)"
               " mend(market, demand, world, stock, loss) mend_heights(market, demand, world, stock, loss)"
               " mend_notes(market, notes, stock, loss) mend_one(market, demand, world, stock, part)"
               " mend_in_turn(market, demand, world, stock, row)",
    "foes": "worst_loss(market, number, world, losses) worst_at(market, number, notes, losses)"
            " worst_part(market, demand, world)",
    "growing": "grows_at(market, number) going_back(market, number) grows(market)"
               " stock_left(market, number, stock, more, other)",
    "buying": "right_up_to(market, world, number)",
    "budgets": "cost_steps(market, world) greatest_size(market, world, budget) sized_stock(market, world, budget)"
               " best_sizes(market, world, reward) sizes_for(market, notes, budget)",
    "leaving": "left_behind(market, number) brought_in(market, number) leaving_world(market, number, part)"
               " births(market, world)",
    "useful": "market_runs(market) useful_runs(size, runs) chain_between(size, runs, first, last)"
              " chain_through(size, runs, run)",
    "bridges": "bridge(size, runs) is_bridge(size, runs, points, chains) doubled(size, runs)"
               " once_and_whole(size, runs) bridge_way(size, runs)",
    "folds": "folding_of(market) cost_row(market, world) sort_in(market, one, other)",
    "crossing": "crossing_pair(runs) sides(market, outs, ins)",
    "papers": "is_paper(market, demand, notes, world, stock, parts)"
              " paper_of(market, demand, notes, world, stock, heights)"
              " paper_heights(market, demand, notes, world, stock, parts)"
              " lean_paper(market, demand, notes, world, stock, parts)",
    "forced": "forced_parts(market, demand, notes, world, stock) gain(notes, world, stock, part)"
              " gains(notes, world, stock, parts) lacking_ring(market, demand, notes, world, stock, parts)",
    "changes": "room(market, demand, world, stock) weakest(market, demand, world, stock)"
               " bears_change(market, demand, world, stock, total) worst_change(market, demand, world, stock, total)"
               " regret_under(market, demand, world, stock, total) near(world, number)"
               " bears_each(market, demand, world, stock, number) side_room(market, demand, world, stock)",
    "blows": "shown_price(market, number, notes) shows_price(market, number, notes, world, parts, price)"
             " free_stock(market, number, parts) fewest_shown(market, number)",
    "trials": "tried(desk, part) tried_offer(desk, run, low, high)",
    "listings": "line_of(desk, part) listing(desk)",
}
THREADS = ("runs_in(self) costs(self, market, world) length_in(self, market) least_with(self, run, other) words(self)"
           " __iter__(self)")
METHODS = {
    ("markets", "Market"): "__init__(self, size, runs, *, gone=()) there(self) run_of(self, part)"
                           " parts_over(self, run)",
    ("markets", "Join"): "__init__(self, size, runs, *, gone=()) lose(self, parts) keep(self, parts)"
                         " and_run(self, run)",
    ("markets", "Lap"): "__init__(self, size, runs, *, gone=()) lose(self, parts) keep(self, parts)"
                        " and_run(self, run)",
    ("heights", "Heights"): "__init__(self, levels) level(size) worth_of(levels, run) worth(self, run)"
                            " worths(self, market) is_rising(self)",
    ("tables", "Table"): "__init__(self, market, demand, world) more(self, run) less(self, run)"
                         " allows(self, heights) between(self, run, number) lowest(self) highest(self)"
                         " enters(self, part) stays(self, part)",
    ("notes", "Notes"): "__init__(self, stretches) unknown(many, top) seen_at(world) is_seen(self, part)"
                        " unseen(self) agrees(self, world) high_on(self, parts) low_on(self, parts)"
                        " ask(self, part, price) narrow(self, part, low, high) after(self, parts, world)"
                        " kept_free(self, parts) and_stretch(self, low, high)",
    ("critical", "Judge"): "__init__(self, market, demand, part) __call__(self, world)",
    ("losing", "Losing"): "__init__(self, market, demand, world) __call__(self, loss) loss_of(self, part)",
    ("waiting", "Wait"): "__init__(self, market, world, number) __call__(self, loss)",
    ("buying", "Buying"): "__init__(self, market, world) buy(self) buy_many(self, number) __len__(self)"
                          " __iter__(self)",
    ("threads", "Thread"): "__init__(self, first, last)",
    ("threads", "Single"): "__init__(self, run) " + THREADS,
    ("threads", "EndToEnd"): "__init__(self, one, other) " + THREADS,
    ("threads", "Beside"): "__init__(self, one, other) " + THREADS,
    ("folds", "Folding"): "__init__(self, size, runs, *, backwards=False)",
    ("papers", "Told"): "__init__(self, market, demand, notes, world, stock) shows(self, parts) __iter__(self)"
                        " __len__(self)",
    ("desks", "Desk"): "__init__(self, market, notes, number, *, bought=()) ask(self, part, price)"
                       " narrow(self, part, low, high) lose(self, part) find(self, part) buy(self, part, price)"
                       " want(self, number) offer(self, run, low, high) back(self) verdict(self, part)"
                       " unsettled(self) sure_stock(self) pay_ends(self) next_ends(self) regret_of(self, stock)"
                       " losses_left(self) finish(self, world) __len__(self) __iter__(self)",
    ("trials", "Trial"): "__init__(self, desk)",
}
PROPERTIES = {
    ("markets", "Market"): "many", ("tables", "Table"): "known", ("notes", "Notes"): "settled",
    ("buying", "Buying"): "stopped", ("folds", "Folding"): "folds", ("desks", "Desk"): "left now short wanted",
    ("trials", "Trial"): "ended",
}
CLASS_VALUES = {
    ("markets", "Market"): {"KIND": ""}, ("markets", "Join"): {"KIND": "join"}, ("markets", "Lap"): {"KIND": "lap"},
}
ATTRIBUTES = {
    ("markets", "Market"): "size runs gone", ("markets", "Join"): "size runs gone",
    ("markets", "Lap"): "size runs gone", ("heights", "Heights"): "levels size",
    ("tables", "Table"): "market demand world stock price", ("notes", "Notes"): "stretches lows highs",
    ("critical", "Judge"): "market demand part", ("losing", "Losing"): "market demand world price",
    ("waiting", "Wait"): "market world number", ("buying", "Buying"): "market world ways bought spent",
    ("threads", "Thread"): "first last", ("threads", "Single"): "first last",
    ("threads", "EndToEnd"): "first last one other", ("threads", "Beside"): "first last one other",
    ("folds", "Folding"): "size runs folded rest thread",
    ("papers", "Told"): "market demand notes world stock paper heights fewest",
    ("desks", "Desk"): "market notes number bought loss spent", ("trials", "Trial"): "desk",
}
SLOTS = {("notes", "Notes"): ("stretches", "lows", "highs")}
GENERATORS = (("sets", "subsets"), ("rings", "rings"), ("rings", "growing_ways"), ("notes", "worlds"))


def sample(name, kind):
    """An object of a class of the interface."""
    cls = vars(importlib.import_module("keptparts." + name))[kind]
    join = importlib.import_module("keptparts.markets").Join
    single = importlib.import_module("keptparts.threads").Single
    notes = importlib.import_module("keptparts.notes").Notes([(1, 2), (0, 0)])
    market = join(1, [(0, 1), (0, 1)])
    one = single((0, 1))
    arguments = {
        "Market": (1, []), "Join": (1, []), "Lap": (1, []), "Heights": ([0, 1],), "Table": (market, 1, (1, 0)),
        "Notes": ([(0, 1)],), "Judge": (market, 1, 0), "Losing": (market, 1, (1, 0)), "Wait": (market, (1, 0), 1),
        "Buying": (market, (1, 0)), "Thread": (0, 1), "Single": ((0, 1),), "EndToEnd": (one, single((1, 2))),
        "Beside": (one, one), "Folding": (1, [(0, 1)]), "Told": (market, 1, notes, (1, 0), [1]),
        "Desk": (market, notes, 1), "Trial": (None,),
    }
    return cls(*arguments[kind])


def told(text):
    """The names and signatures of a text."""
    return [(item.split("(")[0], "(" + item.split("(", 1)[1] + ")")
            for item in text.replace("()", "<>").replace(") ", ")\n").replace(")", "").split("\n")]


class Interface(unittest.TestCase):
    """The names and arguments of the interface."""

    def test_functions(self):
        for name, text in FUNCTIONS.items():
            module = importlib.import_module("keptparts." + name)
            for function, signature in told(text):
                found = vars(module)[function]
                self.assertEqual(found.__module__, module.__name__)
                self.assertEqual(str(inspect.signature(found)), signature, function)

    def test_methods(self):
        for (name, kind), text in METHODS.items():
            cls = vars(importlib.import_module("keptparts." + name))[kind]
            self.assertEqual(cls.__module__, "keptparts." + name)
            for method, signature in told(text):
                self.assertIn(method, vars(cls))
                found = str(inspect.signature(getattr(cls, method)))
                self.assertEqual(found, signature.replace("<>", "()"), (kind, method))

    def test_just_these(self):
        """Each class has the methods, properties and class values that are listed, and no others."""
        for (name, kind), text in METHODS.items():
            cls = vars(importlib.import_module("keptparts." + name))[kind]
            wanted = {method for method, _ in told(text)} | set(PROPERTIES.get((name, kind), "").split())
            wanted |= set(CLASS_VALUES.get((name, kind), {})) | set(SLOTS.get((name, kind), ()))
            found = {member for member in vars(cls) if not member.startswith("_")}
            self.assertEqual(found, {member for member in wanted if not member.startswith("_")}, (name, kind))

    def test_attributes(self):
        """Each object has the attributes that are listed, from when it is made, and no others."""
        self.assertEqual(set(ATTRIBUTES), set(METHODS))
        for (name, kind), text in ATTRIBUTES.items():
            found = sample(name, kind)
            names = SLOTS.get((name, kind)) or vars(found)
            self.assertEqual({item for item in names if not item.startswith("_")}, set(text.split()), kind)
            self.assertTrue(all(hasattr(found, item) for item in text.split()))

    def test_properties(self):
        for (name, kind), text in PROPERTIES.items():
            cls = vars(importlib.import_module("keptparts." + name))[kind]
            for item in text.split():
                self.assertIsInstance(vars(cls)[item], property)
                self.assertEqual(vars(cls)[item].fset is not None, item == "wanted")
        for (name, kind), values in CLASS_VALUES.items():
            cls = vars(importlib.import_module("keptparts." + name))[kind]
            self.assertEqual({item: vars(cls)[item] for item in values}, values)
        heights = importlib.import_module("keptparts.heights")
        self.assertIsInstance(vars(heights.Heights)["level"], classmethod)
        self.assertIsInstance(vars(heights.Heights)["worth_of"], staticmethod)
        notes = importlib.import_module("keptparts.notes")
        self.assertEqual(notes.Notes.__slots__, SLOTS["notes", "Notes"])
        self.assertIsInstance(vars(notes.Notes)["unknown"], classmethod)
        self.assertIsInstance(vars(notes.Notes)["seen_at"], classmethod)

    def test_modules(self):
        """Each module of the interface is there, and what other files there are is told in the README."""
        folder = pathlib.Path(__file__).resolve().parent.parent
        files = {path.stem for path in (folder / "keptparts").glob("*.py")} - {"__init__"}
        listed = {name for name in FUNCTIONS} | {name for name, _ in METHODS} | {"errors"}
        self.assertEqual(len(listed), 49)
        self.assertTrue(listed <= files)
        text = (folder / "README.md").read_text()
        for name in files:
            self.assertIn("`%s`" % name, text)

    def test_bases(self):
        threads = importlib.import_module("keptparts.threads")
        for cls in (threads.Single, threads.EndToEnd, threads.Beside):
            self.assertEqual(cls.__bases__, (threads.Thread,))
        markets = importlib.import_module("keptparts.markets")
        for cls in (markets.Join, markets.Lap):
            self.assertEqual(cls.__bases__, (markets.Market,))
        self.assertEqual(importlib.import_module("keptparts.foes").MOST_SETS, 500)

    def test_generators(self):
        for name, function in GENERATORS:
            module = importlib.import_module("keptparts." + name)
            self.assertTrue(inspect.isgeneratorfunction(vars(module)[function]))


if __name__ == "__main__":
    unittest.main()
