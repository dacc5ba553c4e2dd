"""[60]: registers without any piece."""

import itertools
import random
import unittest

from sevenpoints.errors import BadNumber, TooMany
from sevenpoints.graphs import graph_of, name_set
from sevenpoints.leasts import least_cost
from sevenpoints.placings import pieces
from sevenpoints.programs import Program
from sevenpoints.texts import program_of
from sevenpoints.wants import wanted
from sevenpoints.webs import Still, Stuck, clashes, fewest_still, is_still, still, webs_of
from tests.checks import Case
from tests.samples import EMPTY, FOREVER, GCD, STEPS, programs
from tests.test_moves import OTHERS

NO_NUMBERS = (None, -1, True, False, "1", 1.0, (1,), [])

# Three names that all clash, and one web more of a name that is used anew.
THREE = program_of("""program three of a b
c = a plus b
d = c plus a
a = d less b
d = a plus c
give d
end
""")

# What is behind the give is come to from nowhere, and its names are wanted there all the same.
NOWHERE = program_of("""program nowhere of a
give a
b = a plus a
while b below a
b = b plus 1
end
give b
end
""")


def webs_by_hand(program):
    """All webs: for each name the points that want it, those together that edges without a set of it join."""
    graph = graph_of(program)
    table = wanted(graph)
    found = []
    for name in sorted({name for row in table for name in row}):
        left = [point for point in range(graph.points) if name in table[point]]
        while left:
            web = {left[0]}
            for _ in range(graph.points):
                for edge in graph.edges:
                    if name_set(edge.deed) != name and name in table[edge.start] and name in table[edge.end]:
                        if {edge.start, edge.end} & web:
                            web |= {edge.start, edge.end}
            found.append((name, tuple(sorted(web))))
            left = [point for point in left if point not in web]
    return tuple(found)


def is_choice(program, registers, told):
    """Whether registers keep webs that clash apart."""
    if len(told) != len(webs_of(program)) or not all(0 <= item < registers for item in told):
        return False
    return all(told[one] != told[other] for one, other in clashes(program))


def is_tree(program, registers, chosen, tree):
    """Whether a tree for some chosen webs is one, by the definition."""
    near = {(one, other) for pair in clashes(program) for one, other in (pair, pair[::-1])}
    webs = range(len(webs_of(program)))
    if isinstance(tree, int):
        return tree in webs and tree not in chosen and all(
            any(chosen[web] == number and (web, tree) in near for web in chosen) for number in range(registers))
    web, trees = tree
    if web not in webs or web in chosen or len(trees) != registers:
        return False
    for number, told in enumerate(trees):
        if any(chosen[other] == number and (other, web) in near for other in chosen):
            if told is not None:
                return False
        elif told is None:
            if number == 0 or number in chosen.values() or number - 1 in chosen.values():
                return False
        elif not is_tree(program, registers, {**chosen, web: number}, told):
            return False
    return True


def trees_in(tree, path=()):
    """All trees in a tree, with their paths."""
    yield path, tree
    if isinstance(tree, tuple):
        for at, told in enumerate(tree[1]):
            if told is not None:
                yield from trees_in(told, path + (1, at))


def with_item(row, path, item):
    """A row of rows with another item at a path."""
    if not path:
        return item
    return row[:path[0]] + (with_item(row[path[0]], path[1:], item),) + row[path[0] + 1:]


def few_webs(seed, many):
    """Programs with at most twelve webs."""
    return [program for program in [EMPTY, FOREVER, GCD, STEPS, THREE, NOWHERE] + programs(seed, many) if len(webs_of(program)) <= 12]


class Webs(Case):

    def test_by_hand(self):
        program = program_of("program p of b a\nc = a plus b\ngive c\nend")
        self.assertEqual(webs_of(program), (("a", (0,)), ("b", (0,)), ("c", (3,))))
        self.assertEqual(clashes(program), ((0, 1),))
        self.assertEqual((webs_of(EMPTY), clashes(EMPTY)), ((), ()))
        # The points of THREE are 0, 3, 4, 5, 6, in this order.
        self.assertEqual(webs_of(THREE), (("a", (0, 3)), ("a", (5,)), ("b", (0, 3, 4)), ("c", (3, 4, 5)), ("d", (4,)), ("d", (6,))))
        self.assertEqual(clashes(THREE), ((0, 2), (0, 3), (1, 3), (2, 3), (2, 4), (3, 4)))

    def test_names_at_points_that_nothing_comes_to(self):
        told = dict(webs_of(NOWHERE))
        self.assertEqual(len(webs_of(NOWHERE)), len(webs_by_hand(NOWHERE)))
        self.assertIn("b", told)
        # a is wanted at the begin, and behind the give, where no edge leads to from the begin.
        self.assertEqual([name for name, _ in webs_of(NOWHERE)].count("a"), 2)
        self.assertEqual(fewest_still(NOWHERE), 2)

    def test_edges_are_gone_either_way(self):
        # At the join of both branches a is wanted, and each branch comes to it alone.
        program = program_of("program p of a b\nif b is 0\na = 1\nelse\na = 2\nend\ngive a\nend")
        webs = [points for name, points in webs_of(program) if name == "a"]
        self.assertEqual(len(webs), 1)
        program = program_of("program p of a b\nif b is 0\nskip\nelse\na = 2\nend\ngive a\nend")
        self.assertEqual([name for name, _ in webs_of(program)], ["a", "b"])

    def test_against_the_definition(self):
        for program in programs(90, 150) + few_webs(91, 30):
            told = webs_of(program)
            self.assertEqual(told, webs_by_hand(program))
            self.assertEqual(clashes(program), tuple((one, other) for one, other in itertools.combinations(range(len(told)), 2)
                                                     if set(told[one][1]) & set(told[other][1])))

    def test_no_piece_just_if_the_webs_have_registers_of_their_own(self):
        dice = random.Random(92)
        checked = 0
        for program in few_webs(92, 15):
            webs, table, graph = webs_of(program), wanted(graph_of(program)), graph_of(program)
            told = still(program, fewest_still(program)).registers
            for way in range(3):
                stands = []
                for point, names in enumerate(table):
                    row = [told[at] for name in names for at, web in enumerate(webs) if web[0] == name and point in web[1]]
                    if way and row and dice.random() < 0.1:
                        row[0] = dice.choice([item for item in range(9) if item not in row])
                    stands.append(tuple(row))
                without = all(pieces(program, stands, at) == 0 for at in range(len(graph.edges)))
                held = [{stands[point][table[point].index(name)] for point in points} for name, points in webs]
                self.assertEqual(without, all(len(one) == 1 for one in held))
                checked += not without
        self.assertGreater(checked, 10)


class Fewest(Case):

    def test_by_hand(self):
        self.assertEqual([fewest_still(program) for program in (EMPTY, FOREVER, THREE)], [0, 0, 3])

    def test_against_all_choices(self):
        asked = 0
        for program in few_webs(93, 120):
            many = len(webs_of(program))
            if many > 6:
                continue
            pairs = clashes(program)
            fewest = min(registers for registers in range(many + 1) for told in itertools.product(range(registers), repeat=many)
                         if all(told[one] != told[other] for one, other in pairs))
            self.assertEqual(fewest_still(program), fewest)
            asked += 1
        self.assertGreater(asked, 50)

    def test_against_least_costs(self):
        asked = 0
        for program in few_webs(94, 60):
            prices = (1,) * len(graph_of(program).edges)
            fewest = fewest_still(program)
            for registers in range(4):
                try:
                    least = least_cost(program, registers, prices)
                except TooMany:
                    continue
                self.assertEqual(least == 0, registers >= fewest)
                asked += 1
        self.assertGreater(asked, 150)

    def test_more_registers_than_names_wanted_at_one_point(self):
        # Each two of three names are wanted at one point of the round, never all three.
        program = program_of("program p\nloop\nc = a\na = b\nb = c\nend\nend")
        self.assertEqual(max(len(names) for names in wanted(graph_of(program))), 2)
        self.assertEqual(clashes(program), ((0, 1), (0, 2), (1, 2)))
        self.assertEqual(fewest_still(program), 3)
        self.assertIs(is_still(program, 2, still(program, 2)), True)
        self.assertIs(still(program, 2).__class__, Stuck)
        # A ring of five webs and more.
        program = program_of("program p\nloop\nc = a\nd = b\ne = c\na = d\nb = e\nend\nend")
        for registers in range(5):
            self.assertIs(is_still(program, registers, still(program, registers)), True)
            self.assertEqual(still(program, registers).__class__, Still if registers >= fewest_still(program) else Stuck)


class Stills(Case):

    def test_attributes(self):
        self.assertEqual(Still([1, 2]).registers, (1, 2))
        self.assertEqual(Stuck([0, [None, 1]]).tree, (0, (None, 1)))
        one = Still((1,))
        self.assertEqual(one, one)
        self.assertNotEqual(one, Still((1,)))
        self.assertNotEqual(Stuck(0), Stuck(0))

    def test_both_sides_of_the_fewest(self):
        for program in few_webs(96, 50):
            fewest = fewest_still(program)
            for registers in list(range(fewest + 3)) + [10 ** 30]:
                told = still(program, registers)
                self.assertIs(is_still(program, registers, told), True)
                if registers < fewest:
                    self.assertIs(told.__class__, Stuck)
                    self.assertTrue(is_tree(program, registers, {}, told.tree))
                else:
                    self.assertIs(told.__class__, Still)
                    self.assertTrue(is_choice(program, registers, told.registers))

    def test_by_hand(self):
        # The webs of THREE: a 0, a 1, b 2, c 3, d 4, d 5; 0, 2 and 3 clash with one another.
        for tree, right in (((0, ((2, (None, 3)), None)), True), ((0, ((2, (None, (3, (None, None)))), None)), True),
                            ((0, ((2, (None, (3, (None, 1)))), None)), False), ((0, ((2, (3, 3)), None)), False),
                            ((0, ((2, (None, 4)), None)), False), ((0, ((2, (None, 0)), None)), False), ((0, ((0, (None, 3)), None)), False),
                            ((0, (None, (2, (3, None)))), False), ((0, ((2, (None, 3)),)), False), ((0, ((2, (None, 3)), None, None)), False)):
            self.assertIs(is_still(THREE, 2, Stuck(tree)), right)
        # None may stand as the second choice of the first web, as registers that are not in use are alike, but need not.
        self.assertIs(is_still(THREE, 2, Stuck((0, ((2, (None, 3)), (2, (3, None)))))), True)
        self.assertIs(is_still(THREE, 2, Stuck((0, (None, (2, (3, None)))))), False)
        # Register 1 is not in use, but 0 is, so it is looked at.
        self.assertIs(is_still(THREE, 2, Stuck((5, ((0, (None, (2, (3, None)))), None)))), False)
        self.assertIs(is_still(THREE, 2, Stuck((5, ((0, ((2, (None, 3)), (2, (3, None)))), None)))), True)
        self.assertIs(is_still(THREE, 0, Stuck(5)), True)
        self.assertIs(is_still(THREE, 0, Stuck((5, ()))), True)
        self.assertIs(is_still(THREE, 0, Stuck((6, ()))), False)
        self.assertIs(is_still(THREE, 1, Stuck(5)), False)
        self.assertIs(is_still(THREE, 1, Stuck((2, (3,)))), True)
        self.assertIs(is_still(THREE, 1, Stuck((2, (1,)))), False)
        self.assertIs(is_still(THREE, 1, Stuck((2, (2,)))), False)
        self.assertIs(is_still(THREE, 1, Stuck((2, (None,)))), False)
        self.assertIs(is_still(THREE, 3, Still((0, 0, 1, 2, 0, 0))), True)
        self.assertIs(is_still(THREE, 3, Still((0, 0, 1, 2, 1, 0))), False)
        self.assertIs(is_still(EMPTY, 0, Still(())), True)
        self.assertIs(is_still(EMPTY, 0, Stuck(0)), False)

    def test_one_thing_bent(self):
        dice = random.Random(97)
        wrong, right = 0, 0
        for program in few_webs(97, 25):
            fewest, many = fewest_still(program), len(webs_of(program))
            if not many:
                continue
            told = still(program, fewest).registers
            for at in range(many):
                for item in range(-1, fewest + 1):
                    bent = told[:at] + (item,) + told[at + 1:]
                    self.assertIs(is_still(program, fewest, Still(bent)), is_choice(program, fewest, bent))
                for item in (None, "0", True, 0.0, (0,)):
                    self.assertIs(is_still(program, fewest + 1, Still(told[:at] + (item,) + told[at + 1:])), False)
            for bent in (told[:-1], told + (0,), (), None, "0" * many):
                self.assertIs(is_still(program, fewest, Still(bent)), False)
            self.assertIs(is_still(program, fewest + 1, Still(told)), True)
            self.assertIs(is_still(program, fewest - 1, Still(told)), False)
            tree = still(program, fewest - 1).tree
            paths = list(trees_in(tree))
            for path, part in dice.sample(paths, min(len(paths), 6)):
                for item in (None, dice.randrange(many), many, -1, (), (0,), (0, None), part[:1] if isinstance(part, tuple) else (part,)):
                    bent = with_item(tree, path, item)
                    if item is None and not path or isinstance(item, tuple):
                        expected = False
                    else:
                        expected = is_tree(program, fewest - 1, {}, bent)
                    self.assertIs(is_still(program, fewest - 1, Stuck(bent)), expected, (tree, bent))
                    wrong, right = wrong + (not expected), right + expected
            self.assertIs(is_still(program, fewest, Stuck(tree)), False)
        self.assertGreater(wrong, 100)
        self.assertGreater(right, 3)

    def test_any_other_values(self):
        odd = (object(), Stuck(None), Stuck(True), Stuck(False), Stuck("0"), Stuck(0.0), Stuck(()), Stuck((0, (0, 0), 0)), Stuck((0, None)),
               Stuck((None, (None, None))), Stuck((True, (None, None))), Stuck({}), Still(None), Still({}), Still(3), (0, 0, 1, 2, 0, 0))
        for value in OTHERS + odd:
            self.assertIs(is_still(THREE, 2, value), False)
        told = still(THREE, 2)
        told.tree = (told.tree[0], list(told.tree[1]))
        self.assertIs(is_still(THREE, 2, told), False)
        told = still(THREE, 3)
        told.registers = list(told.registers)
        self.assertIs(is_still(THREE, 3, told), False)

    def test_errors(self):
        for registers in NO_NUMBERS:
            self.refused(BadNumber, {"what": "registers", "value": registers}, still, THREE, registers)
            self.refused(BadNumber, {"what": "registers", "value": registers}, is_still, THREE, registers, None)


class Many(Case):

    def test_twelve_webs_with_too_few_registers(self):
        # Eight names at one point, and more behind it.
        names = ["a", "b", "c", "d", "e", "f", "g", "h"]
        block = [("if", ("below", one, other), [("give", one)], []) for one, other in zip(names, names[1:])]
        block += [("set", one, ("plus", other, 1)) for one, other in zip(names[:4], names[1:5])]
        block += [("give", "a")]
        program = Program("p", ("a",), [("loop", block)])
        self.assertLessEqual(len(webs_of(program)), 12)
        self.assertEqual(fewest_still(program), 8)
        for registers in range(8):
            self.assertIs(is_still(program, registers, still(program, registers)), True)


if __name__ == "__main__":
    unittest.main()
