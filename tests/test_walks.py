import unittest
from itertools import combinations, product

from rowsthatname.errors import BadNumber, BadPaper, BadRig, BadRow
from rowsthatname.rigs import let_rows
from rowsthatname.walks import check_walk, islands, many_rows, number_of, row_at, steps_between, walk_paper
from tests import plain
from tests.papers import NO_PAPERS, Judging, changes, is_cut, is_walk
from tests.samples import BARRED_2, NO_INTEGERS, NONE_LET, ODD, ONE_LET, OPEN_1, OPEN_2, OPEN_3, RIGS, WIDE

# Two islands of two rows, three islands of one row each, and one island with a way round.
TWO = ((2, 2, 2), (((0, 0), (1, 1)), ((0, 1), (1, 0))))
THREE = ((3, 3), (((0, 0), (1, 1)), ((0, 0), (1, 2)), ((0, 1), (1, 0)), ((0, 1), (1, 2)), ((0, 2), (1, 0)),
                  ((0, 2), (1, 1))))
ROUND = ((3, 3), (((0, 1), (1, 0)), ((0, 1), (1, 1)), ((0, 2), (1, 0))))


class Judged(Judging):
    """The papers of this part, and what takes them."""

    check = staticmethod(check_walk)
    forms = {"walk": (2, is_walk), "cut": (2, is_cut)}


class ByHand(Judged, unittest.TestCase):

    def test_numbers(self):
        self.assertEqual(many_rows(OPEN_2), 6)
        self.assertEqual(row_at(OPEN_2, 0), (0, 0))
        self.assertEqual(row_at(OPEN_2, 4), (1, 1))
        self.assertEqual(number_of(OPEN_2, (1, 1)), 4)
        self.assertEqual(many_rows(BARRED_2), 4)
        self.assertEqual([row_at(BARRED_2, number) for number in range(4)], [(0, 0), (0, 1), (1, 1), (1, 2)])
        self.assertEqual(number_of(BARRED_2, (1, 1)), 2)
        self.assertEqual(many_rows(NONE_LET), 0)
        self.assertEqual(many_rows(WIDE), 1024)
        self.assertEqual(row_at(WIDE, 1023), (3, 3, 3, 3, 3))

    def test_islands(self):
        self.assertEqual(islands(OPEN_1), (((0,), (1,), (2,)),))
        self.assertEqual(islands(OPEN_2), (let_rows(OPEN_2),))
        self.assertEqual(islands(TWO), (((0, 0, 0), (0, 0, 1)), ((1, 1, 0), (1, 1, 1))))
        self.assertEqual(islands(THREE), (((0, 0),), ((1, 1),), ((2, 2),)))
        self.assertEqual(islands(ROUND), (let_rows(ROUND),))
        self.assertEqual(islands(NONE_LET), ())
        self.assertEqual(islands(ONE_LET), (((1, 1),),))

    def test_steps(self):
        # A step sets one knob to any other value.
        self.assertEqual(steps_between(OPEN_1, (0,), (2,)), 1)
        self.assertEqual(steps_between(OPEN_1, (2,), (0,)), 1)
        self.assertEqual(steps_between(OPEN_1, (1,), (1,)), 0)
        self.assertEqual(steps_between(OPEN_3, (0, 0, 0), (1, 1, 1)), 3)
        self.assertEqual(steps_between(BARRED_2, (0, 0), (1, 2)), 3)
        self.assertIsNone(steps_between(TWO, (0, 0, 0), (1, 1, 0)))
        self.assertEqual(steps_between(TWO, (1, 1, 0), (1, 1, 1)), 1)
        self.assertEqual(steps_between(ROUND, (0, 0), (1, 2)), 2)
        self.assertEqual(steps_between(ROUND, (0, 0), (2, 1)), 2)
        self.assertEqual(steps_between(ONE_LET, (1, 1), (1, 1)), 0)

    def test_papers(self):
        self.assertEqual(walk_paper(OPEN_1, (2,), (2,)), ("walk", ((2,),)))
        self.assertEqual(walk_paper(OPEN_1, (2,), (0,)), ("walk", ((2,), (0,))))
        self.assertEqual(walk_paper(BARRED_2, (0, 0), (1, 2)), ("walk", ((0, 0), (0, 1), (1, 1), (1, 2))))
        self.assertEqual(walk_paper(BARRED_2, (1, 2), (0, 0)), ("walk", ((1, 2), (1, 1), (0, 1), (0, 0))))
        paper = walk_paper(TWO, (0, 0, 0), (1, 1, 0))
        self.assertEqual(paper, ("cut", ((0, 0, 0), (0, 0, 1))))
        self.assertEqual(check_walk(TWO, (0, 0, 0), (1, 1, 0), paper), "cut")

    def test_walks_that_are_taken(self):
        # Walks need not be the shortest, and may come by a row twice.
        for rows in (((0,), (2,)), ((0,), (1,), (2,)), ((0,), (2,), (0,), (2,)), ((0,), (1,), (0,), (1,), (2,))):
            self.assertEqual(check_walk(OPEN_1, (0,), (2,), ("walk", rows)), "walk")
        self.assertEqual(check_walk(OPEN_1, (0,), (0,), ("walk", ((0,), (1,), (0,)))), "walk")
        for rows in ((), ((0,),), ((2,),), ((2,), (0,)), ((0,), (0,), (2,)), ((0,), (2,), (2,)), ((0,), (3,), (2,)),
                     ((1,), (2,)), ((0,), (1,)), [(0,), (2,)]):
            self.assert_bad(OPEN_1, (0,), (2,), ("walk", rows), "walk")
        self.assert_bad(OPEN_2, (0, 0), (1, 1), ("walk", ((0, 0), (1, 1))), "walk")
        self.assert_bad(BARRED_2, (0, 0), (1, 1), ("walk", ((0, 0), (1, 0), (1, 1))), "walk")
        self.assert_bad(OPEN_1, (0,), (0,), ("walk", ((0,), (0,))), "walk")

    def test_cuts_that_are_taken(self):
        # A cut may have several islands.
        for rows in (((0, 0),), ((0, 0), (2, 2))):
            self.assertEqual(check_walk(THREE, (0, 0), (1, 1), ("cut", rows)), "cut")
        for rows in ((), ((1, 1),), ((2, 2),), ((2, 2), (0, 0)), ((0, 0), (0, 0)), ((0, 0), (1, 1)), [(0, 0)],
                     ((0, 0), (1, 1), (2, 2)), ((0, 0), (0, 1)), ((0, 1), (0, 0))):
            self.assert_bad(THREE, (0, 0), (1, 1), ("cut", rows), "cut")
        for rows in (((0, 0, 0),), ((0, 0, 1), (0, 0, 0)), ((1, 1, 0), (1, 1, 1))):
            self.assert_bad(TWO, (0, 0, 0), (1, 1, 0), ("cut", rows), "cut")
        self.assert_bad(OPEN_1, (0,), (0,), ("cut", ((0,),)), "cut")
        self.assert_bad(THREE, (0, 0), (0, 0), ("cut", ((0, 0),)), "cut")


class ManyRigs(Judged, unittest.TestCase):

    def test_numbers(self):
        for rig in RIGS + (TWO, THREE, ROUND):
            rows = plain.let_rows(rig)
            self.assertEqual(many_rows(rig), len(rows))
            for number, row in enumerate(rows):
                self.assertEqual(row_at(rig, number), row)
                self.assertEqual(number_of(rig, row), number)

    def test_islands(self):
        counts = set()
        for rig in RIGS + (TWO, THREE, ROUND, WIDE):
            found = islands(rig)
            if rig != WIDE:
                self.assertEqual(found, plain.islands(rig))
            self.assertEqual(sorted(row for island in found for row in island), list(let_rows(rig)))
            counts.add(min(len(found), 3))
        self.assertEqual(counts, {0, 1, 2, 3})

    def test_all_pairs_of_rows(self):
        words = set()
        for rig in RIGS + (TWO, THREE, ROUND):
            rows = plain.let_rows(rig)
            for one, other in product(rows[::1 + len(rows) // 5], rows[::1 + len(rows) // 9]):
                steps = plain.steps_to(rig, one).get(other)
                self.assertEqual(steps_between(rig, one, other), steps)
                word, told = walk_paper(rig, one, other)
                self.assertEqual(word, "cut" if steps is None else "walk")
                self.assertTrue(self.forms[word][1](rig, one, other, told))
                self.assertEqual(check_walk(rig, one, other, (word, told)), word)
                if word == "walk":
                    self.assertEqual(len(told), steps + 1)
                words.add((word, steps))
        self.assertGreaterEqual(words, {("cut", None), ("walk", 0), ("walk", 1), ("walk", 2), ("walk", 3)})

    def test_one_kind_of_paper_on_all_rows_of_small_rigs(self):
        # All ascending tuples of let rows are tried as cuts, and all short ones as walks.
        for rig in (OPEN_1, BARRED_2, TWO, THREE, ONE_LET):
            rows = plain.let_rows(rig)
            cuts = [chosen for many in range(len(rows) + 1) for chosen in combinations(rows, many)]
            walks = [chosen for many in range(5) for chosen in product(rows, repeat=many)]
            for one, other in product(rows, repeat=2):
                taken = {"walk": 0, "cut": 0}
                for word, those in (("walk", walks), ("cut", cuts)):
                    for chosen in those:
                        taken[word] += self.assert_judged(rig, one, other, (word, chosen))
                self.assertEqual(taken["walk"] > 0, plain.steps_to(rig, one).get(other) is not None)
                self.assertEqual(taken["cut"] > 0, taken["walk"] == 0)


class Papers(Judged, unittest.TestCase):

    def test_papers_with_one_thing_changed(self):
        taken = {"walk": 0, "cut": 0}
        for rig, one, other in ((OPEN_1, (0,), (2,)), (OPEN_1, (1,), (1,)), (OPEN_2, (0, 0), (1, 2)),
                                (BARRED_2, (0, 0), (1, 2)), (TWO, (0, 0, 0), (1, 1, 1)), (THREE, (1, 1), (2, 2)),
                                (TWO, (1, 1, 1), (1, 1, 0)), (ONE_LET, (1, 1), (1, 1)), (OPEN_3, (1, 0, 1), (0, 1, 1))):
            paper = walk_paper(rig, one, other)
            self.assertTrue(self.assert_judged(rig, one, other, paper))
            for changed in changes(paper):
                taken[paper[0]] += self.assert_judged(rig, one, other, changed)
        # A walk that is longer than it need be.
        for changed in changes(("walk", ((0, 0), (0, 1), (0, 2), (1, 2), (1, 1)))):
            taken["walk"] += self.assert_judged(OPEN_2, (0, 0), (1, 1), changed)
        self.assertGreater(taken["walk"], 0)
        # A cut of several islands, and one that is the other way round.
        for rows in (((0, 0), (2, 2)), ((0, 0),)):
            for changed in changes(("cut", rows)):
                taken["cut"] += self.assert_judged(THREE, (0, 0), (1, 1), changed)
        self.assertGreater(taken["cut"], 0)

    def test_no_papers(self):
        for rig, one, other in ((OPEN_1, (0,), (1,)), (THREE, (0, 0), (1, 1)), (ONE_LET, (1, 1), (1, 1))):
            for paper in NO_PAPERS + ODD + (("walk", one, other), ("cut", None, None), {"walk": (one,)}, [one, other]):
                self.assertFalse(self.assert_judged(rig, one, other, paper))

    def test_papers_of_the_other_word(self):
        for rig in (OPEN_1, BARRED_2, TWO, THREE, ROUND):
            rows = plain.let_rows(rig)
            for one, other in product(rows, repeat=2):
                _, told = walk_paper(rig, one, other)
                for word in ("walk", "cut"):
                    for those in (told, told[::-1], told + told[-1:], told[1:], told[:-1], None, list(told)):
                        self.assert_judged(rig, one, other, (word, those))


class WrongInputs(unittest.TestCase):

    def test_numbers_of_rows(self):
        for rig in (OPEN_1, BARRED_2, NONE_LET, WIDE):
            many = many_rows(rig)
            for value in NO_INTEGERS + (-1, many, many + 1, 10 ** 999, -10 ** 999):
                with self.assertRaises(BadNumber) as caught:
                    row_at(rig, value)
                self.assertIs(caught.exception.value, value)
        with self.assertRaises(BadNumber):
            row_at(NONE_LET, 0)

    def test_rows(self):
        for value in ODD + ((0, 2), (1, 0), [0, 0], (0,), (0, 0, 0), (0, False), (2, 0), (0, -1), "00", ((0, 0),)):
            for call, given in ((number_of, (value,)), (steps_between, (value, None)), (walk_paper, (value, None)),
                                (check_walk, (value, None, None)), (steps_between, ((0, 0), value)),
                                (walk_paper, ((0, 0), value)), (check_walk, ((0, 0), value, None))):
                with self.assertRaises(BadRow) as caught:
                    call(BARRED_2, *given)
                self.assertIs(caught.exception.value, value)

    def test_rigs(self):
        for call, given in ((many_rows, ()), (row_at, (None,)), (number_of, (None,)), (islands, ()),
                            (steps_between, (None, None)), (walk_paper, (None, None)),
                            (check_walk, (None, None, None))):
            for rig, path in ((None, ()), (((2, 5), ()), (0, 1)), (((2, 2), (((0, 2),),)), (1, 0))):
                with self.assertRaises(BadRig) as caught:
                    call(rig, *given)
                self.assertEqual(caught.exception.path, path)

    def test_nothing_is_too_great(self):
        zero, last = (0,) * 5, (3,) * 5
        self.assertEqual(steps_between(WIDE, zero, last), 5)
        self.assertEqual(check_walk(WIDE, zero, last, walk_paper(WIDE, zero, last)), "walk")
        self.assertEqual(number_of(WIDE, last), 1023)
        with self.assertRaises(BadPaper):
            check_walk(WIDE, zero, last, ("cut", let_rows(WIDE)[:-1]))


if __name__ == "__main__":
    unittest.main()
