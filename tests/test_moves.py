"""Chains and rings, and moves from one matching to another one."""

import copy
import itertools
import random
import unittest

import trying
from matchlines import moves as module
from matchlines.moves import is_move, moves
from matchlines.steps import best_matching, steps

PARAMETERS = {"moves": ["first", "second"], "is_move": ["first", "second", "gone", "come"]}


def drawn_matching(draw, most):
    """Any matching of lines with the ids from 1 to so many, all of one amount."""
    number = draw.randint(0, most)
    return sorted(zip(draw.sample(range(1, most + 1), number), draw.sample(range(1, most + 1), number)))


def plain_moves(first, second):
    """Chains and rings by joining groups of pairs until none has a line in common with another one."""
    groups = [{pair} for pair in set(first) ^ set(second)]
    is_joined = True
    while is_joined:
        is_joined = False
        for group, more in itertools.combinations(groups, 2):
            if any(pair[0] == near[0] or pair[1] == near[1] for pair in group for near in more):
                groups = [row for row in groups if row is not group and row is not more] + [group | more]
                is_joined = True
                break
    rings = [group for group in groups if is_plain_ring(group)]
    return sorted(sorted(group) for group in groups if group not in rings), sorted(sorted(group) for group in rings)


def is_plain_ring(group):
    lines = [("own", pair[0]) for pair in group] + [("other", pair[1]) for pair in group]
    return all(lines.count(line) == 2 for line in lines)


class InterfaceTest(unittest.TestCase):
    def test_functions_are_defined_here_with_the_names_shown(self):
        trying.check_interface(self, module, PARAMETERS)

    def test_arguments_by_name(self):
        first, second = [(2, 1)], [(1, 1), (2, 2)]
        self.assertEqual(moves(second=second, first=first), ([[(1, 1), (2, 1), (2, 2)]], []))
        self.assertIs(is_move(come=second, gone=first, second=second, first=first), True)


class MovesTest(unittest.TestCase):
    def check(self, first, second):
        kept = copy.deepcopy((first, second))
        told = moves(first, second)
        self.assertEqual(told, plain_moves(first, second), (first, second))
        self.assertEqual(moves(second, first), told)
        self.assertEqual((first, second), kept)
        self.assertEqual([type(told), type(told[0]), type(told[1])], [tuple, list, list])
        self.assertEqual({type(row) for row in told[0] + told[1]} - {list}, set())

    def test_equal_and_empty(self):
        for pairs in [[], [(1, 1)], [(1, 2), (2, 1)], [(3, 3), (4, 9)]]:
            self.assertEqual(moves(pairs, list(pairs)), ([], []))

    def test_chains_of_one_pair(self):
        self.assertEqual(moves([], [(1, 1)]), ([[(1, 1)]], []))
        self.assertEqual(moves([(1, 1)], []), ([[(1, 1)]], []))
        self.assertEqual(moves([(1, 1)], [(2, 2)]), ([[(1, 1)], [(2, 2)]], []))
        self.assertEqual(moves([], [(2, 3), (3, 2), (10, 1)]), ([[(2, 3)], [(3, 2)], [(10, 1)]], []))

    def test_the_same_id_on_both_sides_is_two_lines(self):
        self.assertEqual(moves([(1, 2)], [(2, 1)]), ([[(1, 2)], [(2, 1)]], []))
        self.assertEqual(moves([(1, 2), (2, 3)], [(3, 1)]), ([[(1, 2)], [(2, 3)], [(3, 1)]], []))

    def test_longer_chains(self):
        self.assertEqual(moves([(1, 1)], [(1, 2)]), ([[(1, 1), (1, 2)]], []))
        self.assertEqual(moves([(1, 1)], [(2, 1)]), ([[(1, 1), (2, 1)]], []))
        self.assertEqual(moves([(1, 1), (2, 2)], [(1, 2), (2, 3)]), ([[(1, 1), (1, 2), (2, 2), (2, 3)]], []))
        first = [(number, number) for number in range(1, 60)]
        second = [(number, number + 1) for number in range(1, 60)]
        self.assertEqual(moves(first, second), ([sorted(first + second)], []))

    def test_very_long_chain_and_ring(self):
        first = [(number, number) for number in range(1, 3001)]
        second = [(number, number + 1) for number in range(1, 3000)]
        self.assertEqual(moves(first, second), ([sorted(first + second)], []))
        second.append((3000, 1))
        self.assertEqual(moves(first, second), ([], [sorted(first + second)]))

    def test_rings(self):
        first, second = [(1, 1), (2, 2)], [(1, 2), (2, 1)]
        self.assertEqual(moves(first, second), ([], [[(1, 1), (1, 2), (2, 1), (2, 2)]]))
        first, second = [(1, 1), (2, 2), (3, 3)], [(1, 2), (2, 3), (3, 1)]
        self.assertEqual(moves(first, second), ([], [[(1, 1), (1, 2), (2, 2), (2, 3), (3, 1), (3, 3)]]))

    def test_several_of_both_and_pairs_in_both_matchings(self):
        first = [(1, 1), (2, 2), (5, 5), (6, 6), (10, 12), (11, 14), (20, 20)]
        second = [(1, 2), (2, 1), (5, 6), (6, 5), (9, 12), (20, 20), (30, 31)]
        chains = [[(9, 12), (10, 12)], [(11, 14)], [(30, 31)]]
        rings = [[(1, 1), (1, 2), (2, 1), (2, 2)], [(5, 5), (5, 6), (6, 5), (6, 6)]]
        self.assertEqual(moves(first, second), (chains, rings))
        self.check(first, second)

    def test_small_matchings(self):
        rows = []
        for number in range(4):
            for own_ids in itertools.combinations((1, 2, 10), number):
                rows += [sorted(zip(own_ids, other_ids)) for other_ids in itertools.permutations((1, 2, 10), number)]
        for first, second in itertools.product(rows, rows):
            self.check(first, second)

    def test_drawn_matchings(self):
        draw = random.Random(11)
        for _ in range(400):
            most = draw.choice([4, 7, 12])
            self.check(drawn_matching(draw, most), drawn_matching(draw, most))

    def test_best_matchings_differ_in_one_chain_of_one_amount(self):
        for own, other in trying.drawn_books(111, 200, most=8):
            amounts = {line[0]: line[2] for line in own}
            bests = [best_matching(own, other, number) for number in range(len(steps(own, other)) + 1)]
            for before, after in zip(bests, bests[1:]):
                chains, rings = moves(before, after)
                self.assertEqual((len(chains), rings), (1, []))
                self.assertEqual(len({amounts[own_id] for own_id, _ in chains[0]}), 1)

    def test_answers_are_new(self):
        first, second = [(1, 1), (2, 2), (5, 5)], [(1, 2), (2, 1)]
        chains, rings = moves(first, second)
        chains[0].clear(), rings[0].clear(), chains.clear(), rings.clear()
        self.assertEqual(moves(first, second), ([[(5, 5)]], [[(1, 1), (1, 2), (2, 1), (2, 2)]]))


class IsMoveTest(unittest.TestCase):
    FIRST = [(1, 1), (2, 2), (3, 3)]
    SECOND = [(1, 2), (2, 1), (3, 3)]
    GONE = [(1, 1), (2, 2)]
    COME = [(1, 2), (2, 1)]

    def test_moves(self):
        self.assertIs(is_move(self.FIRST, self.SECOND, self.GONE, self.COME), True)
        self.assertIs(is_move(self.SECOND, self.FIRST, self.COME, self.GONE), True)
        self.assertIs(is_move([], [], [], []), True)
        self.assertIs(is_move(self.FIRST, self.FIRST, [], []), True)
        self.assertIs(is_move([], self.FIRST, [], self.FIRST), True)
        self.assertIs(is_move(self.FIRST, [], self.FIRST, []), True)

    def test_lists_in_any_sequence(self):
        for gone, come in itertools.product(itertools.permutations(self.GONE), itertools.permutations(self.COME)):
            self.assertIs(is_move(self.FIRST, self.SECOND, list(gone), list(come)), True)

    def test_a_pair_twice(self):
        for pair in self.GONE:
            self.assertIs(is_move(self.FIRST, self.SECOND, self.GONE + [pair], self.COME), False)
        for pair in self.COME:
            self.assertIs(is_move(self.FIRST, self.SECOND, self.GONE, self.COME + [pair]), False)
        self.assertIs(is_move([(1, 1)], [], [(1, 1), (1, 1)], []), False)
        self.assertIs(is_move([], [(1, 1)], [], [(1, 1), (1, 1)]), False)

    def test_gone_that_is_not_there(self):
        for pair in [(9, 9), (1, 3), (1, 2), (2, 1)]:
            self.assertIs(is_move(self.FIRST, self.SECOND, self.GONE + [pair], self.COME), False)
        self.assertIs(is_move([], [], [(1, 1)], []), False)
        self.assertIs(is_move([], [(1, 2)], [(1, 1)], [(1, 2)]), False)

    def test_come_that_is_there(self):
        self.assertIs(is_move(self.FIRST, self.SECOND, self.GONE, self.COME + [(3, 3)]), False)
        self.assertIs(is_move(self.FIRST, self.FIRST, [], [(3, 3)]), False)
        self.assertIs(is_move([(1, 1)], [(1, 1)], [], [(1, 1)]), False)

    def test_pairs_in_both_lists(self):
        self.assertIs(is_move(self.FIRST, self.SECOND, self.GONE + [(3, 3)], self.COME + [(3, 3)]), False)
        self.assertIs(is_move(self.FIRST, self.SECOND, self.GONE + [(9, 9)], self.COME + [(9, 9)]), False)
        self.assertIs(is_move(self.FIRST, self.FIRST, [(1, 1)], [(1, 1)]), False)
        self.assertIs(is_move([], [], [(1, 1)], [(1, 1)]), False)

    def test_a_pair_missing_or_too_many(self):
        for place in (0, 1):
            self.assertIs(is_move(self.FIRST, self.SECOND, self.GONE[place:place + 1], self.COME), False)
            self.assertIs(is_move(self.FIRST, self.SECOND, self.GONE, self.COME[place:place + 1]), False)
        self.assertIs(is_move(self.FIRST, self.SECOND, [], []), False)
        self.assertIs(is_move(self.FIRST, self.SECOND, self.GONE + [(3, 3)], self.COME), False)
        self.assertIs(is_move(self.FIRST, self.SECOND, self.GONE, self.COME + [(4, 4)]), False)
        self.assertIs(is_move(self.FIRST, self.SECOND, self.COME, self.GONE), False)

    def test_drawn_matchings(self):
        draw = random.Random(112)
        for _ in range(300):
            first, second = drawn_matching(draw, 5), drawn_matching(draw, 5)
            gone, come = sorted(set(first) - set(second)), sorted(set(second) - set(first))
            draw.shuffle(gone), draw.shuffle(come)
            kept = copy.deepcopy((first, second, gone, come))
            self.assertIs(is_move(first, second, gone, come), True)
            self.assertEqual((first, second, gone, come), kept)
            self.assertIs(is_move(second, first, gone, come), first == second)
            self.assertIs(is_move(second, first, come, gone), True)
            if gone:
                self.assertIs(is_move(first, second, gone[1:], come), False)
            if come:
                self.assertIs(is_move(first, second, gone, come[1:]), False)


if __name__ == "__main__":
    unittest.main()
