"""Points 2, 93 and 111: networks of replicas."""

import random
import unittest

from builders import BOTH, EVERYTHING, NONE, READ, SEAL, grant, revoke
from kithbase.errors import QuestionError
from kithbase.replica import Replica
from kithbase.rights import verdicts
from kithbase.sheets import Sheet
from kithbase.sources import sources
from kithbase.why import rests_on
from kithbase.yielding import conflicts
from networks import Network, store_of

QUESTIONS = ["select * from s0_t", "select t.id, u.id from s0_t t left join s0_u u on t.id < u.id order by 2 desc",
             "select count(*), max(id) from s0_t", "select a, count(*) from s0_t group by a", "select b + 1 from s0_u",
             "select * from s1_t union select * from s1_t", "select c || 'x' from s0_t where d is null"]


def tell(store, space):
    """Returns all that is told about a space, with the changes on which each row rests."""
    allowed = verdicts(store)
    found = sources(store, allowed, space)
    resting = [[rests_on(store, allowed, source.name, row[0]) for row in source.rows] for source in found]
    tables = [[source.name, source.columns, source.kinds, source.rows] for source in found]
    return repr([tables, conflicts(Sheet(store, allowed, space)), resting])


def answers(replica):
    """Returns the answers of questions, or which errors are raised, and the conflicts."""
    found = []
    for text in QUESTIONS:
        try:
            found.append(repr(replica.ask(text)))
        except QuestionError as error:
            found.append(repr((error.__class__.__name__, vars(error))))
    return found


def settle(network):
    """Lets all replicas ask the founder and the founder all of them, until nobody learns anything."""
    for turn in range(3):
        for member in range(1, network.members):
            founder, other = network.replicas[0], network.replicas[member]
            founder.take(other.answer(founder.have()))
            other.take(founder.answer(other.have()))


class Random(unittest.TestCase):
    def run_network(self, seed, members, failures, steps):
        network = Network(random.Random(seed), members, failures)
        for step in range(steps):
            network.step()
            if step % 12 == 11:
                network.check(tell)
        network.check(tell)
        return network

    def test_networks_with_power(self):
        for seed in range(10):
            self.run_network(seed, 1 + seed % 4, 0.0, 60)

    def test_networks_where_power_fails(self):
        for seed in range(100, 114):
            self.run_network(seed, 1 + seed % 4, 0.05 + 0.2 * (seed % 2), 60)

    def test_a_great_network(self):
        network = self.run_network(500, 6, 0.05, 120)
        self.assertGreater(sum(len(changes) for changes in network.changes), 20)

    def test_much_happens_in_these_networks(self):
        tried, cut, unfit = {}, 0, 0
        for seed in range(8):
            network = self.run_network(seed, 3, 0.0, 60)
            for word, many in network.tried.items():
                tried[word] = tried.get(word, 0) + many
            cut += sum(sum(replica.status()[1]) for replica in network.replicas)
            unfit += network.unfit
        self.assertGreater(min(tried.values()), 10)
        self.assertGreater(cut, 10)
        self.assertGreater(unfit, 0)

    def test_what_all_have_heard_gives_the_same_answers(self):
        for seed in range(20):
            network = self.run_network(700 + seed, 3, 0.0, 40)
            settle(network)
            told = [replica.status()[0] for replica in network.replicas]
            self.assertEqual(told[1:], told[:1] * 2)
            full = [replica for replica in network.replicas if replica.status()[2] == [True] * 4]
            for replica in full[1:]:
                self.assertEqual(answers(replica), answers(full[0]))
                self.assertEqual([replica.conflicts(space) for space in range(4)],
                                 [full[0].conflicts(space) for space in range(4)])

    def test_live_results(self):
        """Given the same remembered answer, the same rows come and go in the same order."""
        for seed in range(12):
            network = self.run_network(900 + seed, 3, 0.0, 30)
            settle(network)
            text = "select id from s0_t"
            full = [replica for replica in network.replicas if replica.status()[2] == [True] * 4]
            try:
                watches = [replica.live(text) for replica in full]
            except QuestionError:
                continue
            turns = [watch.turn() for watch in watches]
            self.assertEqual(turns[1:], turns[:1] * (len(turns) - 1))
            for step in range(10):
                network.step()
            settle(network)
            found = []
            for watch in watches:
                try:
                    found.append(watch.turn())
                except QuestionError as error:
                    found.append(error.__class__)
            self.assertEqual(found[1:], found[:1] * (len(found) - 1))


def give(giver, taker):
    taker.take(giver.answer(taker.have()))


class Stories(unittest.TestCase):
    def test_packets_in_any_order(self):
        a, b, c = [Replica(member, 3) for member in range(3)]
        a.act(None, [grant(1), grant(2)], {0: [("table", "t"), ("column", (0, 1, 0), "n", "counter"),
                                               ("row", (0, 1, 0))]})
        give(a, b)
        give(a, c)
        packets = []
        for turn in range(4):
            b.act((0, 1, 0), [], {0: [("add", (0, 1, 2), (0, 1, 1), 1)]})
            packets.append(b.answer(c.have()))
        # The last one has all of them, and the earlier ones come late and twice.
        for packet in packets[::-1] + packets:
            c.take(packet)
            self.assertEqual(c.ask("select n from s0_t")[1], [(4,)])

    def test_one_has_cut_and_the_other_one_has_not(self):
        a, b = Replica(0, 2), Replica(1, 2)
        a.act(None, [grant(1)], {0: [("table", "t"), ("column", (0, 1, 0), "l", "letters"), ("row", (0, 1, 0))]})
        give(a, b)
        b.act((0, 1, 0), [], {0: [("insert", (0, 1, 2), (0, 1, 1), None, "abc")]})
        give(b, a)
        a.act(None, [SEAL], {0: [("remove", (1, 1, 0, 1))]})
        a.trim()
        give(a, b)
        self.assertEqual((a.status()[1], b.status()[1]), ([2, 1], [2, 1]))
        b.act((0, 1, 0), [], {0: [("insert", (0, 1, 2), (0, 1, 1), (1, 1, 0, 0), "x")]})
        give(b, a)
        for replica in (a, b):
            self.assertEqual(replica.ask("select l from s0_t")[1], [("axc",)])

    def test_a_member_that_cuts_alone(self):
        a, b, c = [Replica(member, 3) for member in range(3)]
        a.act(None, [grant(1), grant(2)], {0: [("table", "t"), ("row", (0, 1, 0))]})
        give(a, b)
        a.act(None, [SEAL], {})
        give(a, c)
        c.trim()
        # What member 1 writes beside the seal is not allowed, whoever hears of it.
        b.act((0, 1, 0), [], {0: [("row", (0, 1, 0))]})
        for first, second in [(b, c), (c, a), (a, b), (b, a), (c, b)]:
            give(first, second)
        for replica in (a, b, c):
            self.assertEqual(replica.ask("select id from s0_t")[1], [("0.1.1",)])
            self.assertIs(replica.verdict((1, 1)), False)
        self.assertEqual([replica.status()[1] for replica in (a, b, c)], [[2, 0, 0]] * 3)

    def test_a_space_that_is_shown_later(self):
        a, b = Replica(0, 2), Replica(1, 2)
        a.act(None, [grant(1, (READ, NONE, NONE, NONE))], {1: [("table", "t"), ("row", (0, 1, 0))]})
        give(a, b)
        self.assertEqual(b.status()[2], [True, False, False, False])
        a.act(None, [grant(1, (NONE, BOTH, NONE, NONE))], {})
        give(a, b)
        self.assertEqual(b.status()[2], [True, True, False, False])
        self.assertEqual(b.ask("select id from s1_t")[1], [("0.1.1",)])
        a.act(None, [revoke((0, 2, 0))], {1: [("row", (0, 1, 0))]})
        give(a, b)
        self.assertEqual(b.status()[2], [True, False, False, False])

    def test_who_has_heard_of_a_later_grant_answers_what_another_one_would_not(self):
        a, b, c = [Replica(member, 3) for member in range(3)]
        a.act(None, [grant(1, EVERYTHING)], {0: [("table", "t")]})
        give(a, b)
        give(b, c)
        self.assertEqual(c.status()[2], [False] * 4)
        a.act(None, [grant(2, EVERYTHING)], {})
        give(a, c)
        self.assertEqual(c.status()[2], [True] * 4)

    def test_stores_are_told_by_the_files(self):
        a = Replica(0, 1)
        a.act(None, [SEAL], {0: [("table", "t")]})
        self.assertEqual(store_of(a, 1).counts(), [1])


if __name__ == "__main__":
    unittest.main()
