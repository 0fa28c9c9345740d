"""[28] and [29]: nets, their chains and their papers."""

import random
import unittest

from plain import chain_links, plain_net_paper, random_net
from promptworks.bounds import bound
from promptworks.buses import Bus, Message, bus_bound
from promptworks.errors import BadChain
from promptworks.nets import Net, net_paper
from promptworks.plans import Plan
from promptworks.tasks import Task

GREAT = 10 ** 12


def task(name, rank, gap=50, most=3, due=None, wait=0, sections=()):
    return Task(name, rank=rank, gap=gap, most=most, due=due, wait=wait, sections=sections)


def message(name, rank, gap=50, most=4, due=None, wait=0):
    return Message(name, rank=rank, gap=gap, most=most, due=due, wait=wait)


def nodes():
    return {"left": Plan([task("a", 1), task("b", 2), task("c", 3, gap=80)]),
            "right": Plan([task("a", 1), task("b", 2), task("d", 3)])}


def bus():
    return Bus([message("m", 1), message("n", 2)])


LONG = [("left", "a"), "m", ("right", "b"), "n", ("left", "b")]


class TestNet(unittest.TestCase):
    def test_chains_as_told(self):
        links = [(("left", "a"), ("m",), ("right", "b"), ("n",), ("left", "b"))]
        self.assertEqual(Net(nodes(), bus(), [LONG]).chains(), links)
        self.assertEqual(Net(nodes(), bus(), (tuple(LONG),)).chains(), links)
        self.assertEqual(Net(nodes=nodes(), bus=bus(), chains=[LONG]).chains(), links)
        self.assertIs(type(Net(nodes(), bus(), [LONG]).chains()[0]), tuple)

    def test_in_order(self):
        rows = [[("right", "a"), "n", ("left", "b")], [("left", "c")], [("left", "a"), "m", ("right", "b")]]
        self.assertEqual(Net(nodes(), bus(), rows).chains(),
                         [(("right", "a"), ("n",), ("left", "b")), (("left", "c"),), (("left", "a"), ("m",), ("right", "b"))])

    def test_none(self):
        for net in [Net({}, Bus()), Net(nodes(), Bus()), Net(nodes(), Bus(), []), Net(nodes(), Bus(), ())]:
            self.assertEqual(net.chains(), [])
        self.assertEqual(net_paper(Net({}, Bus())), ("kept", {}))

    def refused(self, place, chains, told_nodes=None, told_bus=None):
        with self.assertRaises(BadChain) as caught:
            Net(told_nodes or nodes(), told_bus or bus(), chains)
        self.assertEqual(vars(caught.exception), {"place": place}, chains)

    def test_links_that_arent_there(self):
        for link in [("left", "z"), ("nowhere", "a"), ("right", "c"), ("", ""), ("a", "left"), ("m", "m"), ("m", "")]:
            self.refused(0, [[link]])
            self.refused(0, [[link] + LONG[1:]])
            self.refused(0, [LONG[:2] + [link] + LONG[3:]])
            self.refused(0, [LONG[:4] + [link]])
            self.refused(1, [LONG, [link]])
        for text in ["z", "", "left", "a", "mm"]:
            self.refused(0, [[LONG[0], text] + LONG[2:]])
            self.refused(0, [LONG[:3] + [text] + LONG[4:]])

    def test_links_that_dont_go_by_turns(self):
        for chain in [[], ["m"], ["m", ("left", "a")], LONG[:2], LONG[:4], LONG + ["m"], LONG[1:], [LONG[0], LONG[2]],
                      [LONG[0], "m", "n", LONG[2]], [LONG[0], "m", "n"], [LONG[0], LONG[2], LONG[4]],
                      ["m", LONG[0], "n"], ["m", "n", "m"], [LONG[0], ("m", "n"), LONG[2]], ["la"], [LONG[0], "m", "rb"]]:
            self.refused(0, [chain, LONG])
            self.refused(0, [tuple(chain)])

    def test_links_that_stand_twice(self):
        self.refused(0, [[("left", "a"), "m", ("right", "b"), "n", ("left", "a")]])
        self.refused(0, [[("left", "a"), "m", ("right", "b"), "m", ("left", "b")]])
        self.refused(1, [LONG, LONG])
        self.refused(1, [LONG, [("right", "b")]])
        self.refused(2, [LONG, [("right", "a")], [("left", "b")]])
        self.refused(1, [[("left", "a"), "m", ("right", "a")], [("left", "b"), "m", ("right", "b")],
                         [("left", "b"), "n", ("right", "b")]])
        self.refused(1, [[("left", "c")], [("left", "c")], [("nowhere", "c")]])

    def test_of_one_name_on_unlike_nodes(self):
        net = Net(nodes(), bus(), [[("left", "a"), "m", ("right", "a")], [("left", "b"), "n", ("right", "b")]])
        self.assertEqual(len(net.chains()), 2)

    def test_two_of_one_node_beside_a_message(self):
        self.refused(0, [[("left", "a"), "m", ("left", "b")]])
        self.refused(0, [[("left", "a"), "m", ("right", "b"), "n", ("right", "d")]])
        self.refused(1, [[("left", "a"), "m", ("right", "b")], [("right", "a"), "n", ("right", "d")]])

    def test_unlike_gaps(self):
        self.refused(0, [[("left", "c"), "m", ("right", "b")]])
        self.refused(0, [[("right", "b"), "m", ("left", "c")]])
        other = Bus([message("m", 1), message("n", 2, gap=51)])
        self.refused(0, [LONG], told_bus=other)
        self.refused(1, [[("left", "a"), "m", ("right", "b")], [("right", "a"), "n", ("left", "b")]], told_bus=other)

    def test_a_message_in_no_chain(self):
        self.refused(0, [])
        self.refused(0, (), nodes(), Bus([message("m", 1)]))
        self.refused(1, [[("left", "a"), "m", ("right", "b")]])
        self.refused(2, [[("left", "a"), "m", ("right", "b")], [("left", "c")]])
        with self.assertRaises(BadChain) as caught:
            Net(nodes(), bus())
        self.assertEqual(caught.exception.place, 0)

    def test_the_first_wrong_one(self):
        self.refused(1, [LONG, ["n"], ["m"]])
        self.refused(0, [[("left", "a"), "m"], LONG])
        self.refused(1, [[("left", "a"), "m", ("right", "b")], [("left", "a"), "n", ("right", "d")]])

    def test_told_and_handed_in_things_are_left(self):
        told, chains = nodes(), [list(LONG)]
        net = Net(told, bus(), chains)
        paper = net_paper(net)
        net.chains().clear()
        chains[0].clear()
        chains.append(["z"])
        told.clear()
        self.assertEqual(len(net.chains()), 1)
        self.assertEqual(net_paper(net), paper)
        net_paper(net)[1].clear()
        self.assertEqual(net_paper(net), paper)


class TestNetPaper(unittest.TestCase):
    def test_bounds_go_on_along_a_chain(self):
        net = Net({"left": Plan([task("a", 1, wait=2)]), "right": Plan([task("b", 1)])}, Bus([message("m", 1)]),
                  [[("left", "a"), "m", ("right", "b")]])
        self.assertEqual(net_paper(net), ("kept", {("left", "a"): 5, ("m",): 9, ("right", "b"): 12}))
        self.assertEqual(net_paper(net=net, apart=5), ("kept", {("left", "a"): 5, ("m",): 25, ("right", "b"): 28}))
        with self.assertRaises(TypeError):
            net_paper(net, 5)

    def test_waits_of_later_links_dont_count(self):
        for wait in [0, 7, 49, GREAT]:
            net = Net({"left": Plan([task("a", 1)]), "right": Plan([task("b", 1, wait=wait)])},
                      Bus([message("m", 1, wait=wait)]), [[("left", "a"), "m", ("right", "b")]])
            self.assertEqual(net_paper(net), ("kept", {("left", "a"): 3, ("m",): 7, ("right", "b"): 10}))

    def test_the_wait_of_the_first_link_counts(self):
        for wait, told in [(0, 10), (7, 17), (40, 50)]:
            net = Net({"left": Plan([task("a", 1, wait=wait)]), "right": Plan([task("b", 1)])},
                      Bus([message("m", 1)]), [[("left", "a"), "m", ("right", "b")]])
            self.assertEqual(net_paper(net)[1][("right", "b")], told)
        net = Net({"left": Plan([task("a", 1, wait=41)]), "right": Plan([task("b", 1)])},
                  Bus([message("m", 1)]), [[("left", "a"), "m", ("right", "b")]])
        self.assertEqual(net_paper(net), ("beyond", ("right", "b")))

    def test_tasks_in_no_chain(self):
        net = Net(nodes(), bus(), [LONG])
        word, told = net_paper(net)
        self.assertEqual(word, "kept")
        self.assertEqual(sorted(told), sorted([("left", "a"), ("left", "b"), ("left", "c"), ("right", "a"),
                                               ("right", "b"), ("right", "d"), ("m",), ("n",)]))
        net = Net({"left": nodes()["left"]}, Bus())
        self.assertEqual(net_paper(net)[1], {("left", name): bound(nodes()["left"], name) for name in "abc"})

    def test_waits_of_others_press(self):
        # d is pressed by b, which comes with all the wait of its chain.
        plans = {"left": Plan([task("a", 1, gap=20, most=9)]),
                 "right": Plan([task("b", 1, gap=20, most=4), task("d", 2, gap=60, most=13)])}
        word, told = net_paper(Net(plans, Bus([message("m", 1, gap=20)]), [[("left", "a"), "m", ("right", "b")]]))
        self.assertEqual((word, told[("right", "b")], told[("right", "d")]), ("kept", 17, 13 + 2 * 4))
        self.assertEqual(bound(plans["right"], "d"), 13 + 4)

    def test_chains_over_both_press_one_another(self):
        # Each chain's later task is more urgent than the other's first one.
        plans = {"left": Plan([task("a", 2, gap=40, most=6), task("b", 1, gap=30, most=5)]),
                 "right": Plan([task("c", 2, gap=30, most=6), task("d", 1, gap=40, most=5)])}
        told_bus = Bus([message("m", 1, gap=40), message("n", 2, gap=30)])
        chains = [[("left", "a"), "m", ("right", "d")], [("right", "c"), "n", ("left", "b")]]
        told = net_paper(Net(plans, told_bus, chains))
        rows = {node: plan.tasks() for node, plan in plans.items()}
        self.assertEqual(told, plain_net_paper(rows, told_bus.messages(), chain_links(rows, chains), None))
        self.assertEqual(told[0], "kept")

    def test_just_one_link_goes_beyond(self):
        # Just these bounds: right b is pressed by its a, n by m, left b by a.
        dues = {("left", "a"): 3, ("m",): 7, ("right", "b"): 13, ("n",): 18, ("left", "b"): 24}
        for beyond in list(dues) + [None]:
            due = {link: told - (link == beyond) for link, told in dues.items()}
            plans = {"left": Plan([task("a", 1, due=due[("left", "a")]), task("b", 2, due=due[("left", "b")])]),
                     "right": Plan([task("a", 1), task("b", 2, due=due[("right", "b")])])}
            told_bus = Bus([message("m", 1, most=4, due=due[("m",)]), message("n", 2, due=due[("n",)], most=1)])
            told = net_paper(Net(plans, told_bus, [LONG]))
            rows = {node: plan.tasks() for node, plan in plans.items()}
            plain = plain_net_paper(rows, told_bus.messages(), chain_links(rows, [LONG]), None)
            self.assertEqual(plain[0], told[0])
            if told[0] == "beyond":
                self.assertEqual(plain[1], [told[1]])
            if beyond is None:
                self.assertEqual(told, plain)

    def test_behind_one_that_goes_beyond_nothing_goes_on(self):
        # a is beyond; b, behind it, isn't told, though it would be with any wait.
        plans = {"left": Plan([task("a", 1, most=9, due=8)]), "right": Plan([task("b", 1, most=3, due=4)])}
        net = Net(plans, Bus([message("m", 1)]), [[("left", "a"), "m", ("right", "b")]])
        self.assertEqual(net_paper(net), ("beyond", ("left", "a")))

    def test_a_message_beyond_by_spoils_alone(self):
        plans = {"left": Plan([task("a", 1)]), "right": Plan([task("b", 1)])}
        net = Net(plans, Bus([message("m", 1, due=11)]), [[("left", "a"), "m", ("right", "b")]])
        self.assertEqual(net_paper(net), ("kept", {("left", "a"): 3, ("m",): 7, ("right", "b"): 10}))
        self.assertEqual(net_paper(net, apart=8), ("kept", {("left", "a"): 3, ("m",): 11, ("right", "b"): 14}))
        self.assertEqual(net_paper(net, apart=7), ("beyond", ("m",)))

    def test_great_numbers(self):
        tenth = GREAT // 10
        plans = {"left": Plan([task("a", 1, gap=GREAT, most=tenth, wait=tenth), task("c", 2, gap=tenth, most=tenth // 2)]),
                 "right": Plan([task("b", 2, gap=GREAT, most=tenth), task("d", 1, gap=tenth, most=tenth // 2)])}
        net = Net(plans, Bus([message("m", 1, gap=GREAT, most=tenth)]), [[("left", "a"), "m", ("right", "b")]])
        self.assertEqual(net_paper(net), ("beyond", ("left", "c")))
        plans["left"] = Plan([task("a", 2, gap=GREAT, most=tenth, wait=tenth), task("c", 1, gap=tenth, most=tenth // 2)])
        self.assertEqual(net_paper(Net(plans, net.bus(), [[("left", "a"), "m", ("right", "b")]])),
                         ("kept", {("left", "a"): 3 * tenth, ("left", "c"): tenth // 2, ("m",): 4 * tenth,
                                   ("right", "b"): 6 * tenth, ("right", "d"): tenth // 2}))

    def test_against_a_going_up_from_below(self):
        chance = random.Random(32)
        words = {"kept": 0, "beyond": 0}
        for _ in range(120):
            told_nodes, messages, chains = random_net(chance)
            apart = chance.choice([None, None, 12, 40])
            net = Net({node: Plan(tasks) for node, tasks in told_nodes.items()}, Bus(messages), chains)
            word, told = net_paper(net, apart=apart)
            words[word] += 1
            plain = plain_net_paper(told_nodes, messages, chain_links(told_nodes, chains), apart)
            self.assertEqual(word, plain[0])
            if word == "kept":
                self.assertEqual(told, plain[1])
            else:
                self.assertIn(told, plain[1])
        self.assertGreater(min(words.values()), 15)

    def test_what_is_told_is_so_by_the_sums(self):
        chance = random.Random(33)
        for _ in range(60):
            told_nodes, messages, chains = random_net(chance, gaps=(40, 60))
            net = Net({node: Plan(tasks) for node, tasks in told_nodes.items()}, Bus(messages), chains)
            word, told = net_paper(net)
            if word == "kept":
                waits = {}
                for chain in chain_links(told_nodes, chains):
                    waits.update({link: told[ahead] for ahead, link in zip(chain, chain[1:])})
                for node, tasks in told_nodes.items():
                    plan = Plan([Task(each.name, rank=each.rank, gap=each.gap, most=each.most, due=each.due,
                                      wait=waits.get((node, each.name), each.wait), sections=each.sections)
                                 for each in tasks])
                    for each in tasks:
                        self.assertEqual(told[(node, each.name)], bound(plan, each.name))
                other = Bus([Message(each.name, rank=each.rank, gap=each.gap, most=each.most, due=each.due,
                                     wait=waits[(each.name,)]) for each in messages])
                for each in messages:
                    self.assertEqual(told[(each.name,)], bus_bound(other, each.name))


if __name__ == "__main__":
    unittest.main()
