"""Nets: nodes with plans, a bus between them and chains over both, and by when these are at their ends."""

from promptworks.bounds import bound
from promptworks.buses import Bus, bus_bound, waiting
from promptworks.errors import BadChain
from promptworks.plans import Plan
from promptworks.tasks import copy_of


class Net:
    """Plans by their nodes' names, a bus, and chains. A net never changes."""

    def __init__(self, nodes, bus, chains=()):
        self._nodes = {node: nodes[node] for node in nodes}
        self._bus = bus
        parts = parts_of(nodes, bus)
        used = {}
        self._chains = []
        for place, chain in enumerate(chains):
            if not is_chain(chain, parts, used):
                raise BadChain(place)
            links = links_of(chain)
            for link in links:
                used[link] = True
            self._chains.append(tuple(links))
        if [link for link in parts if len(link) == 1 and link not in used]:
            raise BadChain(len(self._chains))
        self._alone = [(link,) for link in parts if link not in used]

    def chains(self):
        """The chains that were told: tuples of links, (node, task) or (message,)."""
        return list(self._chains)

    def all_chains(self):
        """The chains that were told, then those of one task that is in none of them."""
        return self._chains + self._alone

    def nodes(self):
        """The plans by their nodes' names."""
        return dict(self._nodes)

    def bus(self):
        """The bus."""
        return self._bus


def parts_of(nodes, bus):
    """All tasks and messages by their links."""
    parts = {(node, task.name): task for node, plan in nodes.items() for task in plan.tasks()}
    for message in bus.messages():
        parts[(message.name,)] = message
    return parts


def links_of(chain):
    """The links of a chain: a task stands there as it is told, a message by its name alone."""
    return [link if type(link) is tuple else (link,) for link in chain]


def is_chain(chain, parts, used):
    """Whether texts and tuples of two texts are a chain of unlike parts that aren't used yet, of one gap."""
    links = links_of(chain)
    if len(links) & 1 == 0 or not all([link in parts and link not in used for link in links]):
        return False
    # Tasks have links of two texts, messages of one: they stand by turns, a task first.
    if [len(link) for link in links] != [2 - (place & 1) for place in range(len(links))]:
        return False
    if len({link: True for link in links}) < len(links):
        return False
    if [place for place in range(2, len(links), 2) if links[place - 2][0] == links[place][0]]:
        return False
    return all([parts[link].gap == parts[links[0]].gap for link in links])


def net_paper(net, *, apart=None):
    """("kept", bounds by links), or ("beyond", link) of one whose bound goes beyond its due."""
    chains = net.all_chains()
    parts = parts_of(net.nodes(), net.bus())
    waits = {link: parts[link].wait if place == 0 else 0 for chain in chains for place, link in enumerate(chain)}
    while True:
        told = bounds_of(net, waits, apart)
        for link in told:
            if told[link] is None:
                return ("beyond", link)
        later = {link: told[chain[place - 1]] if place > 0 else waits[link]
                 for chain in chains for place, link in enumerate(chain)}
        if later == waits:
            return ("kept", told)
        waits = later


def bounds_of(net, waits, apart):
    """The bounds of all links where they wait so long."""
    told = {}
    for node, plan in net.nodes().items():
        waited = Plan([copy_of(task, wait=waits[(node, task.name)]) for task in plan.tasks()])
        for task in plan.tasks():
            told[(node, task.name)] = bound(waited, task.name)
    bus = Bus([waiting(message, waits[(message.name,)]) for message in net.bus().messages()])
    for message in bus.messages():
        told[(message.name,)] = bus_bound(bus, message.name, apart=apart)
    return told
