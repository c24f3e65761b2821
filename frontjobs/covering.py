"""COVERs: which CREWs there may be beside each LEAD, so that no RUN comes out of them, and which WRONGS may come there.

A COVER is a dict: for each LEAD a list of pairs (ANYS, COUNTS). The bits of ANYS are the CODEs of which there are any
many, COUNTS is a dict of how many there are of other CODEs.
"""

from frontjobs.coding import START_LEAD

# Where the shell can begin a SCRIPT.
HUB_LEADS = (("none", 0, "shell", "plain", -1), ("none", 0, "shell", "raw", -1))


def is_within(anys, counts, other_anys, other_counts):
    """Whether each CREW of the first pair is one of the other pair, too."""
    if anys & ~other_anys:
        return False
    for code in counts:
        if not other_anys >> code & 1 and counts[code] > other_counts.get(code, 0):
            return False
    return True


def counts_behind(anys, counts, actor, freed):
    """The COUNTS behind a MOVE; of any many there are any many behind it."""
    left = {code: counts[code] for code in counts}
    if actor in left:
        left[actor] -= 1
        if left[actor] == 0:
            del left[actor]
    for code in freed:
        if not anys >> code & 1:
            left[code] = left.get(code, 0) + 1
    return left


def counted(counts, anys):
    """The COUNTS but those of which there are any many."""
    return {code: counts[code] for code in counts if not anys >> code & 1}


def grown(counts, more):
    """The bits of the CODEs of which there are more in the second COUNTS."""
    bits = 0
    for code in more:
        if more[code] > counts.get(code, 0):
            bits |= 1 << code
    return bits


def moves_at(coder, lead, leavers, counts):
    """The list of the MOVEs at a LEAD, with these of any many jobs and of the counted ones."""
    found = coder.lead_moves(lead)
    for code in leavers:
        found.extend(coder.loud_moves(lead, code))
    for code in counts:
        found.extend(coder.crew_moves(lead, code))
    return found


class Node:
    """A pair of the COVER beside its LEAD, and the one that it came of.

    A hub is a node at which the shell can begin a SCRIPT; hub is the last one on the way to a node, or the node itself;
    of a hub that was given up it is the one that has its CREWs, too. base is of what a hub was found to have any many,
    and so has all that came of it; more is the base of the next round.
    """

    def __init__(self, lead, anys, counts, before):
        self.lead = lead
        self.anys = anys
        self.counts = counts
        self.before = before
        self.is_needed = True
        self.hub = self if lead in HUB_LEADS else hub_of(before)
        self.base = 0
        self.more = 0
        # The ANYS whose MOVEs were followed; None if those of the LEAD and of the counted jobs have to be, too.
        self.followed = None
        # Whether what comes of the node, or of some node of the hub, is among the CREWs of another hub's node.
        self.is_mixed = False


def hub_of(node):
    """The hub of a node that was not given up."""
    hub = node.hub
    while hub.hub != hub:
        hub = hub.hub
    node.hub = hub
    return hub


def give_up(node, other):
    """Give up a node whose CREWs are among those of another one."""
    node.is_needed = False
    if node.hub == node:
        # What can come back to a hub can come back to one with more jobs, too.
        node.hub = other
        other.more |= node.more
        return
    hub = hub_of(node)
    if hub != hub_of(other):
        hub.is_mixed = True


class CoverTree:
    """The tree of Karp and Miller: its COVER has just the CREWs to which RUNs lead, and those with fewer jobs.

    It grows in rounds. What comes back to a hub can come there any many times, and then it is wherever the hub leads:
    not each of these ways is gone again, but all that came of the hub is widened for the next round.
    """

    def __init__(self, coder):
        self.coder = coder
        self.nodes = {}
        self.wrongs = {}
        self.waiting = []
        self.root = Node(START_LEAD, 0, {}, None)
        self.plant(self.root)
        self.follow_all()
        while self.raise_hubs():
            self.widen_all()
            self.follow_all()

    def note(self, wrong):
        """Keep that a WRONG comes; None of no WRONG."""
        if wrong is not None:
            self.wrongs[wrong] = True

    def follow_all(self):
        """Go on from all nodes that wait for it."""
        while self.waiting:
            node = self.waiting.pop()
            if node.is_needed:
                self.go_on(node)

    def go_on(self, node):
        """Add what comes of a node by one MOVE that was not followed yet."""
        anys, louds, wrongs = self.coder.at_rest(node.lead, node.anys)
        for wrong in wrongs:
            self.note(wrong)
        if node.followed is None:
            moves = moves_at(self.coder, node.lead, louds, node.counts)
        else:
            moves = []
            for code in louds:
                if not node.followed >> code & 1:
                    moves.extend(self.coder.loud_moves(node.lead, code))
        node.followed = node.anys
        for word, actor, wrong, behind, freed in moves:
            self.note(wrong)
            counts = counts_behind(node.anys, node.counts, actor, freed)
            known = self.known_at(behind, node.anys, counts)
            if known is None:
                known = self.add_node(behind, node.anys, counts, node)
            if hub_of(known) != hub_of(node):
                node.is_mixed = True

    def known_at(self, lead, anys, counts):
        """A node among whose CREWs are these; None if there is none."""
        for node in self.nodes.get(lead, []):
            if is_within(anys, counts, node.anys, node.counts):
                return node
        return None

    def add_node(self, lead, anys, counts, before):
        """Add a node, or let a hub that it comes back to have what it has; the node, or the hub."""
        hub = self.root if lead == START_LEAD else hub_of(before)
        if hub.lead == lead and not hub.counts:
            hub.more |= anys | grown({}, counts)
            return hub
        if counts:
            anys |= self.grown_on_the_way(lead, anys, counts, before)
        anys = self.coder.at_rest(lead, anys)[0]
        node = Node(lead, anys, counted(counts, anys), before)
        self.plant(node)
        return node

    def grown_on_the_way(self, lead, anys, counts, before):
        """The bits of the CODEs of which there were fewer on the way: what grew once can grow any many times."""
        bits = 0
        node = before
        while node is not None:
            if node.lead == lead and is_within(node.anys, node.counts, anys | bits, counts):
                bits |= grown(node.counts, counts)
            node = node.before
        return bits

    def plant(self, node):
        """Keep a node, unless its CREWs are known, and let it wait."""
        if self.settle(node):
            self.waiting.append(node)

    def settle(self, node):
        """Whether a node is kept beside those that are known, of which those go whose CREWs are among its own."""
        kept = [node]
        for known in self.nodes.get(node.lead, []):
            if is_within(node.anys, node.counts, known.anys, known.counts):
                give_up(node, known)
                return False
            if is_within(known.anys, known.counts, node.anys, node.counts):
                give_up(known, node)
            else:
                kept.append(known)
        self.nodes[node.lead] = kept
        return True

    def raise_hubs(self):
        """Give the hubs their next base; whether one of them has another one than before."""
        is_raised = False
        for lead in HUB_LEADS:
            for hub in self.nodes.get(lead, []):
                if hub.more != hub.base:
                    hub.base = self.coder.at_rest(lead, hub.anys | hub.more)[0]
                    hub.more = hub.base
                    is_raised = True
        return is_raised

    def widen_all(self):
        """Let all nodes have what their hubs have, and wait for what comes of it."""
        earlier = self.nodes
        self.nodes = {}
        for lead in earlier:
            for node in earlier[lead]:
                is_wider = self.widen(node)
                if self.settle(node) and is_wider:
                    self.waiting.append(node)

    def widen(self, node):
        """Let a node have what START and its hub have any many of; whether it is wider then."""
        before, hub = node.anys, hub_of(node)
        wide = before | self.root.base
        is_by_hub = hub.base & ~wide != 0
        wide |= hub.base
        node.anys = self.coder.at_rest(node.lead, wide)[0]
        node.counts = counted(node.counts, node.anys)
        if node.anys != wide or is_by_hub and (node.is_mixed or hub.is_mixed):
            # Else what comes of it has become wider just so.
            node.followed = None
        return node.anys != before

    def pairs(self):
        """The COVER itself."""
        return {lead: [(node.anys, node.counts) for node in self.nodes[lead]] for lead in self.nodes}
