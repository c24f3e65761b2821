"""COVERs: which CREWs there may be beside each LEAD, so that no RUN comes out of them, and which WRONGS may come there.

A COVER is a dict: for each LEAD a list of pairs (ANYS, COUNTS). The bits of ANYS are the CODEs of which there are any
many, COUNTS is a dict of how many there are of other CODEs.
"""

from frontjobs.coding import START_LEAD


def is_within(anys, counts, other_anys, other_counts):
    """Whether each CREW of the first pair is one of the other pair, too."""
    if anys & ~other_anys:
        return False
    for code in counts:
        if not other_anys >> code & 1 and counts[code] > other_counts.get(code, 0):
            return False
    return True


def counts_behind(anys, counts, actor, freed):
    """The COUNTS behind a MOVE; of any many there are any many behind it."""
    left = {code: counts[code] for code in counts}
    if actor in left:
        left[actor] -= 1
        if left[actor] == 0:
            del left[actor]
    for code in freed:
        if not anys >> code & 1:
            left[code] = left.get(code, 0) + 1
    return left


def moves_at(coder, lead, leavers, counts):
    """The list of the MOVEs at a LEAD, with these of any many jobs and of the counted ones."""
    found = coder.lead_moves(lead)
    for code in leavers:
        found.extend(coder.loud_moves(lead, code))
    for code in counts:
        found.extend(coder.crew_moves(lead, code))
    return found


class Node:
    """A pair of the COVER beside its LEAD, and the one that it came of."""

    def __init__(self, lead, anys, counts, before):
        self.lead = lead
        self.anys = anys
        self.counts = counts
        self.before = before
        self.is_needed = True


class CoverTree:
    """The tree of Karp and Miller: its COVER has just the CREWs to which RUNs lead, and those with fewer jobs."""

    def __init__(self, coder):
        self.coder = coder
        self.nodes = {}
        self.wrongs = {}
        self.waiting = []
        self.add_node(START_LEAD, 0, {}, None)
        while self.waiting:
            node = self.waiting.pop()
            if node.is_needed:
                self.go_on(node)

    def note(self, wrong):
        """Keep that a WRONG comes; None of no WRONG."""
        if wrong is not None:
            self.wrongs[wrong] = True

    def go_on(self, node):
        """Add what comes of a node by one MOVE."""
        anys, leavers, wrongs = self.coder.at_rest(node.lead, node.anys)
        for wrong in wrongs:
            self.note(wrong)
        for word, actor, wrong, behind, freed in moves_at(self.coder, node.lead, leavers, node.counts):
            self.note(wrong)
            counts = counts_behind(node.anys, node.counts, actor, freed)
            self.add_node(behind, node.anys, counts, node)

    def grow(self, lead, anys, counts, before):
        """The ANYS, with the CODEs of which there were fewer on the way: what grew once can grow any many times."""
        node = before
        while node is not None:
            if node.lead == lead and is_within(node.anys, node.counts, anys, counts):
                for code in counts:
                    if counts[code] > node.counts.get(code, 0):
                        anys |= 1 << code
            node = node.before
        return anys

    def add_node(self, lead, anys, counts, before):
        """Add a node unless its CREWs are known, and give up those whose CREWs are among its own."""
        if counts:
            anys = self.grow(lead, anys, counts, before)
        anys = self.coder.at_rest(lead, anys)[0]
        counts = {code: counts[code] for code in counts if not anys >> code & 1}
        known = self.nodes.get(lead, [])
        for node in known:
            if is_within(anys, counts, node.anys, node.counts):
                return
        kept = [Node(lead, anys, counts, before)]
        self.waiting.append(kept[0])
        for node in known:
            if is_within(node.anys, node.counts, anys, counts):
                node.is_needed = False
            else:
                kept.append(node)
        self.nodes[lead] = kept

    def pairs(self):
        """The COVER itself."""
        return {lead: [(node.anys, node.counts) for node in self.nodes[lead]] for lead in self.nodes}
