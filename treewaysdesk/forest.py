"""One forest, changed and asked by a list of calls."""

MOST_NODES = 32
LIMIT = 1000000000
# The document tells a root's parent as 99; no node can have that number.
NO_PARENT = 99

CALL_OPEN = 1
CALL_LINK = 2
CALL_CUT = 3
CALL_ROOT = 4
CALL_REROOT = 5
CALL_PUT = 6
CALL_ADD = 7

# By a call's number: how many numbers stand behind it, and how many of these,
# from the first on, are nodes. Open is handed none: its n is a number.
NUMBER_COUNTS = {1: 1, 2: 2, 3: 1, 4: 1, 5: 1, 6: 2, 7: 3, 8: 2}
NODE_COUNTS = {2: 2, 3: 1, 4: 1, 5: 1, 6: 1, 7: 2, 8: 2}

NO_FOREST = -10
WRONG_SIZE = -1
NO_SUCH_NODE = -1
HAS_PARENT = -2
HAS_NO_PARENT = -2
NOT_JOINED = -2
PUT_PAST_LIMITS = -2
ALREADY_JOINED = -3
ADD_PAST_LIMITS = -3


def within_limits(value):
    return -LIMIT <= value and value <= LIMIT


# A method that is named like a call gives back that call's whole answer.
class Forest:
    def __init__(self):
        # Without nodes there is no forest yet: one that was begun has a node at least.
        self.parent_of = []
        self.value_of = []

    def is_there(self):
        return len(self.parent_of) > 0

    def has_node(self, node):
        return node < len(self.parent_of)

    # From a itself up to its root, so that the ways built of it keep their order.
    def nodes_above(self, a):
        nodes = [a]
        while self.parent_of[nodes[-1]] != NO_PARENT:
            nodes.append(self.parent_of[nodes[-1]])
        return nodes

    def root_above(self, a):
        return self.nodes_above(a)[-1]

    # The way from a to b. An empty list tells that they are not joined: every way has a in it.
    def nodes_between(self, a, b):
        rising = self.nodes_above(a)
        falling = self.nodes_above(b)
        for place, node in enumerate(rising):
            # The first node above a that is above b too is where the way turns.
            if node in falling:
                behind = falling[:falling.index(node)]
                return rising[:place + 1] + list(reversed(behind))
        return []

    # This is the call open, whose own name is not to be used in the program.
    def begin(self, n):
        if n < 1 or n > MOST_NODES:
            return [WRONG_SIZE]
        self.parent_of = [NO_PARENT] * n
        self.value_of = [0] * n
        return [0]

    def link(self, a, b):
        if self.parent_of[a] != NO_PARENT:
            return [HAS_PARENT]
        if self.root_above(a) == self.root_above(b):
            return [ALREADY_JOINED]
        self.parent_of[a] = b
        return [0]

    def cut(self, a):
        if self.parent_of[a] == NO_PARENT:
            return [HAS_NO_PARENT]
        self.parent_of[a] = NO_PARENT
        return [0]

    def root(self, a):
        return [0, self.root_above(a)]

    def reroot(self, a):
        nodes = self.nodes_above(a)
        self.parent_of[a] = NO_PARENT
        for place in range(1, len(nodes)):
            self.parent_of[nodes[place]] = nodes[place - 1]
        return [0]

    def put(self, a, v):
        if not within_limits(v):
            return [PUT_PAST_LIMITS]
        self.value_of[a] = v
        return [0]

    def add(self, a, b, d):
        nodes = self.nodes_between(a, b)
        if len(nodes) == 0:
            return [NOT_JOINED]
        # All are looked at before the first is changed: add is whole or not at all.
        for node in nodes:
            if not within_limits(self.value_of[node] + d):
                return [ADD_PAST_LIMITS]
        for node in nodes:
            self.value_of[node] = self.value_of[node] + d
        return [0]

    def path(self, a, b):
        nodes = self.nodes_between(a, b)
        if len(nodes) == 0:
            return [NOT_JOINED]
        on_way = [self.value_of[node] for node in nodes]
        least = min(on_way)
        return [0, len(nodes), sum(on_way), least, nodes[on_way.index(least)]]


# The refusals that all calls share are settled before: forest and nodes are there.
def answer_on_forest(forest, call, given):
    if call == CALL_LINK:
        return forest.link(given[0], given[1])
    if call == CALL_CUT:
        return forest.cut(given[0])
    if call == CALL_ROOT:
        return forest.root(given[0])
    if call == CALL_REROOT:
        return forest.reroot(given[0])
    if call == CALL_PUT:
        return forest.put(given[0], given[1])
    if call == CALL_ADD:
        return forest.add(given[0], given[1], given[2])
    # Only path is left: a number that is no call's has no place in NUMBER_COUNTS.
    return forest.path(given[0], given[1])


def answer_call(forest, call, given):
    if call == CALL_OPEN:
        return forest.begin(given[0])
    if not forest.is_there():
        return [NO_FOREST]
    for node in given[:NODE_COUNTS[call]]:
        if not forest.has_node(node):
            return [NO_SUCH_NODE]
    return answer_on_forest(forest, call, given)


# Calls may not be changed, not for a while either: it is only read, by copies of its parts.
def answers(calls):
    forest = Forest()
    told = []
    place = 0
    while place < len(calls):
        call = calls[place]
        behind = place + 1 + NUMBER_COUNTS[call]
        answer = answer_call(forest, call, calls[place + 1:behind])
        told.append(len(answer))
        told.extend(answer)
        place = behind
    return told
