"""One forest, changed and asked by a list of calls."""

MOST_NODES = 32
MOST_MARKS = 8
LIMIT = 1000000000
# The document tells a root's parent as 99; no node can have that number.
NO_PARENT = 99

CALL_OPEN = 1
CALL_LINK = 2
CALL_CUT = 3
CALL_ROOT = 4
CALL_REROOT = 5
CALL_PUT = 6
CALL_ADD = 7
CALL_PATH = 8
CALL_PLACE = 9
CALL_FIND = 10
CALL_MEET = 11
CALL_BELOW = 12
CALL_MARK = 13
CALL_WAY = 15

# By a call's number: how many numbers stand behind it, and how many of these,
# from the first on, are nodes. Open is handed none: its n is a number.
NUMBER_COUNTS = {1: 1, 2: 2, 3: 1, 4: 1, 5: 1, 6: 2, 7: 3, 8: 2, 9: 3, 10: 3, 11: 2, 12: 1, 13: 0, 14: 1, 15: 2, 16: 0}
NODE_COUNTS = {2: 2, 3: 1, 4: 1, 5: 1, 6: 1, 7: 2, 8: 2, 9: 2, 10: 2, 11: 2, 12: 1, 13: 0, 14: 0, 15: 2, 16: 0}

# add, path, place, find, meet and way: they are refused if their two nodes aren't joined.
JOINED_CALLS = (7, 8, 9, 10, 11, 15)
# link, cut, reroot, put, add, mark and back: the others but open only ask.
CHANGING_CALLS = (2, 3, 5, 6, 7, 13, 14)

NO_FOREST = -10
WRONG_SIZE = -1
NO_SUCH_NODE = -1
HAS_PARENT = -2
HAS_NO_PARENT = -2
NOT_JOINED = -2
PUT_PAST_LIMITS = -2
ALREADY_JOINED = -3
ADD_PAST_LIMITS = -3
NO_SUCH_PLACE = -3
NONE_FOUND = -3
TOO_MANY_MARKS = -5
NO_SUCH_MARK = -6


def within_limits(value):
    return -LIMIT <= value and value <= LIMIT


# A method that is named like a call gives back that call's answer, once the
# refusals that several calls share are settled: its nodes are there, and joined
# if the call is one of JOINED_CALLS.
class Forest:
    def __init__(self):
        # Without nodes there is no forest yet: one that was begun has a node at least.
        self.parent_of = []
        self.value_of = []
        self.marks = []

    def is_there(self):
        return len(self.parent_of) > 0

    def has_node(self, node):
        return node < len(self.parent_of)

    # From a itself up to its root, so that the ways built of it keep their order.
    def nodes_above(self, a):
        nodes = [a]
        while self.parent_of[nodes[-1]] != NO_PARENT:
            nodes.append(self.parent_of[nodes[-1]])
        return nodes

    def nodes_below(self, a):
        return [node for node in range(len(self.parent_of)) if a in self.nodes_above(node)]

    def root_above(self, a):
        return self.nodes_above(a)[-1]

    def are_joined(self, a, b):
        return self.root_above(a) == self.root_above(b)

    # Of joined nodes alone: their root at least is above both, so the list is not empty.
    def meeting_node(self, a, b):
        above_b = self.nodes_above(b)
        above_both = [node for node in self.nodes_above(a) if node in above_b]
        return above_both[0]

    # The way from a to b, of joined nodes alone. It goes up no farther than to where they meet.
    def nodes_between(self, a, b):
        turn = self.meeting_node(a, b)
        rising = self.nodes_above(a)
        falling = self.nodes_above(b)
        behind_turn = falling[:falling.index(turn)]
        return rising[:rising.index(turn) + 1] + list(reversed(behind_turn))

    def values_of(self, nodes):
        return [self.value_of[node] for node in nodes]

    # This is the call open, whose own name is not to be used in the program.
    def begin(self, n):
        if n < 1 or n > MOST_NODES:
            return [WRONG_SIZE]
        self.parent_of = [NO_PARENT] * n
        self.value_of = [0] * n
        self.marks = []
        return [0]

    def link(self, a, b):
        if self.parent_of[a] != NO_PARENT:
            return [HAS_PARENT]
        if self.are_joined(a, b):
            return [ALREADY_JOINED]
        self.parent_of[a] = b
        return [0]

    def cut(self, a):
        if self.parent_of[a] == NO_PARENT:
            return [HAS_NO_PARENT]
        self.parent_of[a] = NO_PARENT
        return [0]

    def root(self, a):
        return [0, self.root_above(a)]

    def reroot(self, a):
        nodes = self.nodes_above(a)
        self.parent_of[a] = NO_PARENT
        for place in range(1, len(nodes)):
            self.parent_of[nodes[place]] = nodes[place - 1]
        return [0]

    def put(self, a, v):
        if not within_limits(v):
            return [PUT_PAST_LIMITS]
        self.value_of[a] = v
        return [0]

    def add(self, a, b, d):
        nodes = self.nodes_between(a, b)
        # All are looked at before the first is changed: add is whole or not at all.
        for node in nodes:
            if not within_limits(self.value_of[node] + d):
                return [ADD_PAST_LIMITS]
        for node in nodes:
            self.value_of[node] = self.value_of[node] + d
        return [0]

    def path(self, a, b):
        nodes = self.nodes_between(a, b)
        on_way = self.values_of(nodes)
        least = min(on_way)
        return [0, len(nodes), sum(on_way), least, nodes[on_way.index(least)]]

    def place(self, a, b, i):
        nodes = self.nodes_between(a, b)
        if i >= len(nodes):
            return [NO_SUCH_PLACE]
        return [0, nodes[i]]

    def find(self, a, b, v):
        for node in self.nodes_between(a, b):
            if self.value_of[node] >= v:
                return [0, node]
        return [NONE_FOUND]

    def meet(self, a, b):
        return [0, self.meeting_node(a, b)]

    def below(self, a):
        nodes = self.nodes_below(a)
        return [0, len(nodes), sum(self.values_of(nodes))]

    def mark(self):
        if len(self.marks) == MOST_MARKS:
            return [TOO_MANY_MARKS]
        # Tuples, so that no later change of the forest can reach what is marked.
        self.marks.append((tuple(self.parent_of), tuple(self.value_of)))
        return [0, len(self.marks) - 1]

    def back(self, i):
        if i >= len(self.marks):
            return [NO_SUCH_MARK]
        marked = self.marks[i]
        self.parent_of = list(marked[0])
        self.value_of = list(marked[1])
        self.marks = self.marks[:i + 1]
        return [0]

    def way(self, a, b):
        return [0] + self.nodes_between(a, b)

    # A root's parent is kept as the number that is told for it.
    def parents(self):
        return [0] + self.parent_of


def answer_change(forest, call, given):
    if call == CALL_LINK:
        return forest.link(given[0], given[1])
    if call == CALL_CUT:
        return forest.cut(given[0])
    if call == CALL_REROOT:
        return forest.reroot(given[0])
    if call == CALL_PUT:
        return forest.put(given[0], given[1])
    if call == CALL_ADD:
        return forest.add(given[0], given[1], given[2])
    if call == CALL_MARK:
        return forest.mark()
    # Only back is left of CHANGING_CALLS.
    return forest.back(given[0])


def answer_question(forest, call, given):
    if call == CALL_ROOT:
        return forest.root(given[0])
    if call == CALL_PATH:
        return forest.path(given[0], given[1])
    if call == CALL_PLACE:
        return forest.place(given[0], given[1], given[2])
    if call == CALL_FIND:
        return forest.find(given[0], given[1], given[2])
    if call == CALL_MEET:
        return forest.meet(given[0], given[1])
    if call == CALL_BELOW:
        return forest.below(given[0])
    if call == CALL_WAY:
        return forest.way(given[0], given[1])
    # Only parents is left: a number that is no call's has no place in NUMBER_COUNTS.
    return forest.parents()


# The refusals that several calls share come first, in the order in which the document names them.
def answer_call(forest, call, given):
    if call == CALL_OPEN:
        return forest.begin(given[0])
    if not forest.is_there():
        return [NO_FOREST]
    for node in given[:NODE_COUNTS[call]]:
        if not forest.has_node(node):
            return [NO_SUCH_NODE]
    if call in JOINED_CALLS and not forest.are_joined(given[0], given[1]):
        return [NOT_JOINED]
    if call in CHANGING_CALLS:
        return answer_change(forest, call, given)
    return answer_question(forest, call, given)


# Calls may not be changed, not for a while either: it is only read, by copies of its parts.
def answers(calls):
    forest = Forest()
    told = []
    place = 0
    while place < len(calls):
        call = calls[place]
        behind = place + 1 + NUMBER_COUNTS[call]
        answer = answer_call(forest, call, calls[place + 1:behind])
        told.append(len(answer))
        told.extend(answer)
        place = behind
    return told
