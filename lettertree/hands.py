"""One hand of a web: how it stands, and how it answers the letters that come to it."""

OPEN = "open"
TREE = "tree"
OUT = "out"


class Hand:
    """A hand that knows its own roads alone, and of all others only what letters tell it."""

    def __init__(self, costs):
        self._costs = {neighbour: costs[neighbour] for neighbour in sorted(costs)}
        self._marks = {neighbour: OPEN for neighbour in self._costs}
        self._awake = False
        self._over = False
        self._level = 0
        self._name = None
        self._seeks = False
        self._inward = None
        self._asked = None
        self._due = 0
        self._way_out = None
        self._aside = []
        self._posted = []

    def knows(self):
        """How the hand stands, as a net tells it."""
        return self._awake, self._level, self._name, self._marked(TREE), self._marked(OUT), self._over

    def wake(self):
        """Wake, if asleep; what is sent then: a list of (neighbour, letter)."""
        if not self._awake:
            self._awake = True
            if self._costs:
                self._join(self._cheapest_open())
            else:
                self._over = True
        return self._take_posted()

    def hear(self, neighbour, letter):
        """Let a letter come; what is sent then: a list of (neighbour, letter)."""
        sent = self.wake()
        self._aside.append((neighbour, letter))
        at = self._first_ready()
        while at is not None:
            sender, ready = self._aside.pop(at)
            self._answer(sender, ready)
            at = self._first_ready()
        return sent + self._take_posted()

    def _first_ready(self):
        """Where among the letters that lie aside the first one is that can be answered, None without one."""
        for at, (neighbour, letter) in enumerate(self._aside):
            if self._is_ready(neighbour, letter):
                return at
        return None

    def _is_ready(self, neighbour, letter):
        word = letter[0]
        if word == "joins":
            return letter[1] < self._level or self._marks[neighbour] == TREE
        if word == "asks":
            return letter[1] <= self._level
        if word == "least":
            return neighbour != self._inward or not self._seeks
        return True

    def _answer(self, neighbour, letter):
        match letter:
            case ("joins", level):
                self._answer_joins(neighbour, level)
            case ("is", level, name, state):
                self._answer_is(neighbour, level, name, state)
            case ("asks", _, name):
                self._answer_asks(neighbour, name)
            case ("yes",):
                self._asked = None
                self._keep_way_out(self._costs[neighbour], neighbour)
                self._report()
            case ("no",):
                self._rule_out(neighbour)
                self._ask()
            case ("least", cost):
                self._answer_least(neighbour, cost)
            case ("goes",):
                self._go()
            case ("over",):
                self._end(neighbour)

    def _answer_joins(self, neighbour, level):
        if level < self._level:
            self._marks[neighbour] = TREE
            state = "finds" if self._seeks else "found"
            self._post(neighbour, ("is", self._level, self._name, state))
            if self._seeks:
                self._due += 1
        else:
            self._post(neighbour, ("is", self._level + 1, self._costs[neighbour], "finds"))

    def _answer_is(self, neighbour, level, name, state):
        self._level = level
        self._name = name
        self._seeks = state == "finds"
        self._inward = neighbour
        self._way_out = None
        beyond = self._tree_beyond(neighbour)
        for other in beyond:
            self._post(other, ("is", level, name, state))
        if self._seeks:
            self._due += len(beyond)
            self._ask()

    def _answer_asks(self, neighbour, name):
        if name != self._name:
            self._post(neighbour, ("yes",))
            return
        self._rule_out(neighbour)
        if self._asked == neighbour:
            self._ask()
        else:
            self._post(neighbour, ("no",))

    def _answer_least(self, neighbour, cost):
        if neighbour != self._inward:
            self._due -= 1
            if cost is not None:
                self._keep_way_out(cost, neighbour)
            self._report()
        elif self._way_out is None:
            if cost is None:
                self._end(neighbour)
        elif cost is None or self._way_out[0] < cost:
            self._go()

    def _ask(self):
        """Ask over the cheapest open road; without one there is nobody to ask."""
        self._asked = self._cheapest_open()
        if self._asked is None:
            self._report()
        else:
            self._post(self._asked, ("asks", self._level, self._name))

    def _report(self):
        """Tell inward the cheapest way out, once nothing is awaited any more."""
        if self._due == 0 and self._asked is None:
            self._seeks = False
            cost = None if self._way_out is None else self._way_out[0]
            self._post(self._inward, ("least", cost))

    def _keep_way_out(self, cost, neighbour):
        if self._way_out is None or cost < self._way_out[0]:
            self._way_out = (cost, neighbour)

    def _go(self):
        """Follow the way out: inside the piece by goes, over its open road by joining."""
        _, neighbour = self._way_out
        if self._marks[neighbour] == TREE:
            self._post(neighbour, ("goes",))
        else:
            self._join(neighbour)

    def _join(self, neighbour):
        self._marks[neighbour] = TREE
        self._post(neighbour, ("joins", self._level))

    def _end(self, neighbour):
        """All is over, as a letter from this neighbour told."""
        self._over = True
        for other in self._tree_beyond(neighbour):
            self._post(other, ("over",))

    def _rule_out(self, neighbour):
        if self._marks[neighbour] == OPEN:
            self._marks[neighbour] = OUT

    def _cheapest_open(self):
        """The neighbour over the cheapest open road, None without one."""
        return min(self._marked(OPEN), key=lambda neighbour: self._costs[neighbour], default=None)

    def _tree_beyond(self, neighbour):
        """The neighbours over roads marked tree, but this one."""
        return [other for other in self._marked(TREE) if other != neighbour]

    def _marked(self, mark):
        """The neighbours over roads that are marked so, rising."""
        return [neighbour for neighbour in self._marks if self._marks[neighbour] == mark]

    def _post(self, neighbour, letter):
        self._posted.append((neighbour, letter))

    def _take_posted(self):
        posted = self._posted
        self._posted = []
        return posted
