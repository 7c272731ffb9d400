"""Looking for trees that keep rules.

A rule is a pair of terms that are not to be the same, whatever trees stand for those unknowns in it that
lie in no wanted term: what the rule asks of the unknowns in wanted terms must not come about. Where it asks
that two of them or of their parts are the same, or that one is a sign without parts, an endless world
has enough trees to keep it whatever the other rules ask: such a rule is loose, and stays so, or can't be
broken any more, when signs with parts are given to unknowns. Other rules are tight. They ask just for signs
with parts, or for further leaves, at some places, and together they may leave few trees or none. So the
search gives signs to the unknowns of tight rules until there is none. In a world that is not endless
all rules are tight.
"""

from butthese.diagrams import ALL, NONE


class Asking:
    """What a rule asks of the unknowns in wanted terms, as it comes about where its terms are tied."""

    def __init__(self, terms, names, pair, tied):
        self.pair = pair
        self._tied = tied
        self._names = names
        self._tops = [tied.top(unknown) for unknown in names]
        # The unknowns of which anything is asked; where there are none, the rule is broken.
        self.unknowns = []
        met = {}
        for unknown, top in zip(names, self._tops):
            if top in met or tied.head(top) != terms.head(unknown):
                self.unknowns.append(unknown)
            met[top] = True

    def is_loose(self):
        """Whether it is asked that two trees are the same, or that one is a sign without parts."""
        seen = {}
        waiting = list(self._tops)
        while waiting:
            number = self._tied.top(waiting.pop())
            parts = self._tied.parts(number)
            if number in seen or not (parts or self._tied.is_unknown(number)):
                return True
            seen[number] = True
            waiting.extend(parts)
        return False

    def words(self):
        """Words that are the same where the same is asked of unknowns with the same names."""
        known = {}
        for unknown, top in zip(self._names, self._tops):
            known.setdefault(top, self._names[unknown])
        words = []
        own = {}
        for unknown in self.unknowns:
            name = self._names[unknown]
            top = self._tied.top(unknown)
            words.append(name + "=")
            if known[top] == name:
                words.append(self._tied.head(top))
                words.extend(self._words_for(self._tied.parts(top), known, own))
            else:
                words.append(known[top])
        return " ".join(words)

    def _words_for(self, numbers, known, own):
        """The words for terms; own is a dict of the names of those that are met, to which new ones are added."""
        words = []
        waiting = numbers[::-1]
        while waiting:
            number = waiting.pop()
            if number in known:
                words.append(known[number])
            elif number in own:
                words.append(own[number])
            else:
                own[number] = "#" + str(len(own))
                words.append(self._tied.head(number) or "?")
                waiting.extend(self._tied.parts(number)[::-1])
        return words


class Search:
    """A search for the trees of wanted terms; the first one's is in a set of a diagram."""

    def __init__(self, world, wanted, diagram):
        self._wanted = wanted
        self._diagram = diagram
        self._more = world.more
        self._endless = world.endless
        # What leaves most trees to choose from stands last, and is tried first.
        self._heads = sorted(world.signs, key=lambda sign: sign[1])
        if self._more:
            self._heads.append(("*", 0))

    def found(self, terms, rules, number):
        """Trees for the wanted terms, the first one's in a set, that keep all rules, or None."""
        seen = {}
        has_doubles = terms.has_doubles(self._wanted[:1])
        waiting = [(terms, rules, number)]
        while waiting:
            terms, rules, number = waiting.pop()
            number = self._followed(terms, number)
            asking = self._asking(terms, rules)
            if number == NONE or [] in [rule.unknowns for rule in asking]:
                continue
            unknown = self._to_split(terms, number, asking)
            if unknown is None:
                return self._trees(terms, [rule.pair for rule in asking])
            # The same set and the same words leave the same trees, and are not looked into twice: except where
            # the set asks for places that are the same as others, of which more may be known than the words say.
            key = (number, *[rule.words() for rule in asking])
            if key not in seen or (has_doubles and number != ALL):
                seen[key] = True
                rules = [rule.pair for rule in asking]
                waiting.extend([(terms.with_head(unknown, *sign), rules, number) for sign in self._choices(number)])
        return None

    def _followed(self, terms, number):
        """The set that is left to the first wanted term behind all that is known of it."""
        while number > ALL:
            head = terms.head(terms.at(self._wanted[0], self._diagram.place_asked(number)))
            if head is None:
                break
            number = self._diagram.way(number, head)
        return number

    def _asking(self, terms, rules):
        """What the rules ask, without those that can't be broken."""
        names = terms.names(self._wanted)
        tied = [(pair, terms.tied(*pair)) for pair in rules]
        return [Asking(terms, names, pair, told) for pair, told in tied if told is not None]

    def _to_split(self, terms, number, asking):
        """An unknown that must be given signs, or None."""
        if number != ALL:
            return terms.at(self._wanted[0], self._diagram.place_asked(number))
        tight = [rule.unknowns for rule in asking if not (self._endless and rule.is_loose())]
        return min(tight, key=len)[0] if tight else None

    def _choices(self, number):
        """The heads to be given to the unknown that a set asks for, with their numbers of parts, the best one last."""
        if number == ALL:
            return self._heads
        ways = {head: self._diagram.way(number, head) for head, _ in self._heads}
        narrow = [sign for sign in self._heads if ways[sign[0]] > ALL]
        return narrow + [sign for sign in self._heads if ways[sign[0]] == ALL]

    def _trees(self, terms, rules):
        """Trees for the wanted terms that keep some rules, all of them loose."""
        if self._endless and not self._more:
            terms = self._settled(terms, rules)
        leaf = (self._heads[0][0],)
        unknowns = terms.names(self._wanted)
        values = {unknown: ("*", at) if self._more else leaf for at, unknown in enumerate(unknowns)}
        return terms.trees(self._wanted, values)

    def _settled(self, terms, rules):
        """What comes of it if trees stand for all unknowns, so that the rules are kept."""
        pairs = []
        for rule in rules:
            terms, pair = self._opened(terms, rule)
            if pair is not None:
                pairs.append(pair)
        chain = [terms.added(self._heads[0][0], [])]
        for unknown in terms.names(self._wanted):
            terms = self._with_tree(terms, unknown, pairs, chain)
        return terms

    def _opened(self, terms, rule):
        """Terms with enough signs given to unknowns, and a pair of them that is the same if the rule is broken.

        No unknown lies in the pair that does not lie in wanted terms. It is None if the rule can't be broken.
        """
        while True:
            tied = terms.tied(*rule)
            if tied is None:
                return terms, None
            pair = self._pair_tied(terms, tied)
            if pair is not None:
                return terms, pair
            unknown = [one for one in terms.names(self._wanted) if tied.head(one) is not None][0]
            terms = terms.with_head(unknown, tied.head(unknown), len(tied.parts(unknown)))

    def _pair_tied(self, terms, tied):
        """Two terms in wanted terms, or one in them and a sign without parts, that are the same by a tie; or None."""
        known = {}
        for number in terms.reached(self._wanted):
            top = tied.top(number)
            if top in known and not terms.are_same(number, known[top]):
                return number, known[top]
            if terms.is_unknown(number) and not tied.is_unknown(top) and not tied.parts(top):
                return number, top
            known[top] = number
        return None

    def _with_tree(self, terms, unknown, pairs, chain):
        """What comes of it if the first tree of a chain that makes no pair the same stands for an unknown.

        Each pair bars one tree at most. The chain grows where it is too short.
        """
        sign, many = self._heads[-1]
        at = 0
        while True:
            told = terms.tied(unknown, chain[at])
            if not any([told.are_same(one, other) for one, other in pairs]):
                return told
            at += 1
            if at == len(chain):
                chain.append(terms.added(sign, [chain[-1], *[chain[0] for _ in range(many - 1)]]))
