"""Terms of signs and unknowns, and which of them are to be the same tree."""

from butthese.worlds import built


class Terms:
    """Terms, each a number, and which of them are to be the same.

    The head of a term is its sign, "*" if it is some further leaf, or None if it is some tree: the last
    two are unknowns. All terms that are to be the same have one top, which is not an unknown tree if any
    of them is not. What comes of an object by telling that more terms are the same has the same terms,
    but leaves the object as it was: so a search can go back to it.
    """

    def __init__(self):
        self._heads = []
        self._parts = []
        self._above = {}

    def added(self, head, parts):
        """A new term."""
        self._heads.append(head)
        self._parts.append(parts)
        return len(self._heads) - 1

    def term_of(self, form, letters):
        """The term of a form; letters is a dict from letters to their terms, to which new ones are added."""
        return built(form, lambda name: self._unknown_of(name, letters), self.added)

    def _unknown_of(self, name, letters):
        if name == "_":
            return self.added(None, [])
        if name not in letters:
            letters[name] = self.added(None, [])
        return letters[name]

    def top(self, number):
        """The term that stands for all those that are the same as one."""
        while number in self._above:
            number = self._above[number]
        return number

    def head(self, number):
        """The sign of a term, "*" for a further leaf, None for an unknown tree."""
        return self._heads[self.top(number)]

    def parts(self, number):
        """The tops of the parts of a term."""
        return [self.top(part) for part in self._parts[self.top(number)]]

    def is_unknown(self, number):
        """Whether a term is some tree or some further leaf."""
        return self.head(number) is None or self.head(number) == "*"

    def tied(self, first, second):
        """What comes of it if two terms are the same, or None if they can't be."""
        told = self._again()
        if told._tie(first, second) and told._is_finite(first):
            return told
        return None

    def with_head(self, unknown, head, many):
        """What comes of it if a sign with so many unknown parts, or "*", stands for an unknown tree."""
        told = self._again()
        told._above[self.top(unknown)] = self.added(head, [self.added(None, []) for _ in range(many)])
        return told

    def _again(self):
        told = Terms()
        told._heads = self._heads
        told._parts = self._parts
        told._above = {number: self._above[number] for number in self._above}
        return told

    def _tie(self, first, second):
        """Make two terms the same, and so their parts; whether their signs let them be."""
        waiting = [(first, second)]
        while waiting:
            one, other = waiting.pop()
            one = self.top(one)
            other = self.top(other)
            if one == other:
                continue
            if self._heads[one] is None:
                self._above[one] = other
            elif self._heads[other] is None:
                self._above[other] = one
            elif self._heads[one] != self._heads[other]:
                return False
            else:
                self._above[one] = other
                waiting.extend(list(zip(self._parts[one], self._parts[other])))
        return True

    def _is_finite(self, number):
        """Whether no term that is reached from one lies in itself."""
        done = {}
        waiting = [self.top(number)]
        while waiting:
            number = waiting[-1]
            if number in done:
                done[number] = True
                waiting.pop()
                continue
            done[number] = False
            for part in self.parts(number):
                if part not in done:
                    waiting.append(part)
                elif not done[part]:
                    return False
        return True

    def reached(self, numbers):
        """The tops of terms and of all that lies in them, each once."""
        found = {}
        waiting = list(numbers)
        while waiting:
            number = self.top(waiting.pop())
            if number not in found:
                found[number] = True
                waiting.extend(self._parts[number])
        return list(found)

    def has_doubles(self, numbers):
        """Whether a term lies in terms twice."""
        seen = {}
        waiting = list(numbers)
        while waiting:
            number = self.top(waiting.pop())
            if number in seen:
                return True
            seen[number] = True
            waiting.extend(self._parts[number])
        return False

    def names(self, numbers):
        """A dict from the tops of the unknowns that lie in terms to names: in which term, where in it, and the head."""
        names = {}
        seen = {}
        waiting = [(numbers[at], str(at) + ":") for at in reversed(range(len(numbers)))]
        while waiting:
            number, place = waiting.pop()
            number = self.top(number)
            if number not in seen:
                seen[number] = True
                parts = self._parts[number]
                waiting.extend([(parts[at], place + str(at)) for at in reversed(range(len(parts)))])
                if self.is_unknown(number):
                    names[number] = place + (self._heads[number] or "")
        return names

    def at(self, number, place):
        """The top of what stands at a place in a term."""
        for digit in place:
            number = self._parts[self.top(number)][int(digit)]
        return self.top(number)

    def are_same(self, first, second):
        """Whether two terms are the same tree whatever stands for the unknowns."""
        seen = {}
        waiting = [(first, second)]
        while waiting:
            one, other = waiting.pop()
            pair = (self.top(one), self.top(other))
            if pair[0] == pair[1] or pair in seen:
                continue
            if self.is_unknown(one) or self.head(one) != self.head(other):
                return False
            seen[pair] = True
            waiting.extend(list(zip(self.parts(one), self.parts(other))))
        return True

    def trees(self, numbers, values):
        """The trees of terms; values is a dict from the tops of their unknowns to trees."""
        made = {unknown: values[unknown] for unknown in values}
        waiting = [self.top(number) for number in numbers]
        while waiting:
            number = waiting[-1]
            lacking = [] if number in made else [part for part in self.parts(number) if part not in made]
            if lacking:
                waiting.extend(lacking)
                continue
            if number not in made:
                made[number] = (self.head(number), *[made[part] for part in self.parts(number)])
            waiting.pop()
        return [made[self.top(number)] for number in numbers]
