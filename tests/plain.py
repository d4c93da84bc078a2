"""The points of DOC.md once more, slowly and as plainly as they are told, to measure by."""

from escrowbook import errors

SMALL_LETTERS = "abcdefghijklmnopqrstuvwxyz"


def plain_greatest(full, needs, done):
    """Leave out what has a need outside, until none has."""
    group = list(full)
    while True:
        kept = [name for name in group if all(need in group or need in done for need in needs[name])]
        if kept == group:
            return group
        group = kept


def plain_chain(name, full, needs, done):
    """All lists that point 14 allows but for their end, shorter ones first, in its order."""
    if name in done or name in plain_greatest(full, needs, done):
        return []
    ways = [[name]]
    while True:
        for way in ways:
            if way[-1] not in full and way[-1] not in done:
                return way
        # A shortest list goes nowhere twice, and never by a name that is done.
        ways = [way + [need] for way in ways for need in needs[way[-1]]
                if need not in way and need not in done]


def is_name(thing):
    return type(thing) is str and 1 <= len(thing) <= 12 and all(sign in SMALL_LETTERS for sign in thing)


def is_amount(thing):
    return type(thing) is int and 1 <= thing <= 10 ** 30


def want(holds, kind):
    if not holds:
        raise kind("refused")


class PlainPact:
    def __init__(self, parts, gains, needs, last):
        self.parts, self.gains, self.needs, self.last = parts, gains, needs, last
        self.state = "open"
        self.inside = []


class PlainBook:
    def __init__(self):
        self.day = 0
        self.free = {}
        self.pacts = {}
        self.put_less_taken = 0

    def has_purse(self, thing):
        return is_name(thing) and thing in self.free

    def has_pact(self, thing):
        return is_name(thing) and thing in self.pacts

    def open_purse(self, name):
        want(is_name(name), errors.NoName)
        want(not self.has_purse(name), errors.Taken)
        self.free[name] = 0

    def put(self, purse, amount):
        want(self.has_purse(purse), errors.NoPurse)
        want(is_amount(amount), errors.NoAmount)
        self.free[purse] += amount
        self.put_less_taken += amount

    def take(self, purse, amount):
        want(self.has_purse(purse), errors.NoPurse)
        want(is_amount(amount), errors.NoAmount)
        want(self.free[purse] >= amount, errors.TooLittle)
        self.free[purse] -= amount
        self.put_less_taken -= amount

    def check_rows(self, rows):
        want(0 < len(rows) <= 8, errors.NoRow)
        for at, (purse, amount) in enumerate(rows):
            want(self.has_purse(purse), errors.NoPurse)
            want(purse not in [ahead for ahead, _ in rows[:at]], errors.Twice)
            want(is_amount(amount), errors.NoAmount)

    def tell(self, name, parts, gains, needs, last):
        want(is_name(name), errors.NoName)
        want(not self.has_pact(name), errors.Taken)
        self.check_rows(parts)
        self.check_rows(gains)
        want(sum(row[1] for row in parts) == sum(row[1] for row in gains), errors.Uneven)
        want(len(needs) <= 8, errors.NoRow)
        for at, need in enumerate(needs):
            want(is_name(need), errors.NoName)
            want(need not in needs[:at] and need != name, errors.Twice)
            want(not self.has_pact(need) or self.state_of(need) != "fallen", errors.Fallen)
        want(type(last) is int and last >= self.day, errors.NoDay)
        self.pacts[name] = PlainPact([tuple(row) for row in parts], [tuple(row) for row in gains],
                                     list(needs), last)

    def set_aside(self, purse, pact):
        want(self.has_purse(purse), errors.NoPurse)
        want(self.has_pact(pact), errors.NoPact)
        found = self.pacts[pact]
        want(found.state == "open", errors.NotOpen)
        want(purse in dict(found.parts), errors.NoPart)
        want(purse not in found.inside, errors.Already)
        want(self.free[purse] >= dict(found.parts)[purse], errors.TooLittle)
        self.free[purse] -= dict(found.parts)[purse]
        found.inside.append(purse)

    def draw_back(self, purse, pact):
        want(self.has_purse(purse), errors.NoPurse)
        want(self.has_pact(pact), errors.NoPact)
        found = self.pacts[pact]
        want(found.state == "open", errors.NotOpen)
        want(purse in found.inside, errors.NotAside)
        self.free[purse] += dict(found.parts)[purse]
        found.inside.remove(purse)

    def let_fall(self, name):
        pact = self.pacts[name]
        for purse in pact.inside:
            self.free[purse] += dict(pact.parts)[purse]
        pact.state = "fallen"

    def open_names(self):
        return [name for name in self.pacts if self.state_of(name) == "open"]

    def fall_in_turn(self, fallen):
        """The names of `fallen`, then of what falls of it, each time the first told."""
        for name in fallen:
            self.let_fall(name)
        while True:
            waiting = [name for name in self.open_names() if any(
                self.has_pact(need) and self.state_of(need) == "fallen"
                for need in self.pacts[name].needs)]
            if not waiting:
                return fallen
            self.let_fall(waiting[0])
            fallen = fallen + [waiting[0]]

    def call_off(self, pact):
        want(self.has_pact(pact), errors.NoPact)
        want(self.state_of(pact) == "open", errors.NotOpen)
        return self.fall_in_turn([pact])

    def pass_days(self, count):
        want(type(count) is int and count >= 1, errors.NoDay)
        self.day += count
        return self.fall_in_turn(
            [name for name in self.open_names() if self.pacts[name].last < self.day])

    def standing(self):
        full = [name for name in self.pacts if self.full(name)]
        return (full, {name: self.pacts[name].needs for name in full},
                [name for name in self.pacts if self.state_of(name) == "done"])

    def settle(self):
        names = plain_greatest(*self.standing())
        for name in names:
            for purse, amount in self.pacts[name].gains:
                self.free[purse] += amount
            self.pacts[name].state = "done"
        return names

    def why_not(self, pact):
        want(self.has_pact(pact), errors.NoPact)
        return plain_chain(pact, *self.standing())

    def purses(self):
        return list(self.free)

    def told(self):
        return list(self.pacts)

    def free_of(self, purse):
        want(self.has_purse(purse), errors.NoPurse)
        return self.free[purse]

    def aside_of(self, purse):
        want(self.has_purse(purse), errors.NoPurse)
        return sum(dict(self.pacts[name].parts)[purse] for name in self.open_names()
                   if purse in self.pacts[name].inside)

    def state_of(self, pact):
        want(self.has_pact(pact), errors.NoPact)
        return self.pacts[pact].state

    def inside_of(self, pact):
        if self.state_of(pact) != "open":
            return []
        return [purse for purse, _ in self.pacts[pact].parts if purse in self.pacts[pact].inside]

    def full(self, pact):
        return self.state_of(pact) == "open" and len(self.inside_of(pact)) == len(self.pacts[pact].parts)
