"""One cell as it stands: its numbers, its lamp, and every call of a person into it so far."""

from lampcell.goals import fewest_visits, greatest_coming, least_sure

COUNTER = 1


class Cell:
    """A cell with its people, numbered from 1 on; each visit is one call of a person."""

    def __init__(self):
        self.begin(3, 1, 2, 1, 0)

    def begin(self, people, times, goal, known, lamp):
        """Start anew with these numbers: nobody has been called."""
        self.people = people
        self.times = times
        self.goal = goal
        self.known = known
        self.lamp = lamp
        self.visits = []
        # There is no person 0, so that place stays unused.
        self.turns = [0] * (people + 1)

    def has_person(self, person):
        return person >= 1 and person <= self.people

    def counted(self):
        # The counter never turns the lamp but to count it.
        return self.turns[COUNTER]

    def said(self):
        return self.counted() == self.goal

    def would_turn(self, person):
        """Whether this person, if called now, turns the lamp."""
        if person == COUNTER:
            return self.lamp == 1
        return self.lamp == 0 and self.turns[person] < self.times

    def visit(self, person):
        """Call this person in; what they do is kept, so that it can be undone."""
        turning = self.would_turn(person)
        if turning:
            self.lamp = 1 - self.lamp
            self.turns[person] += 1
        self.visits.append((person, turning))

    def undo(self):
        """Take back the last visit; answer whose it was."""
        last = self.visits.pop()
        person = last[0]
        if last[1]:
            self.lamp = 1 - self.lamp
            self.turns[person] -= 1
        return person

    def go_round(self, rounds):
        """Call all in, from 1 on, so many times, till it's said; answer how many visits that made."""
        before = len(self.visits)
        for step in range(rounds * self.people):
            if self.said():
                break
            self.visit(step % self.people + 1)
        return len(self.visits) - before

    def been(self):
        """Who has been called, rising, each once."""
        return sorted(set([visit[0] for visit in self.visits]))

    def all_been(self):
        return len(self.been()) == self.people

    def is_sure(self):
        return self.goal >= least_sure(self.people, self.times, self.known)

    def is_coming(self):
        return self.goal <= greatest_coming(self.people, self.times)

    def fewest_till_wrong(self):
        """How many visits, from the first on, till it's said wrongly, where the numbers aren't sure."""
        # A lamp that may burn at first is the shorter way, whichever way this one was.
        return fewest_visits(self.goal, 1 - self.known)

    def turns_left(self):
        """How often the others together can still turn the lamp on."""
        return (self.people - 1) * self.times - sum(self.turns[COUNTER + 1:])

    def can_be_said(self):
        """Whether so many as are still wanted can be counted; a lamp that burns is one of them."""
        return self.counted() + self.lamp + self.turns_left() >= self.goal

    def fewest_till_said(self):
        """How many visits, from now on, till it's said, where it can be."""
        return fewest_visits(self.goal - self.counted(), self.lamp)
