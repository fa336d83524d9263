"""One cell as it stands: its numbers, its lamp, and every call of a person into it so far."""

COUNTER = 1


class Cell:
    """A cell with its people, numbered from 1 on; each visit is one call of a person."""

    def __init__(self):
        self.begin(3, 1, 2, 1, 0)

    def begin(self, people, times, goal, known, lamp):
        """Start anew with these numbers: nobody has been called."""
        self.people = people
        self.times = times
        self.goal = goal
        self.known = known
        self.lamp = lamp
        self.visits = []
        # There is no person 0, so that place stays unused.
        self.turns = [0] * (people + 1)

    def has_person(self, person):
        return person >= 1 and person <= self.people

    def counted(self):
        # The counter never turns the lamp but to count it.
        return self.turns[COUNTER]

    def said(self):
        return self.counted() == self.goal

    def would_turn(self, person):
        """Whether this person, if called now, turns the lamp."""
        if person == COUNTER:
            return self.lamp == 1
        return self.lamp == 0 and self.turns[person] < self.times

    def visit(self, person):
        """Call this person in; what they do is kept, so that it can be undone."""
        turning = self.would_turn(person)
        if turning:
            self.lamp = 1 - self.lamp
            self.turns[person] += 1
        self.visits.append((person, turning))

    def undo(self):
        """Take back the last visit; answer whose it was."""
        last = self.visits.pop()
        person = last[0]
        if last[1]:
            self.lamp = 1 - self.lamp
            self.turns[person] -= 1
        return person

    def go_round(self, rounds):
        """Call all in, from 1 on, so many times, till it's said; answer how many visits that made."""
        before = len(self.visits)
        for step in range(rounds * self.people):
            if self.said():
                break
            self.visit(step % self.people + 1)
        return len(self.visits) - before

    def been(self):
        """Who has been called, rising, each once."""
        return sorted(set([visit[0] for visit in self.visits]))
