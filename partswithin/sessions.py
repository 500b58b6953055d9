"""Sessions: a web that is edited, while questions about it are watched, and answers held."""

from partswithin.deeds import deed_told, state_behind
from partswithin.errors import BadQuestion, InUse, NoCount, WouldChange
from partswithin.forms import is_number
from partswithin.questions import answer_to, asks, why_so
from partswithin.webs import Web


class Session:
    """A web that lives, and what is asked about it; it goes back to states that were, and on again."""

    def __init__(self):
        self.start([(Web([], []), [])], [], 0)

    def start(self, states, done, many):
        """Has these states, each a deed behind the one ahead, and is in the one behind so many."""
        # states and these lists are never changed, but told anew: so others may keep them
        self._states = states
        self._done = done
        self._many = many

    def _state(self):
        """The web, and the list of pairs (question, is_held)."""
        return self._states[self._many]

    def now(self):
        return self._state()[0]

    def watched(self):
        web, asked = self._state()
        return [(question, answer_to(web, question), is_held) for question, is_held in asked]

    def do(self, deed):
        behind = state_behind(self._state(), deed)
        changes = changes_to(self._state(), behind[0])
        need_held(self._state(), behind[0], changes)
        self._states = [*self._states[:self._many + 1], behind]
        self._done = [*self._done[:self._many], deed_told(deed)]
        self._many += 1
        return changes

    def is_question(self, thing):
        return asks(self.now(), thing)

    def answer(self, question):
        if not self.is_question(question):
            raise BadQuestion(question)
        return answer_to(self.now(), question)

    def would(self, deed):
        behind = state_behind(self._state(), deed)
        return changes_to(self._state(), behind[0])

    def count(self):
        return self._many

    def deeds(self):
        return self._done[:self._many]

    def undo(self):
        if self._many == 0:
            return None
        self._many -= 1
        return self._done[self._many]

    def again(self):
        if self._many == len(self._done):
            return None
        self._many += 1
        return self._done[self._many - 1]

    def at(self, number):
        if not is_number(number) or number > self._many:
            raise NoCount(number)
        return session_of(self._states[:number + 1], self._done[:number], number)

    def copy(self):
        return session_of(self._states, self._done, self._many)

    def trial(self, work):
        states = self._states
        done = self._done
        many = self._many
        try:
            return work(self)
        finally:
            self._states = states
            self._done = done
            self._many = many

    def __eq__(self, other):
        return isinstance(other, Session) and self._state() == other._state()


def session_of(states, done, many):
    made = Session()
    made.start(states, done, many)
    return made


def changes_to(state, behind):
    """The triples (question, ahead, behind) of what is watched and answered otherwise of a web.

    Raises InUse for the first question that would be none.
    """
    web, asked = state
    for question, _ in asked:
        if not asks(behind, question):
            raise InUse(question)
    rows = [(question, answer_to(web, question), answer_to(behind, question)) for question, _ in asked]
    return [row for row in rows if row[1] != row[2]]


def need_held(state, behind, changes):
    """Raises WouldChange for the first of these changes that is of a held question."""
    held = {question: is_held for question, is_held in state[1]}
    for question, ahead, _ in changes:
        if held[question]:
            raise WouldChange(question, why_so(behind, question, ahead))
