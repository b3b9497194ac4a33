"""Map rooms: desks with a room, told claims, a history and drafts."""

from lostland.answers import answer_of
from lostland.deeds import behind, check_deeds
from lostland.errors import NoDraft, NothingLeft, TooMany
from lostland.rooms import Room
from lostland.spaces import Space

_MOST_DRAFTS = 4


class MapRoom:
    """A room and told claims, which deeds change step by step."""

    def __init__(self):
        # A state is a pair of a room and a list of told claims, which is never changed.
        self._state = (Room(), [])
        # Tuples of steps, and a step is (deeds, state ahead, state behind).
        self._done = ()
        self._undone = ()
        # What was so when each of the drafts was begun: (state, done steps, undone steps).
        self._drafts = ()
        self._log = []
        self._busy = False

    def do(self, *deeds):
        """Does all of the deeds, or none, as one step."""
        state = self._behind(deeds)
        if len(deeds) > 0:
            self._done = self._done + ((deeds, self._state, state),)
            self._undone = ()
            self._state = state

    def _behind(self, deeds):
        """The state behind deeds."""
        check_deeds(deeds)
        room, told = self._state
        self._busy = True
        try:
            return behind(room, told, deeds)
        finally:
            self._busy = False

    def undo(self):
        """Takes the last step back."""
        if len(self._done) == 0:
            raise NothingLeft()
        step = self._done[-1]
        self._done = self._done[:-1]
        self._undone = self._undone + (step,)
        self._state = step[1]

    def redo(self):
        """Does the step again that was taken back last."""
        if len(self._undone) == 0:
            raise NothingLeft()
        step = self._undone[-1]
        self._undone = self._undone[:-1]
        self._done = self._done + (step,)
        self._state = step[2]

    def begin(self):
        """Begins a draft."""
        if len(self._drafts) == _MOST_DRAFTS:
            raise TooMany(_MOST_DRAFTS)
        self._drafts = self._drafts + ((self._state, self._done, self._undone),)
        self._done = ()
        self._undone = ()

    def keep(self):
        """Makes the steps of the draft one step of the history around it."""
        deeds = tuple([deed for step in self._done for deed in step[0]])
        state = self._state
        self.drop()
        if deeds != ():
            self._done = self._done + ((deeds, self._state, state),)
            self._undone = ()
            self._state = state

    def drop(self):
        """Puts everything back as it was when the draft was begun."""
        if len(self._drafts) == 0:
            raise NoDraft()
        self._state, self._done, self._undone = self._drafts[-1]
        self._drafts = self._drafts[:-1]

    def history(self):
        """The numbers of steps that can be undone and redone."""
        return (len(self._done), len(self._undone))

    @property
    def depth(self):
        """The number of drafts that are begun."""
        return len(self._drafts)

    @property
    def busy(self):
        """Whether deeds are being done."""
        return self._busy

    def journal(self):
        """The list of the deeds of all steps that can be undone, the outermost ones first."""
        histories = [draft[1] for draft in self._drafts] + [self._done]
        return [deed for done in histories for step in done for deed in step[0]]

    def held(self):
        """The room."""
        return self._state[0]

    def told(self):
        """The list of the told claims."""
        return list(self._state[1])

    def space(self):
        """The space of the room and the told claims."""
        return Space(self.held(), told=self.told())

    def tried(self, *deeds):
        """The space that there would be behind the deeds."""
        room, told = self._behind(deeds)
        return Space(room, told=told)

    def say(self, line):
        """The answer to a line."""
        answer = answer_of(self, line)
        self._log.append((line, answer))
        return answer

    def __call__(self, line):
        """The answer to a line."""
        return self.say(line)

    def log(self):
        """The list of the pairs of a line and its answer, in order."""
        return list(self._log)

    def twin(self):
        """An independent map room in the same state."""
        other = MapRoom()
        other._state = self._state
        other._done = self._done
        other._undone = self._undone
        other._drafts = self._drafts
        other._log = list(self._log)
        return other

    def __eq__(self, other):
        return (isinstance(other, MapRoom) and self.held() == other.held()
                and self.told() == other.told())

    def __len__(self):
        return len(self._state[0])

    def __bool__(self):
        return True

    def __repr__(self):
        return f"MapRoom({len(self._state[0])} sheets, {len(self._state[1])} told)"


def map_room_of(room, told):
    """A map room without history that keeps a room and a list of told claims."""
    made = MapRoom()
    made._state = (room, list(told))
    return made
