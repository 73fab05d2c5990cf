"""A job: its phases, its steps at the board, and its crew."""

from stillmain.board import Board
from stillmain.doors import need
from stillmain.errors import Held, Lacks, NotNow, There, TooMany
from stillmain.kinds import MOST_IN_CREW, are_names, is_name, is_stretch


class Job:
    """A job at a board, which keeps its crew and its tags."""

    def __init__(self, board, name, hand, rooms):
        need(0, isinstance(board, Board))
        need(1, is_name(name))
        need(2, is_name(hand))
        need(3, is_stretch(rooms))
        if name in board.jobs():
            raise There(name)
        board.crew(name, [hand])
        self._board = board
        self._name = name
        self._stretch = list(rooms)
        self._phase = "by"
        # The phase that comes when the job is away with no step left.
        self._aim = "by"
        self._switches = []
        self._drains = []

    def begin(self, switches, drains):
        """Begin with these switches and drains."""
        need(0, are_names(switches))
        need(1, are_names(drains) and not _have_one_in_common(switches, drains))
        self._refuse_unless_in(("by",))
        devices = self._board.devices()
        for device in switches + drains:
            if device not in devices:
                raise Lacks(device)
        self._phase = "still"
        self._switches = list(switches)
        self._drains = list(drains)

    def step(self):
        """Do the first step that is left, and tell it."""
        steps = self.steps()
        if not steps:
            raise NotNow(self._name)
        device, position = steps[0]
        if position is None:
            self._board.free(device, self._name)
        else:
            self._board.hold(device, position, self._name)
        self._leave_away()
        return device, position

    def give(self):
        """Give the permit."""
        if not self.is_ready():
            raise NotNow(self._name)
        self._phase = "given"

    def try_out(self):
        """Take the permit back to try the stretch out."""
        self._refuse_unless_in(("given",))
        self._refuse_company()
        self._phase = "trial"

    def go_on(self):
        """Go on after a trial."""
        self._refuse_unless_in(("trial",))
        self._phase = "still"

    def put_by(self):
        """Go away, to be begun again."""
        self._refuse_unless_in(("still", "given", "trial"))
        self._refuse_company()
        self._go_away("by")

    def end(self):
        """Go away for good."""
        self._refuse_unless_in(("by", "still", "given", "trial"))
        self._refuse_company()
        self._go_away("ended")

    def sign_on(self, hand):
        """Put a hand behind the others of the crew."""
        need(0, is_name(hand))
        self._refuse_unless_in(("given",))
        crew = self.crew_now()
        if hand in crew:
            raise There(hand)
        if len(crew) >= MOST_IN_CREW:
            raise TooMany(MOST_IN_CREW)
        self._board.crew(self._name, crew + [hand])

    def sign_off(self, hand):
        """Take a hand off the crew, in which another one stays."""
        need(0, is_name(hand))
        self._refuse_unless_in(("given",))
        crew = self.crew_now()
        if hand not in crew:
            raise Lacks(hand)
        if len(crew) == 1:
            raise NotNow(self._name)
        self._board.crew(self._name, [other for other in crew if other != hand])

    def hand_over(self, one, other):
        """Put another hand in the place of one in the crew."""
        need(0, is_name(one))
        need(1, is_name(other))
        self._refuse_unless_in(("by", "still", "given", "trial", "away"))
        crew = self.crew_now()
        if one not in crew:
            raise Lacks(one)
        if other in crew:
            raise There(other)
        self._board.crew(self._name, [other if hand == one else hand for hand in crew])

    def called(self):
        """Tell the job's name."""
        return self._name

    def phase(self):
        """Tell the phase."""
        return self._phase

    def stretch(self):
        """Tell the stretch, as it was handed in."""
        return list(self._stretch)

    def switches(self):
        """Tell the switches, as they were handed in; none where the job isn't begun."""
        return list(self._switches)

    def drains(self):
        """Tell the drains, as they were handed in; none where the job isn't begun."""
        return list(self._drains)

    def crew_now(self):
        """Tell the crew, the holder first; none where the job is ended."""
        # The board may know a new job of this name by then.
        if self._phase == "ended":
            return []
        return self._board.crew_of(self._name)

    def steps(self):
        """Tell the steps that are left, tuples of a device and a position or None."""
        if self._phase == "still":
            return self._steps_to("shut", self._switches) + self._steps_to("open", self._drains)
        if self._phase == "trial":
            return self._steps_of_trial()
        if self._phase == "away":
            return [(device, None) for device in self._last_to_first() if self._has_tags_on(device)]
        return []

    def is_ready(self):
        """Tell whether the permit may be given."""
        return self._phase == "still" and not self.steps()

    def copied(self, board):
        """Tell a job that is alike, at this copy of its board."""
        need(0, isinstance(board, Board))
        # This board knows the job already, so the twin is made at another one first.
        twin = Job(Board(), self._name, self._name, self._stretch)
        twin._board = board
        twin._phase = self._phase
        twin._aim = self._aim
        twin._switches = list(self._switches)
        twin._drains = list(self._drains)
        return twin

    def _refuse_unless_in(self, phases):
        if self._phase not in phases:
            raise NotNow(self._name)

    def _refuse_company(self):
        crew = self.crew_now()
        if len(crew) > 1:
            raise Held(sorted(crew[1:]))

    def _go_away(self, aim):
        self._phase = "away"
        self._aim = aim
        self._leave_away()

    def _leave_away(self):
        if self._phase != "away" or self.steps():
            return
        self._phase = self._aim
        self._switches = []
        self._drains = []
        if self._phase == "ended":
            self._board.leave(self._name)

    def _has_tags_on(self, device):
        return self._name in self._board.jobs_on(device)

    def _steps_to(self, position, devices):
        return [(device, position) for device in devices
                if self._board.stands(device) != position or not self._has_tags_on(device)]

    def _steps_of_trial(self):
        # Water comes back only when no drain of the job is open.
        drains = [(drain, "shut") for drain in self._drains[::-1] if self._board.stands(drain) == "open"]
        switches = [(switch, self._board.home(switch)) for switch in self._switches[::-1]]
        return drains + [(switch, home) for switch, home in switches if self._board.stands(switch) != home]

    def _last_to_first(self):
        return self._drains[::-1] + self._switches[::-1]


def _have_one_in_common(some, others):
    return any([name in others for name in some])
