"""A pond: a raft with its folk, on which things are done one by one and taken back."""

from raftwalk.errors import Bumps
from raftwalk.errors import NoFolk
from raftwalk.errors import NoName
from raftwalk.errors import NoPlaces
from raftwalk.errors import NoRaft
from raftwalk.errors import NoStanding
from raftwalk.errors import NotFront
from raftwalk.errors import NothingLeft
from raftwalk.errors import TooFar
from raftwalk.measures import NOUGHT
from raftwalk.standings import are_folk
from raftwalk.standings import are_places
from raftwalk.standings import gap_behind
from raftwalk.standings import is_raft
from raftwalk.standings import is_standing
from raftwalk.stepping import index_of
from raftwalk.stepping import stepped


class Pond:
    """A raft and all that was done on it.

    The states are triples (folk, standing, names of those ashore), the very first one in front,
    what is now behind. They are tuples throughout, so nobody else can change them.
    """

    def __init__(self, raft, folk, standing):
        if not is_raft(raft):
            raise NoRaft("this is no raft")
        if not are_folk(folk):
            raise NoFolk("these are no folk")
        if not is_standing(raft, folk, standing):
            raise NoStanding("this is no standing of the folk on the raft")
        self.busy = False
        self.raft = raft
        self.states = [(folk, standing, ())]

    def walk(self, places):
        """Let those on the raft walk to the places."""
        self.busy = True
        try:
            folk, standing, names = self.states[-1]
            if not are_places(self.raft, folk, places):
                raise NoPlaces("these are no places of those on the raft")
            gap = gap_behind(self.raft, folk, standing, places)
            if gap is None:
                raise Bumps("the raft would come against the pier")
            self.states.append((folk, (gap, places), names))
        finally:
            self.busy = False

    def step(self, name):
        """Let the one of the name step off."""
        self.busy = True
        try:
            folk, standing, names = self.states[-1]
            at = index_of(folk, name)
            if at is None:
                raise NoName("nobody on the raft has this name")
            if standing[1][at] != NOUGHT:
                raise NotFront("they do not stand at the front")
            left = stepped(self.raft, folk, standing, name)
            if left is None:
                raise TooFar(standing[0])
            self.states.append((left[0], left[1], names + (name,)))
        finally:
            self.busy = False

    def back(self):
        """Take back what was done last."""
        self.busy = True
        try:
            if len(self.states) == 1:
                raise NothingLeft("nothing is left to be taken back")
            self.states.pop()
        finally:
            self.busy = False

    def folk(self):
        """Tell those on the raft."""
        return self.states[-1][0]

    def standing(self):
        """Tell the standing of those on the raft."""
        return self.states[-1][1]

    def ashore(self):
        """Tell the names of those ashore, in the order in which they stepped off."""
        return list(self.states[-1][2])

    def __eq__(self, other):
        return isinstance(other, Pond) and self.raft == other.raft and self.states[-1] == other.states[-1]

    def __len__(self):
        return len(self.states[-1][0])
