"""Edits that came to a house, and can not be done there yet."""

from shownviews.holdings import can_be_done, edit_rank, has_edit

MOST_ASIDE = 100


class Aside:
    """At most so many edits, each once; of more the one that comes last falls away."""

    def __init__(self):
        self._edits = {}

    def edits(self):
        """The ascending list of the edits."""
        return [self._edits[key] for key in sorted(self._edits)]

    def lay(self, edit):
        self._edits.setdefault(edit[:2], edit)
        if len(self._edits) > MOST_ASIDE:
            last = max(self.edits(), key=edit_rank)
            del self._edits[last[:2]]

    def next_one(self, mark):
        """The first edit that can be done where a mark stands, None without; those that it stands for are let go."""
        edits = self.edits()
        self._edits = {edit[:2]: edit for edit in edits if not has_edit(mark, edit)}
        ready = [edit for edit in edits if can_be_done(mark, edit)]
        return min(ready, key=edit_rank) if ready else None
