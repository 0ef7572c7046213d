"""What is said of a run behind each of its marks."""

from soonsaid.errors import BadMark, NoMark
from soonsaid.goings import going, verdict
from soonsaid.plans import Plan, begun, is_met, stepped
from soonsaid.statements import is_mark, need_told


class Teller:
    """Is told the marks of a run one by one, and says behind each what is sure of the statement."""

    def __init__(self, statement):
        self._plan = Plan(need_told(statement))
        self._state = begun(self._plan)
        self._marks = []
        self._last = "open"
        # A run that stays open may come to the same states again and again.
        self._verdicts = {}

    def tell(self, mark):
        """Takes one more mark, and says what is sure then."""
        if not is_mark(mark):
            raise BadMark("this is no mark")
        self._marks.append(mark)
        self._state = stepped(self._plan, self._state, mark)
        # What is sure once stays so, however the run goes on.
        if self._last == "open":
            self._last = self._verdict_here()
        return self._last

    def _verdict_here(self):
        """The verdict on the state, that of an earlier time if there is one."""
        if self._state not in self._verdicts:
            self._verdicts[self._state] = verdict(self._plan, self._state)
        return self._verdicts[self._state]

    def said(self):
        """What was said last; "open" ahead of the first mark."""
        return self._last

    def row(self):
        """A list of the marks that were told."""
        return list(self._marks)

    def end(self):
        """Whether the statement holds at moment 0 if the run ends here."""
        self._need_mark()
        return is_met(self._state)

    def ways(self):
        """The rows by which the run can go on so that the statement holds, and so that it doesn't; None if one is."""
        self._need_mark()
        if self._last != "open":
            return None
        return (going(self._plan, self._state, True), going(self._plan, self._state, False))

    def _need_mark(self):
        """Refuses where no mark was told."""
        if not self._marks:
            raise NoMark("no mark was told yet")
