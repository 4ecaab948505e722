"""Plans: a kernel with launches, the weave for it, and prices that bound what a weave may cost."""

from sideweave.codes import code_of
from sideweave.errors import Full, NoLaunch, NoNumber, NoPass, NoUndo
from sideweave.fewest import fewest, problems_of
from sideweave.kernels import check_kernel
from sideweave.passes import drop, fold, pull, same
from sideweave.plain import check_lanes, check_launch
from sideweave.prices import FIRST_PROBLEM, MOST_LAUNCHES, Tally, tally_of, weave_price
from sideweave.tables import first_state
from sideweave.weaves import is_index, plain_weave


class Plan:
    """A kernel, up to four launches, a weave of the kernel, and prices of it for these launches.

    What stands now is a tuple of these four, and so is what stood before each call that can be undone. None of them
    is ever changed, so they may have parts in common.
    """

    def __init__(self, kernel):
        check_kernel(kernel)
        self._now = (kernel, [], plain_weave(kernel), zero_prices(kernel))
        self._past = []

    def include(self, launch):
        """Put a launch behind the others."""
        kernel, launches, weave, prices = self._now
        check_launch(launch)
        check_lanes(kernel, launch)
        if len(launches) == MOST_LAUNCHES:
            raise Full("there are four launches already")
        self._go_on((kernel, launches + [copied_launch(launch)], weave, prices))

    def exclude(self, number):
        """Take the launch with this number out."""
        kernel, launches, weave, _ = self._now
        if not is_index(number, len(launches)):
            raise NoNumber("there is no launch with this number")
        self._go_on((kernel, launches[:number] + launches[number + 1:], weave, zero_prices(kernel)))

    def improve(self):
        """Take a weave with the least price, and prices that show that none is cheaper."""
        kernel, launches, _, _ = self._now
        if not launches:
            raise NoLaunch("there is no launch to improve the weave for")
        _, weave, prices = fewest(kernel, launches)
        self._go_on((kernel, launches, weave, prices))

    def apply(self, name):
        """Apply the pass with this name to the kernel, and begin with the plain weave again."""
        kernel = passed(self._now[0], name)
        self._go_on((kernel, self._now[1], plain_weave(kernel), zero_prices(kernel)))

    def undo(self):
        """Restore what there was before the last include, exclude, improve or apply that is not undone."""
        if not self._past:
            raise NoUndo("there is nothing to undo")
        self._now = self._past.pop()

    def kernel(self):
        """Return the kernel."""
        return self._now[0]

    def launches(self):
        """Return the list of the launches."""
        return [copied_launch(launch) for launch in self._now[1]]

    def weave(self):
        """Return the weave."""
        return self._now[2]

    def prices(self):
        """Return the prices."""
        prices = self._now[3]
        return {problem: {state: prices[problem][state] for state in prices[problem]} for problem in prices}

    def bounds(self):
        """Return what each weave costs at least, by the prices, and what this weave costs."""
        kernel, launches, weave, prices = self._now
        low = prices[FIRST_PROBLEM][first_state(FIRST_PROBLEM)]
        return low, weave_price(tally_of(kernel, launches), FIRST_PROBLEM, weave)

    def code(self):
        """Return a code of the weave."""
        return code_of(self._now[0], self._now[2])

    def _go_on(self, behind):
        """Let something else stand now, so that it can be undone."""
        self._past.append(self._now)
        self._now = behind


def zero_prices(kernel):
    """Return the prices of a kernel that are 0 everywhere; raise TooMany for too many states."""
    problems = problems_of(Tally(kernel))
    return {problem: {state: 0 for state in problems[problem]} for problem in problems}


def copied_launch(launch):
    """Return a launch with the same starting registers."""
    return [dict(start) for start in launch]


def passed(kernel, name):
    """Return what the pass with this name makes of a kernel; raise NoPass if there is none."""
    if name == "fold":
        return fold(kernel)
    if name == "drop":
        return drop(kernel)
    if name == "same":
        return same(kernel)
    if name == "pull":
        return pull(kernel)
    raise NoPass("there is no pass with this name")
