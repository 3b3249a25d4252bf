"""A disk: two areas of bytes, of which some are durable, and power that may fail."""

from lenstree.errors import PowerError

AREAS = (0, 1)


class Disk:
    """A disk with two areas."""

    def __init__(self):
        self._areas = {area: [] for area in AREAS}
        # How many bytes at the beginning of each area are durable.
        self._durables = {area: 0 for area in AREAS}
        # The units of power that are left, or None without a limit.
        self._power = None
        self._is_down = False

    def _spend(self, units):
        """Use up power: return how many of the units were left, or raise PowerError if the disk is down."""
        if self._is_down:
            raise PowerError()
        if self._power is None:
            return units
        spent = min(units, self._power)
        self._power = self._power - spent
        self._is_down = spent < units
        return spent

    def _refuse_when_down(self):
        """Raise PowerError if the disk is down."""
        if self._is_down:
            raise PowerError()

    def append(self, area, numbers):
        """Put bytes at the end of an area. Raise PowerError."""
        spent = self._spend(len(numbers))
        self._areas[area].extend(numbers[:spent])
        self._refuse_when_down()

    def sync(self, area):
        """Make all bytes of an area durable. Raise PowerError."""
        self._spend(1)
        self._refuse_when_down()
        self._durables[area] = len(self._areas[area])

    def wipe(self, area):
        """Empty an area at once and durably. Raise PowerError."""
        self._spend(1)
        self._refuse_when_down()
        self._areas[area] = []
        self._durables[area] = 0

    def limit_power(self, units):
        """Limit the power to so many units from now on."""
        self._power = units

    def contents(self, area):
        """Return the list of the bytes of an area."""
        return list(self._areas[area])

    def durable(self, area):
        """Return how many bytes of an area are durable."""
        return self._durables[area]

    def restarted(self, count):
        """Return the disk restarted: at most `count` of the bytes of each area that are not durable are kept."""
        result = Disk()
        for area in AREAS:
            result.append(area, self._areas[area][:self._durables[area] + count])
            result.sync(area)
        return result
