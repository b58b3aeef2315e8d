"""Versions that are made from one another, with undo and redo ([L1], [L2])."""

from tongues.errors import TongueError


class NothingToUndo(TongueError):
    """The present version was made from no other one."""


class NothingToRedo(TongueError):
    """The present version remembers no other one."""


class NoVersion(TongueError):
    """There is no version of this number."""


class Versions:
    """Versions with their states; `present` is the number of the present one."""

    def __init__(self, state):
        self.present = 0
        self._states = [state]
        self._origins = [None]
        self._remembered = [None]

    def state(self):
        """The state of the present version."""
        return self._states[self.present]

    def state_of(self, version):
        """The state of a version."""
        self._check(version)
        return self._states[version]

    def made_from(self):
        """The tuple of the numbers of the versions from which each one was made."""
        return tuple(self._origins)

    def remembered(self):
        """The number of the version that the present one remembers, or None."""
        return self._remembered[self.present]

    def make(self, state):
        """Makes a new version from the present one."""
        number = len(self._states)
        self._states.append(state)
        self._origins.append(self.present)
        self._remembered.append(None)
        self._remembered[self.present] = number
        self.present = number
        return number

    def undo(self):
        """Goes back to the version from which the present one was made."""
        origin = self._origins[self.present]
        if origin is None:
            raise NothingToUndo("the present version is the first one")
        self._remembered[origin] = self.present
        self.present = origin
        return origin

    def redo(self):
        """Goes to the version that the present one remembers."""
        if self._remembered[self.present] is None:
            raise NothingToRedo("the present version remembers none")
        self.present = self._remembered[self.present]
        return self.present

    def go(self, version):
        """Goes to a version; those on the way to it remember the way."""
        self._check(version)
        later = version
        while self._origins[later] is not None:
            self._remembered[self._origins[later]] = later
            later = self._origins[later]
        self.present = version
        return version

    def _check(self, version):
        """Raises NoVersion if there is no version of this number."""
        if not 0 <= version < len(self._states):
            raise NoVersion("there is no version of this number")
