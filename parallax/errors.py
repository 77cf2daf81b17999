"""The errors that Parallax raises; each one is created without arguments."""


class ParallaxError(ValueError):
    """What all errors of this package have in common."""


class BadSystem(ParallaxError):
    """An argument is no system."""


class BadWatcher(ParallaxError):
    """An argument is no watcher, or none that fits the other one."""


class BadQuestion(ParallaxError):
    """An argument is no question."""


class BadPath(ParallaxError):
    """The watcher cannot read these paths of these systems together."""


class TooMuch(ParallaxError):
    """There is more to be found than the document asks for."""
