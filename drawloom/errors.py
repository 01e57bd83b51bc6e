"""The errors that Drawloom raises."""


class DrawloomError(ValueError):
    """The base class of all errors."""


class BadKernel(DrawloomError):
    """A value is no good kernel."""


class BadLaunch(DrawloomError):
    """A value is no launch of a kernel, a flow graph or machine code."""


class BadGraph(DrawloomError):
    """A value is no flow graph, or not one that is taken."""


class NotInForm(DrawloomError):
    """A flow graph is not in single assignment form."""


class NotReady(DrawloomError):
    """What should do something is not ready for it, or is not there."""


class TooLarge(DrawloomError):
    """A result would be too large."""


class BadCode(DrawloomError):
    """A value is no machine code."""
