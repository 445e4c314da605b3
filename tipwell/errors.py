"""The refusals of the program: one class for each, all under TipError."""


class TipError(ValueError):
    """Any refusal."""


class NoNet(TipError):
    """What should be a net is none."""


class NoVessel(TipError):
    """The net lacks this vessel."""


class TooLong(TipError):
    """No state came again within the ticks that are looked through."""


class TooMany(TipError):
    """More came up, or was put together, than is taken."""


class TooMuch(TipError):
    """More was to be poured or gone than is taken."""


class NoText(TipError):
    """What should be the text of a net is none."""


class NoRow(TipError):
    """What should be a row for a desk is none."""


class Nothing(TipError):
    """There is nothing to take back."""
