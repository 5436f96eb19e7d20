"""The refusals: one class for each kind, all under HomeError and none under another one."""


class HomeError(ValueError):
    """Any refusal."""


class NoWeb(HomeError):
    """What was to be a web is none."""


class NoPlace(HomeError):
    """The web has no such place."""


class NoThings(HomeError):
    """These are no things of the web."""


class NoRound(HomeError):
    """This is no round of the web."""


class NeverHome(HomeError):
    """Some thing never comes home."""


class TooMany(HomeError):
    """There are more places or pairs than are gone through."""


class NoText(HomeError):
    """The text writes nothing of the kind that was to be read."""


class NoForm(HomeError):
    """The row has none of the forms that a desk answers."""


class NoneYet(HomeError):
    """The desk has not been told yet what is asked for."""


class NoStep(HomeError):
    """No round stands that could be undone."""
