"""The refusals."""


class TreeError(ValueError):
    pass


class NoTree(TreeError):
    pass


class NoForm(TreeError):
    pass


class NoKind(TreeError):
    pass
