"""The errors by which the program refuses: NetError is any refusal."""


class NetError(ValueError):
    pass


class NoWay(NetError):
    pass


class NoStatement(NetError):
    pass
