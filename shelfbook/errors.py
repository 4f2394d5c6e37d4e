"""The refusals of a shop, one class each, in the order in which point 9 names them.

Whoever wants to take any refusal takes ShopError.
"""


class ShopError(ValueError):
    pass


class NoKind(ShopError):
    pass


class NoOrder(ShopError):
    pass


class NoSale(ShopError):
    pass


class NoMany(ShopError):
    pass


class TooMany(ShopError):
    pass


class TooFew(ShopError):
    pass


class Broke(ShopError):
    pass
