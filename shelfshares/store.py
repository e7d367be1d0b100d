"""The object that calls are made on."""


class Store:
    """What is kept from one call to the next."""

    def __init__(self):
        self.begun = False
        self.places = 0
        self.kinds = []
        self.sellers = []
