"""What one instance stores."""


class Design:
    """A number of factors and the generators, which are words; without factors until a create succeeds."""

    def __init__(self):
        self.factors = 0
        self.generators = []
