"""What one instance stores."""


class Design:
    """Factors, generators, which are words, and the masks of the blocks; no factors until a create succeeds."""

    def __init__(self):
        self.factors = 0
        self.generators = []
        self.blocks = []

    def redefine(self, generators):
        """Takes these generators. The blocks belong to the design as it was, so they go, whatever the generators."""
        self.generators = generators
        self.blocks = []
