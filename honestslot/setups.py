"""The setup of a machine, and whether it is as it must be."""


class Setup:
    """Coins, goods and counters at the moment at which nothing was owed."""

    def __init__(self, reader):
        self.kinds = reader.number()
        self.slots = reader.number()
        self.most = reader.number()
        self.none = reader.number()
        self.value = reader.row()
        self.tube = reader.row()
        self.price = reader.row()
        self.stock = reader.row()
        self.in0 = reader.row()
        self.out0 = reader.row()
        self.fell0 = reader.row()


def all_within(numbers, least, most):
    """Whether each of the numbers lies from least to most."""
    return all([least <= number <= most for number in numbers])


def is_as_told(setup):
    """Whether the document allows this setup; rows are looked at for its own kinds and slots alone."""
    if not all_within([setup.kinds, setup.slots], 1, 8):
        return False
    if not 1 <= setup.most <= 10000 or setup.none != 0:
        return False
    if not all_within(setup.value[:setup.kinds], 1, 10000) or not all_within(setup.tube[:setup.kinds], 0, 200):
        return False
    return all_within(setup.price[:setup.slots], 1, 10000) and all_within(setup.stock[:setup.slots], 0, 200)
