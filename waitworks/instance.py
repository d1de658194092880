"""The instance that the operations work on, and the errors that they answer."""

NOT_THERE = -2
NO_RUN = -6
NO_INSTANCE = -11
OUT_OF_RANGE = -22
TOO_MANY_EVENTS = -28
EMPTY_CHECKPOINT = -33

CHECKPOINT_COUNT = 3


class Instance:
    def __init__(self):
        self.network = None
        self.run = None
        self.checkpoints = [None] * CHECKPOINT_COUNT


def forget_runs(instance):
    instance.run = None
    instance.checkpoints = [None] * CHECKPOINT_COUNT


def has_station(instance, station):
    return station < len(instance.network.stations)


def has_class(instance, class_number):
    return class_number < len(instance.network.sources)


def has_checkpoint(slot):
    return slot < CHECKPOINT_COUNT
