"""The network: its stations, the ways between them, and the sources of the classes."""


class Station:
    def __init__(self, station_count, class_count):
        self.servers = 1
        self.capacity = 0
        self.discipline = 0
        self.service_ranges = [(1, 1)] * class_count
        # One weight more than there are stations: the last one is that of leaving.
        self.weights = [(0,) * (station_count + 1)] * class_count


class Source:
    def __init__(self, station, low, high):
        self.station = station
        self.low = low
        self.high = high


class Network:
    def __init__(self, seed, station_count, class_count):
        self.seed = seed
        self.stations = [Station(station_count, class_count) for number in range(station_count)]
        self.sources = [Source(0, 0, 0) for number in range(class_count)]
