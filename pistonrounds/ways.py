"""What comes from a first thing by events, and by which ones."""


class Ways:
    """The things that have been found, each once and in order, and from where each one came."""

    def __init__(self, first):
        self.found = [first]
        self.came = {first: None}

    def lead(self, ahead, event, thing):
        """Takes up a thing that comes behind an event from the thing ahead, unless it is there already."""
        if thing not in self.came:
            self.found.append(thing)
            self.came[thing] = (ahead, event)

    def events_to(self, thing):
        """The events that lead from the first thing to this one."""
        events = []
        last = self.came[thing]
        while last is not None:
            ahead, event = last
            events.append(event)
            last = self.came[ahead]
        return tuple(reversed(events))
