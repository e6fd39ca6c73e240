"""Parts of messages that wait for the next part."""

MOST_WAITING = 8
LONGEST_WAIT = 60


class PartMisfit(Exception):
    pass


class Begun:
    def __init__(self, sentence, time):
        self.since = time
        self.parts = sentence.parts
        self.which = sentence.which
        self.bits = sentence.bits


class Waiting:
    def __init__(self):
        self.begun = {}

    # None stands for a message that isn't whole yet.
    def take(self, sentence, time):
        self.forget(time)
        if sentence.parts == 1:
            return sentence.bits
        if sentence.which == 1:
            self.begin(sentence, time)
            return None
        return self.go_on(sentence)

    def forget(self, time):
        young = {}
        for key, begun in self.begun.items():
            if time - begun.since <= LONGEST_WAIT:
                young[key] = begun
        self.begun = young

    def begin(self, sentence, time):
        if sentence.key in self.begun:
            self.begun.pop(sentence.key)
        elif len(self.begun) == MOST_WAITING:
            # Keys stand in the order in which they came, so the first has waited longest.
            self.begun.pop(list(self.begun)[0])
        self.begun[sentence.key] = Begun(sentence, time)

    def go_on(self, sentence):
        if sentence.key not in self.begun:
            raise PartMisfit()
        begun = self.begun[sentence.key]
        if sentence.parts != begun.parts or sentence.which != begun.which + 1:
            self.begun.pop(sentence.key)
            raise PartMisfit()
        # Changed where it stands: a key put in anew would pass for one that began just now.
        begun.which = sentence.which
        begun.bits = begun.bits + sentence.bits
        if begun.which < begun.parts:
            return None
        self.begun.pop(sentence.key)
        return begun.bits
