"""A watch for a want at a beat: it hears which things come to suit it, and which no longer do."""

from driftwood.things import thing_handle


class Watch:
    def __init__(self, want, beat):
        self.want = want
        self.beat = beat
        self.news = []

    def suited_by(self, thing):
        return thing is not None and self.want.suits(thing, self.beat)

    def changed(self, old, new):
        before = self.suited_by(old)
        behind = self.suited_by(new)
        if behind and not before:
            self.news.append(("came", thing_handle(new)))
        if before and not behind:
            self.news.append(("went", thing_handle(old)))

    def heard_now(self):
        told = tuple(self.news)
        self.news = []
        return told
