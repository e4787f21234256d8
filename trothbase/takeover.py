"""Heads and pages that a house takes over from others."""

from trothbase.trees import is_page, missing, names_told


class TakeOver:
    """The row of heads from the next height on, the heights of it that are aimed at, and the kept pages."""

    def __init__(self, registry):
        self._registry = registry
        self._row = []
        self._aims = {}
        self._kept = {}

    def row(self):
        """The tuple of the heads of the row."""
        return tuple(self._row)

    def aims(self):
        """Whether any height is aimed at."""
        return len(self._aims) > 0

    def aim_at(self, heads):
        """Aims at the last one of heads, which were judged behind the header of the house."""
        if len(heads) > len(self._row):
            self._row = list(heads)
        self._aims[heads[-1][0][1]] = True

    def keep(self, pages, own):
        """Keeps what is missing of a tuple; whether some page of it is kept then, or among the own ones."""
        lacking = {name: True for name in self.lacking(own)}
        known = {**own, **self._kept}
        is_some = False
        for page in pages:
            if not is_page(page):
                continue
            name = self._registry.name(page)
            if name in lacking:
                self._kept[name] = page
                known[name] = page
                del lacking[name]
                for below in missing(self._registry, name, known):
                    lacking[below] = True
            is_some = is_some or name in known
        return is_some

    def lacking(self, own):
        """The ascending list of the names of all pages that are missing for what is aimed at."""
        known = {**own, **self._kept}
        names = [name for root in self._roots() for name in missing(self._registry, root, known)]
        return sorted(set(names))

    def arrived(self, own):
        """The greatest height aimed at for which no page is missing, or None."""
        known = {**own, **self._kept}
        complete = [
            header[1] for header, _ in self._row
            if header[1] in self._aims and missing(self._registry, header[4], known) == []
        ]
        return max(complete, default=None)

    def state(self, height, own):
        """The heads up to a height that is complete, and the pages of its tree that are not among the own ones."""
        heads = tuple([head for head in self._row if head[0][1] <= height])
        known = {**own, **self._kept}
        names = names_told(heads[-1][0][4], known)
        return heads, tuple([known[name] for name in names if name not in own])

    def go_on(self, height, own):
        """Forgets what is behind the house, which is at a height now."""
        self._row = [head for head in self._row if head[0][1] > height]
        self._aims = {aim: True for aim in self._aims if aim > height}
        self._kept = {name: self._kept[name] for name in self._kept if name not in own}

    def _roots(self):
        return [header[4] for header, _ in self._row if header[1] in self._aims]
