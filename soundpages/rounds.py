"""What can be named: the data, round by round."""


class Rounds:
    def __init__(self, data):
        self.data = data
        # For each name the rows of those that stand in a round, the innermost round last.
        self.found = {}
        self.enter(data.page)

    def enter(self, element):
        for name in element.standing:
            self.found.setdefault(name, []).append(element.standing[name])

    def leave(self, element):
        for name in element.standing:
            self.found[name].pop()

    # Those of that name that stand in the innermost round in which one does.
    def innermost(self, name):
        rows = self.found.get(name, [])
        return rows[-1] if len(rows) > 0 else []

    # What a hole of that name gives.
    def text_for(self, name):
        row = self.innermost(name)
        return self.data.text_of(row[0]) if len(row) > 0 else []
