"""The document once more, written apart from the program: its answers are compared with these.

What has happened is kept as a list of events, and every question is answered by walking it again.
"""


class Model:

    def __init__(self):
        self.events = []
        self.sent = []
        self.off = set()

    def home(self):
        """name -> [text, translation], in the order in which they were told."""
        there = {}
        for kind, name, number in self.events:
            if kind == "piece":
                there[name] = [number, 0]
            elif kind == "gone":
                del there[name]
            elif kind == "text":
                if there[name][0] != number:
                    there[name] = [number, 0]
            elif kind == "put":
                there[name][1] = number
        return there

    def open_now(self):
        """(name, package) -> theirs, the latest last."""
        found = {}
        for kind, place, theirs in self.events:
            if kind == "opened":
                found.pop(place, None)
                found[place] = theirs
            elif kind == "closed":
                found.pop(place, None)
        return found

    def base(self, number, name):
        latest = self.sent[number][name][1]
        for kind, place, theirs in self.events:
            if kind == "came" and place == (name, number):
                latest = theirs
        return latest

    def stands(self):
        home = self.home()
        return [len(home), len([row for row in home.values() if row[1]]), len(self.open_now())]

    def happen(self, kind, place, number):
        self.events.append((kind, place, number))

    def call_piece(self, name, text):
        home = self.home()
        for refusal, holds in ((-1, name > 99 or text > 999), (-4, name in home), (-5, len(home) == 12)):
            if holds:
                return [refusal]
        self.happen("piece", name, text)
        return self.stands()

    def change(self, kind, name, number):
        for refusal, holds in ((-1, number > 999), (-2, name not in self.home())):
            if holds:
                return [refusal]
        self.happen(kind, name, number)
        return self.stands()

    def call_text(self, name, text):
        return self.change("text", name, text)

    def call_gone(self, name):
        return self.change("gone", name, 0)

    def call_put(self, name, translation):
        return self.change("put", name, translation)

    def call_send(self, names):
        home = self.home()
        twice = any(names.count(name) > 1 for name in names)
        for refusal, holds in (
            (-1, not names or len(names) > 8 or twice),
            (-2, any(name not in home for name in names)),
            (-5, len(self.sent) == 10),
        ):
            if holds:
                return [refusal]
        self.sent.append({name: tuple(home[name]) for name in names})
        return [len(self.sent) - 1]

    def call_back(self, number, row):
        names, translations = row[0::2], row[1::2]
        twice = any(names.count(name) > 1 for name in names)
        if not names or len(names) > 8 or twice or any(theirs > 999 for theirs in translations):
            return [-1]
        if number not in range(len(self.sent)):
            return [-2]
        if number in self.off:
            return [-6]
        if set(names) - set(self.sent[number]):
            return [-3]
        kinds = [self.comes_back(number, name, theirs) for name, theirs in zip(names, translations)]
        return [kinds.count(2), *kinds]

    def comes_back(self, number, name, theirs):
        base, home, place = self.base(number, name), self.home(), (name, number)
        if theirs == base:
            return 1
        if name not in home:
            kind = 5
        elif home[name][0] != self.sent[number][name][0]:
            kind = 4
        elif home[name][1] == theirs:
            kind = 0
        else:
            kind = 2 if home[name][1] == base else 3
        self.happen("came", place, theirs)
        if kind == 2:
            self.happen("put", name, theirs)
        self.happen("opened" if kind >= 3 else "closed", place, theirs)
        return kind

    def call_off(self, number):
        if number not in range(len(self.sent)):
            return [-2]
        if number in self.off:
            return [-6]
        self.off.add(number)
        return [len(self.sent) - len(self.off)]

    def call_choose(self, name, number, theirs):
        place = (name, number)
        found = self.open_now()
        if place not in found:
            return [-2]
        if theirs and name not in self.home():
            return [-6]
        self.happen("closed", place, 0)
        if theirs:
            self.happen("put", name, found[place])
        return self.stands()

    def call_open(self):
        home = self.home()
        told = [len(self.open_now())]
        for (name, number), theirs in self.open_now().items():
            sent_text = self.sent[number][name][0]
            now = 3
            if name not in home:
                now = 5
            elif home[name][0] != sent_text:
                now = 4
            elif home[name][1] == theirs:
                now = 0
            told += [name, number, sent_text, theirs, now]
        return told

    def call_pieces(self):
        home = self.home()
        return [len(home), *[number for name, row in home.items() for number in (name, *row)]]

    def call_package(self, number):
        if number not in range(len(self.sent)):
            return [-2]
        told = [int(number in self.off), len(self.sent[number])]
        for name, (text, translation) in self.sent[number].items():
            told += [name, text, self.base(number, name)]
        return told

    def call_out(self, name):
        found = [number for number, names in enumerate(self.sent) if name in names and number not in self.off]
        return [len(found), *found]


def model_answers(calls):
    """What the document asks for, an answer for each of the calls (a list of lists, as lines.py writes them)."""
    model = Model()
    by_number = (
        model.call_piece, model.call_text, model.call_gone, model.call_put, model.call_send, model.call_back,
        model.call_off, model.call_choose, model.call_open, model.call_pieces, model.call_package, model.call_out,
    )
    given = []
    for call in calls:
        if call[0] == 4:
            given.append(model.call_send(call[2:]))
        elif call[0] == 5:
            given.append(model.call_back(call[1], call[3:]))
        else:
            given.append(by_number[call[0]](*call[1:]))
    return given
