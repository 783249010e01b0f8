"""What [80] to [84] say, once more and plainly: whatever can be is looked up in the log, nothing is made quick."""

from tests.samples import all_ways, long_of
from tests.test_doors import PlainDoor
from tests.test_keeps import PlainKeep


class PlainNet:
    def __init__(self, plan, weather=()):
        self.plan = plan
        self.weather = weather
        self.clock = 0
        self.rows = []
        # [number, sender, receiver, body, the moments at which it comes]
        self.letters = []
        self.asks = []
        size, wait, rest, numbers, room = plan[4]
        self.doors = {place: PlainDoor(rest, numbers) for place in range(len(plan[0]))}
        self.keeps = {place: PlainKeep(room) for place in range(len(plan[0]))}
        # (door, name, house, age, at), as they were put
        self.named = []

    def row(self, word, *told):
        self.rows.append((word, self.clock) + told)

    def ask(self, door, name, page, *, age, patience):
        ask = {"number": len(self.asks), "door": door, "name": name, "page": page, "age": age, "count": 0}
        ask.update({"until": self.clock + patience, "pull": None, "question": None, "end": None})
        self.asks.append(ask)
        self.row("ask", ask["number"], door, name, page, age, patience)
        self.go_on(ask)
        return ask["number"]

    def write(self, house, page, text):
        version = self.stands(house, page)[0] + 1
        self.row("write", house, page, version, text)
        return version

    def lead(self, name, house):
        self.row("lead", name, house)

    def cut(self, one, other):
        self.row("cut", *sorted([one, other]))

    def mend(self, one, other):
        self.row("mend", *sorted([one, other]))

    def bar(self, one, other):
        self.row("bar", *sorted([one, other]))

    def free(self, one, other):
        self.row("free", *sorted([one, other]))

    def on(self, moments):
        for _ in range(moments):
            self.clock += 1
            for number, sender, receiver, body, comes in list(self.letters):
                for _ in range(comes.count(self.clock)):
                    self.come(number, sender, receiver, body)
            for ask in self.asks:
                if ask["end"] is None and self.clock == ask["until"]:
                    self.end(ask, "broken", "late")
                elif ask["end"] is None and self.clock == ask["tried"] + self.plan[4][1]:
                    self.try_question(ask)

    def name_rows(self, door):
        last = {}
        for place, name, house, age, at in self.named:
            if place == door and (name not in last or at >= last[name][2]):
                last[name] = (house, age, at)
        return tuple([(name, *last[name]) for name in sorted(last)])

    def set_now(self, word, unset):
        """The pairs that rows of the one word have set, and none of the other has taken since."""
        found = set()
        for row in self.rows:
            if row[0] == word:
                found.add(row[2:])
            if row[0] == unset:
                found.discard(row[2:])
        return found

    def stands(self, house, page):
        found = [(1, text, age) for place, name, text, age in self.plan[3] if (place, name) == (house, page)]
        for row in self.rows:
            if row[0] == "write" and row[2:4] == (house, page):
                found.append((row[4], row[5], found[0][2]))
        return found[-1] if found else None

    def leads(self, name):
        found = [(house, age) for word, house, age in self.plan[2] if word == name]
        found += [(row[3], found[0][1]) for row in self.rows if row[0] == "lead" and row[2] == name]
        return found[-1] if found else None

    def send(self, sender, receiver, body):
        number = len(self.letters)
        self.row("sent", number, sender, receiver, body)
        ways = all_ways(self.plan, sender, receiver, self.set_now("cut", "mend"))
        fate = dict(self.weather).get(number)
        comes = []
        if not ways:
            self.row("gone", number, "no way")
        elif fate == ("lost",):
            self.row("gone", number, "lost")
        else:
            comes = [self.clock + min([long_of(self.plan, way) for way in ways])]
            if fate is not None and fate[0] == "late":
                comes = [comes[0] + fate[1]]
            if fate is not None and fate[0] == "twice":
                comes = [comes[0], comes[0] + fate[1]]
        self.letters.append([number, sender, receiver, body, comes])

    def come(self, number, sender, receiver, body):
        if tuple(sorted([sender, receiver])) in self.set_now("bar", "free"):
            self.row("gone", number, "barred")
            return
        role = self.plan[0][receiver]
        if role != "door":
            self.row("came", number, body)
            self.send(receiver, sender, self.book_answer(body) if role == "book" else self.house_answer(receiver, body))
            return
        key = self.doors[receiver].back(body[1], self.clock)
        if key is None:
            self.row("gone", number, "nobody")
        elif self.asks[key]["end"] is not None or body[2] != (key, self.asks[key]["count"]):
            self.row("gone", number, "strange")
        else:
            self.row("came", number, body)
            self.hear(self.asks[key], body)

    def book_answer(self, body):
        told = self.leads(body[3])
        if told is None:
            return ("unnamed",) + body[1:4] + (self.clock,)
        return ("named",) + body[1:4] + told + (self.clock,)

    def house_answer(self, house, body):
        word, number, mark, page, wanted = body
        if self.stands(house, page) is None:
            return "none", number, mark, page, self.clock
        version, text, age = self.stands(house, page)
        if word == "same" and wanted == version:
            return "same", number, mark, page, version, age, self.clock
        size = self.plan[4][0]
        pieces = []
        while text or not pieces:
            pieces.append(text[:size])
            text = text[size:]
        k = wanted if word == "piece" and wanted < len(pieces) else 0
        return "piece", number, mark, page, version, len(pieces), k, pieces[k], age, self.clock

    def kept_name(self, door, name):
        """(house, at) of what was told last of the name, where it is good."""
        for word, house, age, at in self.name_rows(door):
            if word == name and self.clock - at <= age:
                return house, at
        return None

    def go_on(self, ask):
        ask["pull"] = None
        kept = self.kept_name(ask["door"], ask["name"])
        if kept is None:
            self.new_question(ask, self.plan[0].index("book"), "who", ask["name"])
            return
        ask["house"], named = kept
        entry = self.keeps[ask["door"]].get((ask["house"], ask["page"]), self.clock)
        if entry is None:
            self.new_question(ask, ask["house"], "piece", ask["page"], 0)
        elif self.clock - entry[3] <= entry[2] and self.clock - entry[3] <= ask["age"]:
            self.end(ask, "read", ask["house"], entry[0], entry[1], named, entry[3])
        else:
            self.new_question(ask, ask["house"], "same", ask["page"], entry[0])

    def new_question(self, ask, place, word, *told):
        ask["question"] = (place, word, told)
        ask["count"] += 1
        self.try_question(ask)

    def try_question(self, ask):
        ask["tried"] = self.clock
        number = self.doors[ask["door"]].out(ask["number"], self.clock)
        place, word, told = ask["question"]
        if number is None:
            self.row("full", ask["number"])
        else:
            self.send(ask["door"], place, (word, number, (ask["number"], ask["count"])) + told)

    def hear(self, ask, body):
        word, told = body[0], body[3:]
        keep = self.keeps[ask["door"]]
        if word == "unnamed":
            self.end(ask, "broken", "no name")
        elif word == "none":
            self.end(ask, "broken", "no page")
        elif word == "named":
            self.named.append((ask["door"],) + told)
            self.go_on(ask)
        elif word == "same":
            keep.again((ask["house"], ask["page"]), told[1], told[2], told[3], self.clock)
            self.go_on(ask)
        else:
            self.hear_piece(ask, told)

    def hear_piece(self, ask, told):
        page, version, many, k, text, age, at = told
        # A pull is the list of (version, text, at) that are there, one behind the other.
        pull = ask["pull"] or []
        if k == 0 and (not pull or pull[0][0] != version):
            pull = [(version, text, at)]
        elif pull and pull[0][0] == version and len(pull) == k:
            pull = pull + [(version, text, at)]
        else:
            pull = []
        ask["pull"] = pull
        if len(pull) < many:
            self.new_question(ask, ask["house"], "piece", page, len(pull))
            return
        entry = (version, "".join([row[1] for row in pull]), age, min([row[2] for row in pull]))
        self.keeps[ask["door"]].put((ask["house"], page), entry, self.clock)
        self.go_on(ask)

    def end(self, ask, word, *told):
        ask["end"] = (word, self.clock) + told
        self.row(word, ask["number"], *told)
