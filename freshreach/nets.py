"""The net: asks that go on by what their yards keep and by letters, and the log of all that happens."""

from freshreach.books import Book
from freshreach.errors import NoAsk, NoDoor, NoHouse, NoName, NoNumber, NoPage, NoPlace, NoRoad, TooMany
from freshreach.houses import House
from freshreach.kinds import is_within, is_word
from freshreach.letters import Post, pair_of
from freshreach.plans import check_plan, check_weather, is_age, is_door, is_house
from freshreach.pulls import Pull
from freshreach.yards import Ask, Yard

MOST_ASKS = 12
MOST_MOMENTS = 400
MOST_PATIENCE = 200


class Net:
    """Askers in yards, a book and houses, and the letters between them, moment by moment."""

    def __init__(self, plan, weather=()):
        check_plan(plan)
        check_weather(weather)
        roles, roads, names, pages, bounds = plan
        size, wait, rest, numbers, room = bounds
        self.plan = plan
        self.weather = weather
        self.wait = wait
        self.moment = 0
        self.happened = []
        self.asks = []
        self.post = Post(plan, weather)
        self.book = Book(names)
        self.book_place = roles.index("book")
        self.yards = {}
        self.houses = {}
        for place, role in enumerate(roles):
            if role == "door":
                self.yards[place] = Yard(rest, numbers, room)
            if role == "house":
                self.houses[place] = House(pages_of(pages, place), size)

    def __eq__(self, other):
        return (
            isinstance(other, Net)
            and self.plan == other.plan
            and self.weather == other.weather
            and self.moment == other.moment
            and self.happened == other.happened
        )

    def ask(self, door, name, page, *, age, patience):
        """Begins an ask at the door, and tells its number."""
        check_door(door, self.plan[0])
        check_wish(name, page, age, patience, MOST_PATIENCE)
        number = len(self.asks)
        if number == MOST_ASKS:
            raise TooMany(MOST_ASKS + 1, MOST_ASKS)
        ask = Ask(number, door, name, page, age, self.moment + patience)
        self.asks.append(ask)
        self.note("ask", number, door, name, page, age, patience)
        self.go_on_with(ask)
        return number

    def write(self, house, page, text):
        """Puts another text in the place of the page's, and tells its version."""
        self.check_house(house)
        version = self.houses[house].write(page, text, self.moment)
        self.note("write", house, page, version, text)
        return version

    def lead(self, name, house):
        """Leads the name to the house from now on."""
        self.book.check_name(name)
        self.check_house(house)
        self.book.lead(name, house, self.moment)
        self.note("lead", name, house)

    def cut(self, one, other):
        """Cuts the road between the two places for all letters that are sent from now on."""
        pair = self.checked_road(one, other)
        self.post.cut(*pair)
        self.note("cut", *pair)

    def mend(self, one, other):
        """Makes the road between the two places whole for all letters that are sent from now on."""
        pair = self.checked_road(one, other)
        self.post.mend(*pair)
        self.note("mend", *pair)

    def bar(self, one, other):
        """Sets the rule that bars the two places: no letter comes from one to the other."""
        pair = self.checked_pair(one, other)
        self.post.bar(*pair)
        self.note("bar", *pair)

    def free(self, one, other):
        """Takes the rule that bars the two places."""
        pair = self.checked_pair(one, other)
        self.post.free(*pair)
        self.note("free", *pair)

    def on(self, moments):
        """Lets so many moments go by, one by one."""
        if not is_within(moments, 0, 100):
            raise NoNumber("how many moments go by was not handed in")
        if self.moment + moments > MOST_MOMENTS:
            raise TooMany(self.moment + moments, MOST_MOMENTS)
        self.go_to(self.moment + moments)

    def now(self):
        """The present moment."""
        return self.moment

    def answer(self, ask):
        """What the ask has read, or why it is broken; None until it has ended."""
        if not is_within(ask, 0, len(self.asks) - 1):
            raise NoAsk("there is no such ask")
        return self.asks[ask].ending

    def door_rows(self, door):
        """All (number, key, last) of the numbers that are held at the door now."""
        return self.yard_of(door).numbering.rows(self.moment)

    def name_rows(self, door):
        """All (name, house, age, at) that are kept within the door."""
        return self.yard_of(door).names.rows()

    def keep_rows(self, door):
        """All (key, entry, used) that are kept within the door."""
        return self.yard_of(door).pages.rows()

    def log(self):
        """The rows of all that happened."""
        return list(self.happened)

    def twin(self):
        """A net as this one: what was done to this one is done to it, at the same moments."""
        net = Net(self.plan, self.weather)
        for row in self.happened:
            net.redo(row)
        net.go_to(self.moment)
        return net

    def unended(self):
        """The numbers of the asks that haven't ended."""
        return [ask.number for ask in self.asks if ask.ending is None]

    def redo(self, row):
        """Does at its moment what the row tells, where that is a deed; all else follows by itself."""
        word, moment, *told = row
        self.go_to(moment)
        if word == "ask":
            number, door, name, page, age, patience = told
            self.ask(door, name, page, age=age, patience=patience)
        elif word == "write":
            house, page, version, text = told
            self.write(house, page, text)
        elif word == "lead":
            self.lead(*told)
        elif word == "cut":
            self.cut(*told)
        elif word == "mend":
            self.mend(*told)
        elif word == "bar":
            self.bar(*told)
        elif word == "free":
            self.free(*told)

    def note(self, word, *told):
        self.happened.append((word, self.moment, *told))

    def go_to(self, moment):
        while self.moment < moment:
            self.moment += 1
            for letter, sender, receiver, body in self.post.arrived(self.moment):
                self.come(letter, sender, receiver, body)
            for ask in self.asks:
                if ask.ending is None:
                    self.look_at(ask)

    def look_at(self, ask):
        """Ends the ask where its patience is over, else sends its question again where its wait is."""
        if self.moment >= ask.ends:
            self.end_broken(ask, "late")
        elif self.moment >= ask.tried + self.wait:
            self.send_question(ask)

    def send(self, sender, receiver, body):
        letter, why = self.post.send(sender, receiver, body, self.moment)
        self.note("sent", letter, sender, receiver, body)
        if why is not None:
            self.note("gone", letter, why)

    def come(self, letter, sender, receiver, body):
        if self.post.is_barred(sender, receiver):
            self.note("gone", letter, "barred")
        elif receiver in self.yards:
            self.come_to_door(letter, receiver, body)
        else:
            self.note("came", letter, body)
            self.send(receiver, sender, self.reply(receiver, body))

    def come_to_door(self, letter, door, body):
        key = self.yards[door].numbering.back(body[1], self.moment)
        if key is None:
            self.note("gone", letter, "nobody")
            return
        ask = self.asks[key]
        if ask.ending is not None or body[2] != (ask.number, ask.count):
            self.note("gone", letter, "strange")
            return
        self.note("came", letter, body)
        self.take_answer(ask, body)

    def reply(self, place, body):
        """What the book, or the house at the place, answers to the question."""
        word, number, mark, *asked = body
        if place in self.houses:
            word, *answered = self.houses[place].answer((word, *asked), self.moment)
            return word, number, mark, *answered
        name = asked[0]
        leads = self.book.told(name, self.moment)
        if leads is None:
            return "unnamed", number, mark, name, self.moment
        return "named", number, mark, name, *leads, self.moment

    def go_on_with(self, ask):
        """Reads what the yard keeps where that is fresh enough, else begins the question that leads there."""
        ask.pull = None
        yard = self.yards[ask.door]
        kept = yard.names.get(ask.name, self.moment)
        if kept is None:
            self.begin_question(ask, self.book_place, "who", ask.name)
            return
        ask.house, named = kept
        entry = yard.pages.get((ask.house, ask.page), self.moment)
        if entry is None:
            ask.pull = Pull(ask.page)
            self.begin_question(ask, ask.house, "piece", ask.page, 0)
            return
        version, text, age, at = entry
        if self.moment - at <= min(age, ask.age):
            self.end_read(ask, version, text, named, at)
        else:
            self.begin_question(ask, ask.house, "same", ask.page, version)

    def begin_question(self, ask, place, word, *wanted):
        ask.place = place
        ask.word = word
        ask.wanted = wanted
        ask.count += 1
        self.send_question(ask)

    def send_question(self, ask):
        ask.tried = self.moment
        number = self.yards[ask.door].numbering.out(ask.number, self.moment)
        if number is None:
            self.note("full", ask.number)
            return
        self.send(ask.door, ask.place, (ask.word, number, (ask.number, ask.count), *ask.wanted))

    def take_answer(self, ask, body):
        word, number, mark, *told = body
        yard = self.yards[ask.door]
        if word == "unnamed":
            self.end_broken(ask, "no name")
        elif word == "none":
            self.end_broken(ask, "no page")
        elif word == "named":
            name, house, age, at = told
            yard.names.put(name, house, age, at)
            self.go_on_with(ask)
        elif word == "same":
            page, version, age, at = told
            yard.pages.again((ask.house, page), version, age, at, self.moment)
            self.go_on_with(ask)
        else:
            self.take_piece(ask, (word, *told))

    def take_piece(self, ask, piece):
        if ask.pull is None:
            ask.pull = Pull(ask.page)
        word, *told = ask.pull.take(piece)
        if word == "piece":
            self.begin_question(ask, ask.house, word, *told)
            return
        self.yards[ask.door].pages.put((ask.house, ask.page), tuple(told), self.moment)
        self.go_on_with(ask)

    def end_read(self, ask, version, text, named, at):
        ask.ending = ("read", self.moment, ask.house, version, text, named, at)
        self.note("read", ask.number, ask.house, version, text, named, at)

    def end_broken(self, ask, why):
        ask.ending = ("broken", self.moment, why)
        self.note("broken", ask.number, why)

    def yard_of(self, door):
        check_door(door, self.plan[0])
        return self.yards[door]

    def check_house(self, house):
        if not is_house(house, self.plan[0]):
            raise NoHouse("no house of the plan was handed in")

    def check_places(self, one, other):
        for place in (one, other):
            if not is_within(place, 0, len(self.plan[0]) - 1):
                raise NoPlace("no place of the plan was handed in")

    def checked_road(self, one, other):
        """The two places of a road of the plan, the lesser first."""
        self.check_places(one, other)
        pair = pair_of(one, other)
        if pair not in [road[:2] for road in self.plan[1]]:
            raise NoRoad("no road lies between these places")
        return pair

    def checked_pair(self, one, other):
        """Two unlike places, the lesser first."""
        self.check_places(one, other)
        if one == other:
            raise NoPlace("the same place was handed in twice")
        return pair_of(one, other)


def pages_of(pages, house):
    """The pages of the house, without it."""
    return tuple([row[1:] for row in pages if row[0] == house])


def check_door(door, roles):
    if not is_door(door, roles):
        raise NoDoor("no door of the plan was handed in")


def check_wish(name, page, age, patience, most):
    """Refuses what can't be asked for at any door, and a patience above most."""
    if not is_word(name):
        raise NoName("no word was handed in as a name")
    if not is_word(page):
        raise NoPage("no word was handed in as a page")
    if not is_age(age):
        raise NoNumber("no age was handed in")
    if not is_within(patience, 1, most):
        raise NoNumber("no patience was handed in")
