"""Who sees what over a net that loses: a server, its players' clients, and the letters and words between them.

A view is a dict: of each thing that is seen, by its number, its (column, row, look).
"""

HIGHEST_NUMBER = 99
MOST_THINGS = 20
MOST_PLAYERS = 4
MOST_TICKS = 59
MOST_LETTERS = 30

ABOVE_HIGHEST = -1
NONE_SUCH = -2
TOO_MANY = -5
NO_VIEW = -6

THING = 0
GONE = 1
PLAYER = 2
TICK = 3
ARRIVE = 4
LOSE = 5
WORD_ARRIVES = 6
WORD_LOST = 7
SEES = 8
HAS = 9
ON_THE_WAY = 10
WOULD = 11
STATE = 12

# At a call's number stands how many whole numbers follow it.
NUMBERS_OF_CALL = (5, 1, 2, 0, 1, 1, 1, 1, 1, 1, 0, 1, 0)


class Thing:
    def __init__(self, column, row, look, hidden):
        self.column = column
        self.row = row
        self.look = look
        self.hidden = hidden


def is_near(thing, other, far):
    return abs(thing.column - other.column) <= far and abs(thing.row - other.row) <= far


def view_of(things, own, far):
    view = {}
    # Without its own thing a player has no place to look from: it sees nothing.
    if own not in things:
        return view
    eye = things[own]
    for number in sorted(things):
        thing = things[number]
        if number == own or (thing.hidden == 0 and is_near(thing, eye, far)):
            view[number] = (thing.column, thing.row, thing.look)
    return view


def told_view(view):
    told = [len(view)]
    # A client's view has its things in the order in which letters brought them.
    for number in sorted(view):
        told.append(number)
        told.extend(view[number])
    return told


def put_between(first, second):
    put = {}
    for number in sorted(second):
        if first.get(number) != second[number]:
            put[number] = second[number]
    return put


def gone_between(first, second):
    return [number for number in sorted(first) if number not in second]


# A letter holds what changed and no whole view: its client must be told no more.
class Letter:
    def __init__(self, receiver, tick, since, before, now):
        self.receiver = receiver
        self.tick = tick
        self.since = since
        self.put = put_between(before, now)
        self.gone = gone_between(before, now)

    def size(self):
        return 4 * len(self.put) + len(self.gone)

    def put_to(self, view):
        changed = {}
        for number in view:
            if number not in self.gone:
                changed[number] = view[number]
        for number in self.put:
            changed[number] = self.put[number]
        return changed


# The client stands apart from the player, so that it can have only what letters brought it.
class Client:
    def __init__(self):
        self.views = {}

    def can_take(self, letter):
        if letter.since != 0 and letter.since not in self.views:
            return False
        for tick in self.views:
            if tick >= letter.tick:
                return False
        return True

    def take(self, letter):
        taken = letter.put_to(self.views.get(letter.since, {}))
        kept = {}
        for tick in self.views:
            if tick >= letter.since:
                kept[tick] = self.views[tick]
        kept[letter.tick] = taken
        self.views = kept


class Player:
    def __init__(self, own, far):
        self.own = own
        self.far = far
        self.known = 0
        # Tick 0 stands for nothing sent yet, so that a letter since 0 needs no case of its own.
        self.sent = {0: {}}
        self.client = Client()

    def sent_since_known(self):
        return len([tick for tick in self.sent if tick > self.known])


class Word:
    def __init__(self, sender, tick):
        self.sender = sender
        self.tick = tick


# Every method that stands for a call looks for its refusals before it changes anything: all is as it was then.
class Server:
    def __init__(self):
        self.things = {}
        self.players = []
        self.ticks = 0
        self.letters = []
        self.words = []

    def put_thing(self, number, thing):
        if max(number, thing.column, thing.row, thing.look) > HIGHEST_NUMBER:
            return [ABOVE_HIGHEST]
        if number not in self.things and len(self.things) >= MOST_THINGS:
            return [TOO_MANY]
        self.things[number] = thing
        return [len(self.things)]

    def take_thing_away(self, number):
        if number not in self.things:
            return [NONE_SUCH]
        self.things.pop(number)
        return [len(self.things)]

    def add_player(self, own, far):
        if max(own, far) > HIGHEST_NUMBER:
            return [ABOVE_HIGHEST]
        if len(self.players) >= MOST_PLAYERS:
            return [TOO_MANY]
        self.players.append(Player(own, far))
        return [len(self.players) - 1]

    def view_now(self, player):
        return view_of(self.things, player.own, player.far)

    def next_letter(self, receiver):
        player = self.players[receiver]
        before = player.sent[player.known]
        return Letter(receiver, self.ticks + 1, player.known, before, self.view_now(player))

    def run_tick(self):
        if self.ticks >= MOST_TICKS or len(self.letters) + len(self.players) > MOST_LETTERS:
            return [TOO_MANY]
        sizes = []
        for receiver, player in enumerate(self.players):
            letter = self.next_letter(receiver)
            player.sent[letter.tick] = self.view_now(player)
            self.letters.append(letter)
            sizes.append(letter.size())
        self.ticks += 1
        return [self.ticks, len(sizes)] + sizes

    def letter_arrives(self, place):
        if place >= len(self.letters):
            return [NONE_SUCH]
        letter = self.letters.pop(place)
        client = self.players[letter.receiver].client
        if not client.can_take(letter):
            return [letter.receiver, letter.tick, 0]
        client.take(letter)
        self.words.append(Word(letter.receiver, letter.tick))
        return [letter.receiver, letter.tick, 1]

    def letter_lost(self, place):
        if place >= len(self.letters):
            return [NONE_SUCH]
        self.letters.pop(place)
        return [len(self.letters)]

    def word_arrives(self, place):
        if place >= len(self.words):
            return [NONE_SUCH]
        word = self.words.pop(place)
        player = self.players[word.sender]
        player.known = max(player.known, word.tick)
        return [word.sender, player.known]

    def word_lost(self, place):
        if place >= len(self.words):
            return [NONE_SUCH]
        self.words.pop(place)
        return [len(self.words)]

    def sees(self, number):
        if number >= len(self.players):
            return [NONE_SUCH]
        return told_view(self.view_now(self.players[number]))

    def has(self, number):
        if number >= len(self.players):
            return [NONE_SUCH]
        views = self.players[number].client.views
        if len(views) == 0:
            return [NO_VIEW]
        newest = max(views)
        return [newest, len(views)] + told_view(views[newest])

    def on_the_way(self):
        told = [len(self.letters)]
        for letter in self.letters:
            told.extend([letter.receiver, letter.tick, letter.since, letter.size()])
        told.append(len(self.words))
        for word in self.words:
            told.extend([word.sender, word.tick])
        return told

    def would(self, number):
        if number >= len(self.players):
            return [NONE_SUCH]
        letter = self.next_letter(number)
        return [letter.tick, letter.since] + told_view(letter.put) + [len(letter.gone)] + letter.gone

    def state(self):
        told = [self.ticks + 1, len(self.things), len(self.players)]
        for player in self.players:
            told.extend([player.known, player.sent_since_known(), len(player.client.views)])
        return told


def answer_of_asking(server, call, numbers):
    if call == SEES:
        return server.sees(numbers[0])
    if call == HAS:
        return server.has(numbers[0])
    if call == ON_THE_WAY:
        return server.on_the_way()
    if call == WOULD:
        return server.would(numbers[0])
    return server.state()


def answer_of(server, call, numbers):
    if call == THING:
        return server.put_thing(numbers[0], Thing(numbers[1], numbers[2], numbers[3], numbers[4]))
    if call == GONE:
        return server.take_thing_away(numbers[0])
    if call == PLAYER:
        return server.add_player(numbers[0], numbers[1])
    if call == TICK:
        return server.run_tick()
    if call == ARRIVE:
        return server.letter_arrives(numbers[0])
    if call == LOSE:
        return server.letter_lost(numbers[0])
    if call == WORD_ARRIVES:
        return server.word_arrives(numbers[0])
    if call == WORD_LOST:
        return server.word_lost(numbers[0])
    return answer_of_asking(server, call, numbers)


def answers(calls):
    server = Server()
    answered = []
    at = 0
    while at < len(calls):
        call = calls[at]
        behind = at + 1 + NUMBERS_OF_CALL[call]
        answer = answer_of(server, call, calls[at + 1:behind])
        answered.append(len(answer))
        answered.extend(answer)
        at = behind
    return answered
