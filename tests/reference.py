"""The same answers as the program's, found in another way: slowly, by trying all there is."""

import itertools
import re

from seerings.cards import Card
from seerings.drawers import Drawer
from seerings.errors import InvalidCard


def look_up(row, rule, heading):
    """Return the place that is found in a row of headings, or None, and the places looked at."""
    if rule == "half":
        return by_halves(row, heading, range(len(row)))
    end = len(row)
    if heading in row:
        end = row.index(heading) + 1
    if rule == "leaf":
        greater = [place for place, there in enumerate(row) if there > heading]
        end = min([end, *[place + 1 for place in greater]])
    found = end - 1 if end and row[end - 1] == heading else None
    return found, tuple(range(end))


def by_halves(row, heading, places):
    if not places:
        return None, ()
    middle = (places[0] + places[-1]) // 2
    if row[middle] == heading:
        return middle, (middle,)
    if row[middle] > heading:
        found, looks = by_halves(row, heading, range(places[0], middle))
    else:
        found, looks = by_halves(row, heading, range(middle + 1, places[-1] + 1))
    return found, (middle, *looks)


def out_of_order(row):
    for many in range(len(row) + 1):
        for places in itertools.combinations(range(len(row)), many):
            left = [heading for place, heading in enumerate(row) if place not in places]
            if left == sorted(left):
                return places


def fewest_moves(drawer, rule, most):
    many = len(drawer)
    moves = [(place, other) for place in range(many) for other in range(many) if place != other]
    for number in range(most + 1):
        for row in itertools.product(moves, repeat=number):
            later = drawer
            for place, other in row:
                later = later.moved(place, other)
            headings = [card.heading for card in later.cards]
            if all(look_up(headings, rule, heading)[0] is not None for heading in headings):
                return list(row)
    return None


def walk(drawer, rule, heading, before=()):
    """Return the word, the places, the looks and the headings of a walk."""
    if heading in before:
        return "ring", (), 0, ()
    place, looks = look_up([card.heading for card in drawer.cards], rule, heading)
    if place is None:
        return "lost", (), len(looks), (heading,)
    if not drawer[place].see:
        return "entry", (place,), len(looks), (heading,)
    word, places, more, headings = walk(drawer, rule, drawer[place].see, (*before, heading))
    return word, (place, *places), len(looks) + more, (heading, *headings)


def known(drawer):
    return sorted({word for card in drawer.cards for word in (card.heading, card.see, *card.also) if word})


def landings(drawer, rule):
    ends = {}
    for heading in known(drawer):
        word, places, _, _ = walk(drawer, rule, heading)
        ends[heading] = (word, places[-1] if word == "entry" else None)
    return ends


def see_rings(drawer, rule):
    """Return all rings: of rows of headings, those that each of their walks goes round."""
    rings = []
    for heading in known(drawer):
        ring = walk(drawer, rule, heading)[3]
        walks = [walk(drawer, rule, member) for member in ring]
        if heading == min(ring) and all(told[0] == "ring" and set(told[3]) == set(ring) for told in walks):
            rings.append(ring)
    return sorted(rings)


def gather(drawer, rule, way, heading, patience):
    agenda, walked, places = (heading,), (), ()
    while agenda and len(walked) < patience:
        heading, *rest = agenda
        agenda = tuple(rest)
        if heading in walked:
            continue
        walked = (*walked, heading)
        word, found, _, _ = walk(drawer, rule, heading)
        if word != "entry" or found[-1] in places:
            continue
        places = (*places, found[-1])
        also = drawer[found[-1]].also
        agenda = {"broad": (*agenda, *also), "deep": (*also, *agenda), "straight": also}[way]
    books = {book for place in places for book in drawer[place].books}
    return tuple(sorted(books)), places, len(walked)


def reach(drawer, rule, heading):
    return gather(drawer, rule, "broad", heading, 99)[0]


def least_patience(drawer, rule, way, heading, book):
    for patience in range(1, 100):
        if book in gather(drawer, rule, way, heading, patience)[0]:
            return patience
    return None


def fewest_headings(drawer, rule):
    headings = sorted({card.heading for card in drawer.cards})
    books = {book for heading in headings for book in reach(drawer, rule, heading)}
    for many in range(len(headings) + 1):
        for chosen in itertools.combinations(headings, many):
            if {book for heading in chosen for book in reach(drawer, rule, heading)} == books:
                return chosen


def leads_to(drawer, rule, place):
    walks = [walk(drawer, rule, heading) for heading in drawer[place].also]
    return sorted({places[-1] for word, places, _, _ in walks if word == "entry"})


def also_rings(drawer, rule):
    many = range(len(drawer))
    leads = {(one, other) for one in many for other in leads_to(drawer, rule, one)}
    for through, one, other in itertools.product(many, repeat=3):
        if (one, through) in leads and (through, other) in leads:
            leads.add((one, other))
    rings = []
    for size in range(len(drawer), 1, -1):
        for ring in itertools.combinations(many, size):
            if all(pair in leads for pair in itertools.permutations(ring, 2)):
                if not any(set(ring) < set(greater) for greater in rings):
                    rings.append(ring)
    return sorted(rings)


def books_of(drawer):
    return {book for card in drawer.cards for book in card.books}


def added(drawer, place, heading):
    """Return the drawer in which a heading was put behind the also of a card, None if there is no such."""
    cards = list(drawer.cards)
    card = cards[place]
    if card.see:
        return None
    try:
        cards[place] = Card(card.heading, card.books, card.see, (*card.also, heading))
    except InvalidCard:
        return None
    return Drawer(tuple(cards))


def mend(drawer, rule, headings, most):
    """Try all lists of additions, in order."""
    additions = list(itertools.product(range(len(drawer)), drawer.headings))
    for many in range(most + 1):
        for chosen in itertools.product(additions, repeat=many):
            later = drawer
            for place, heading in chosen:
                later = None if later is None else added(later, place, heading)
            if later is not None and all(set(reach(later, rule, heading)) == books_of(drawer) for heading in headings):
                return list(chosen)
    return None


def losses(drawer, least, most):
    """Return all losses of so many cards, shorter ones first, with what is left."""
    sizes = range(least, most + 1)
    places = [lost for size in sizes for lost in itertools.combinations(range(len(drawer)), size)]
    cards = drawer.cards
    return {lost: Drawer(tuple(cards[at] for at in range(len(cards)) if at not in lost)) for lost in places}


def cuts(drawer, rule, heading, book):
    if book not in reach(drawer, rule, heading):
        return []
    return [lost[0] for lost, left in losses(drawer, 1, 1).items() if book not in reach(left, rule, heading)]


def least_loss(drawer, rule, heading, book):
    for lost, left in losses(drawer, 0, len(drawer)).items():
        if book not in reach(left, rule, heading):
            return lost


def safe_books(drawer, rule, heading, count):
    count = min(count, len(drawer))
    reaches = [set(reach(left, rule, heading)) for left in losses(drawer, count, count).values()]
    return tuple(sorted(set.intersection(*reaches)))


def possible_losses(drawer, rule, log, most):
    told = []
    for lost, left in losses(drawer, 0, most).items():
        if all(reach(left, rule, heading) == books for heading, books in log):
            told.append(lost)
    return told


def next_heading(drawer, rule, log, most):
    told = possible_losses(drawer, rule, log, most)
    worst = {}
    for heading in drawer.headings:
        reaches = [reach(drawer.without(lost), rule, heading) for lost in told]
        worst[heading] = max((reaches.count(books) for books in reaches), default=0)
    if not told or not worst:
        return None
    return [heading for heading in worst if worst[heading] == min(worst.values())][0]


def difference(drawer, one, other):
    ends, others = landings(drawer, one), landings(drawer, other)
    return next((heading for heading in ends if ends[heading] != others[heading]), None)


def possible_rules(drawer, counts):
    told = []
    for rule in ("all", "half", "leaf"):
        if [walk(drawer, rule, heading)[2] for heading, _ in counts] == [looks for _, looks in counts]:
            told.append(rule)
    return told


def card_at_end(drawer, rule, heading):
    word, places, _, _ = walk(drawer, rule, heading)
    return drawer[places[-1]] if word == "entry" else None


def still_found(one, other, rule):
    both = Drawer((*one.cards, *other.cards))
    ends = {heading: (card_at_end(one, rule, heading), card_at_end(both, rule, heading)) for heading in known(one)}
    return [heading for heading, (first, second) in ends.items() if first is not None and first == second]


def card_behind_split(drawer, rule, border, heading, before=()):
    """Return the entry card that a searcher comes to who asks in one of two parts each time."""
    if heading in before:
        return None
    cards = [card for card in drawer.cards if (card.heading < border) == (heading < border)]
    place, _ = look_up([card.heading for card in cards], rule, heading)
    if place is None or not cards[place].see:
        return None if place is None else cards[place]
    return card_behind_split(drawer, rule, border, cards[place].see, (*before, heading))


def lost_by_split(drawer, rule, border):
    lost = []
    for heading in known(drawer):
        card = card_at_end(drawer, rule, heading)
        if card is not None and card_behind_split(drawer, rule, border, heading) != card:
            lost.append(heading)
    return lost


def best_split(drawer, rule):
    best = None
    for border in drawer.headings:
        if any(card.heading < border for card in drawer.cards):
            lost = len(lost_by_split(drawer, rule, border))
            if best is None or lost < best[0]:
                best = (lost, border)
    return best and best[1]


def possible_orders(drawer, rule, tally, most):
    headings = sorted(card.heading for card in drawer.cards)
    steps = list(itertools.product(range(len(headings)), repeat=2))
    orders = set()
    for many in range(most + 1):
        for moves in itertools.product(steps, repeat=many):
            order = list(range(len(headings)))
            for place, other in moves:
                order.insert(other, order.pop(place))
            orders.add(tuple(order))
    told = []
    for order in sorted(orders):
        row = [headings[place] for place in order]
        if all(len(look_up(row, rule, heading)[1]) == looks for heading, looks in tally):
            told.append(order)
    return told


def used(drawer, rule, requests):
    """Return the places that the cards had, as they lie in the end, the looks, and the fronts behind each request."""
    cards = list(enumerate(drawer.cards))
    total = 0
    fronts = []
    for heading in requests:
        place, looks = look_up([card.heading for _, card in cards], rule, heading)
        total += len(looks)
        if place is not None:
            cards.insert(0, cards.pop(place))
        fronts.append(cards[0][0] if cards else None)
    return tuple(place for place, _ in cards), total, fronts


def first_in_front(drawer, rule, requests, place, rounds):
    """Look for a card in front in so many rounds."""
    if place == 0:
        return 0, -1
    fronts = used(drawer, rule, requests * rounds)[2]
    if place not in fronts:
        return None
    return divmod(fronts.index(place), len(requests))


def cost(row, rule, requests):
    return sum(len(look_up(row, rule, heading)[1]) for heading in requests)


def best_order(drawer, requests):
    orders = itertools.permutations(range(len(drawer)))
    return min((cost([drawer[place].heading for place in order], "all", requests), order) for order in orders)


def turns_of(rows):
    """Return all turns that several searchers can take."""
    indexes = [index for index, row in enumerate(rows) for _ in row]
    return sorted(set(itertools.permutations(indexes)))


def shared(drawer, rule, rows):
    """Return a dict from all turns to tuples of the looks, and of the place of the card in front at the end."""
    told = {}
    for turns in turns_of(rows):
        left = [list(row) for row in rows]
        order, looks, _ = used(drawer, rule, [left[index].pop(0) for index in turns])
        told[turns] = (looks, order[0] if order else None)
    return told


def worn(drawer, rule, requests, strength, most):
    """Make at most so many requests; tell of each one whether it found a card, and which cards fell out."""
    cards = [[place, card.heading, 0] for place, card in enumerate(drawer.cards)]
    told = []
    while requests and len(told) < most:
        found, looks = look_up([heading for _, heading, _ in cards], rule, requests[len(told) % len(requests)])
        for place in looks:
            cards[place][2] += 1
        told.append((found is not None, [place for place, _, seen in cards if seen == strength]))
        cards = [card for card in cards if card[2] < strength]
    return told


def served(drawer, rule, requests, strength):
    # Each request that finds a card wears one.
    told = worn(drawer, rule, requests, strength, len(drawer) * strength + 1)
    return [found for found, _ in told].index(False) if requests else None


def first_fallen(drawer, rule, requests, strength):
    told = worn(drawer, rule, requests, strength, strength * len(requests))
    for index, (_, fallen) in enumerate(told):
        if fallen:
            return index + 1, fallen
    return None


def desk_after(drawer, rule, operations):
    """Return the cards, the looks, what is kept, and the results of operations that were made on a drawer."""
    cards, total, kept, results = list(enumerate(drawer.cards)), 0, {}, []
    for number, (name, *told) in enumerate(operations):
        if name == "put":
            cards.insert(told[1], (-1 - number, told[0]))
            results.append(len(cards))
        elif name == "take":
            results.append(cards.pop(told[0])[1].heading)
        elif name == "shift":
            cards.insert(told[1], cards.pop(told[0]))
            headings = [card.heading for _, card in cards]
            results.append(headings == sorted(headings))
        elif name == "use":
            place, looks = look_up([card.heading for _, card in cards], rule, told[0])
            total += len(looks)
            results.append(len(looks))
            if place is not None:
                cards.insert(0, cards.pop(place))
        elif name == "file_all":
            before = list(cards)
            cards.sort(key=lambda pair: pair[1].heading)
            results.append(sum(pair[0] != other[0] for pair, other in zip(before, cards)))
        elif name == "keep_as":
            results.append(told[0] in kept)
            kept[told[0]] = (list(cards), total)
        elif name == "fetch":
            cards, total = list(kept[told[0]][0]), kept[told[0]][1]
            results.append(len(cards))
    return tuple(card for _, card in cards), total, sorted(kept), results


class Watch:
    """An observer that goes through all pairs each time."""

    def __init__(self, drawer, rules, headings):
        row = [card.heading for card in drawer.cards]
        self.all = {(rule, heading): look_up(row, rule, heading) for rule in rules for heading in headings}
        self.seen = ()
        self.closed = False

    def left(self, seen, closed):
        told = {}
        for pair, (found, looks) in self.all.items():
            if looks == seen if closed else looks[:len(seen)] == seen:
                told[pair] = (found, looks)
        return told

    def told(self):
        """Return the pairs, the next places, the places that could be found, and the most looks."""
        left = self.left(self.seen, self.closed)
        further = sorted({looks[len(self.seen)] for _, looks in left.values() if looks != self.seen})
        found = sorted({found for found, _ in left.values()} - {None})
        return tuple(left), further, found, max(len(looks) for _, looks in left.values()) - len(self.seen)


def table(drawer, rule):
    rows = []
    for heading in known(drawer):
        word, places, _, _ = walk(drawer, rule, heading)
        rows.append(heading + ": " + (">".join(map(str, places)) or "-") + " " + word)
    return "\n".join(rows)


WORD = "[a-z]{1,8}"
BOOK = "[1-9][0-9]{0,2}"
# A row of words that can be gone on with, and one that is complete.
BEGUN = re.compile(f"see( {WORD}){{0,2}}|card( {WORD}(?P<books>( {BOOK})*)( also( {WORD})*)?)?", re.ASCII)
COMPLETE = re.compile(f"see {WORD} {WORD}|card {WORD}( {BOOK})*( also( {WORD})+)?", re.ASCII)


def wrong_word(text):
    """Return the row and word that are wrong in a text of cards, or None."""
    for row, line in enumerate(text.split("\n") if text else []):
        words = line.split(" ")
        for many in range(1, len(words) + 1):
            begun = BEGUN.fullmatch(" ".join(words[:many]))
            books = [int(book) for book in begun["books"].split()] if begun and begun["books"] else []
            if not begun or books != sorted(set(books)):
                return row, many - 1
        if not COMPLETE.fullmatch(line):
            return row, len(words)
    return None


class Stopped(Exception):
    """A script that is executed comes to its end by an error."""


class Script:
    """A script of rows that are right, executed step by step; the drawer is a list of cards."""

    def __init__(self, drawer, text):
        self.cards = list(drawer.cards)
        self.rows = [row.split(" ") for row in text.split("\n")] if text else []
        self.output = []
        self.steps = 0

    def step(self):
        self.steps += 1
        if self.steps > 300:
            raise Stopped("long")

    def end_of(self, at):
        depth = 0
        while True:
            depth += {"repeat": 1, "when": 1, "end": -1}.get(self.rows[at][0], 0)
            if depth == 0:
                return at
            at += 1

    def run(self, at, end):
        while at < end:
            self.step()
            word, *told = self.rows[at]
            if word in ("repeat", "when"):
                behind = self.end_of(at)
                times = int(told[0]) if word == "repeat" else self.ending(*told[:2]) == told[2]
                for _ in range(times):
                    if word == "repeat":
                        self.step()
                    self.run(at + 1, behind)
                at = behind + 1
            else:
                if not self.made(word, told):
                    raise Stopped(at)
                at += 1

    def ending(self, rule, heading):
        return walk(Drawer(tuple(self.cards)), rule, heading)[0]

    def made(self, word, told):
        """Execute a row that is no block; return whether this is possible."""
        many = len(self.cards)
        if word in ("put", "take", "shift"):
            place = int(told[0])
            if word == "put":
                return place <= many < 16 and self.put(place, told[1:])
            if place >= many or (word == "shift" and int(told[1]) >= many):
                return False
            card = self.cards.pop(place)
            if word == "shift":
                self.cards.insert(int(told[1]), card)
        elif word == "file":
            self.cards.sort(key=lambda card: card.heading)
        elif word == "use":
            place, looks = look_up([card.heading for card in self.cards], *told)
            self.output.append(str(len(looks)))
            if place is not None:
                self.cards.insert(0, self.cards.pop(place))
        else:
            self.output.append(self.ending(*told))
        return True

    def put(self, place, words):
        numbers = tuple(int(word) for word in words if word.isdigit())
        also = tuple(words[words.index("also", 2) + 1:]) if "also" in words[2:] else ()
        try:
            card = Card(words[1], see=words[2]) if words[0] == "see" else Card(words[1], numbers, "", also)
        except InvalidCard:
            return False
        self.cards.insert(place, card)
        return True
