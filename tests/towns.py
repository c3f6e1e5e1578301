"""Several towns at which deeds are done, which fall and rise, and to which letters come late, twice, never."""
from samples import HANDS, RULE, refusal
from strangerbench.bookchecker import lets_book
from strangerbench.bounding import bound_of
from strangerbench.chests import first_chest, risen_chest, saved_of
from strangerbench.errors import BenchError, LackError
from strangerbench.giving import given_to, letter_of
from strangerbench.handpairs import pairs_of
from strangerbench.holdings import is_mine, row_of
from strangerbench.letterkinds import is_chest, is_letter
from strangerbench.letterscome import came
from strangerbench.letting import lacks
from strangerbench.matterkinds import VERDICTS
from strangerbench.notes import note_of
from strangerbench.paths import path_voices, root_of
from strangerbench.sway import most_of
from strangerbench.townacts import acted
from strangerbench.townlooks import held_twice, mine_at
from strangerbench.townrows import done

TOWNS = RULE[0]
PAIRS = pairs_of(HANDS)


def act_of(deed):
    """The act that comes to the deed; None of a note, which is read by its name."""
    if deed[0] == "note":
        return None
    return deed[:1] + deed[2:] if deed[0] in ("open", "seat") else deed


class Towns:
    """What the towns have, all letters, and what was ever so, forgotten or not."""

    def __init__(self, case, chance):
        self.case = case
        self.chance = chance
        self.day = 0
        self.chests = {town: first_chest(RULE, town) for town in TOWNS}
        self.saved = {town: [saved_of(self.chests[town])] for town in TOWNS}
        self.rises = {town: 0 for town in TOWNS}
        self.mail = []
        self.burnings = set()
        self.table = set()
        self.told_voices = {}
        self.last_given = {}
        self.words = {}

    def is_wary(self, town):
        return self.chests[town][2] is not None

    def count(self, word):
        self.words[word] = self.words.get(word, 0) + 1

    def do(self, town, deed):
        """Does the deed, where it is not refused."""
        act = act_of(deed)
        if self.is_wary(town) and deed[0] in ("open", "seat", "note"):
            if act is not None:
                told = refusal(acted, RULE, self.chests[town], act, day=self.day)
                self.case.assertEqual(told, ("NoDeed", "wary"))
            return
        book, *others = self.chests[town]
        try:
            behind, told = done(RULE, book, deed)
        except (BenchError, LackError) as refused:
            self.count(type(refused).__name__)
            if act is not None:
                self.case.assertEqual(refusal(acted, RULE, self.chests[town], act, day=self.day),
                                      refusal(done, RULE, book, deed))
            return
        self.count(deed[0])
        if act is not None:
            self.case.assertEqual(acted(RULE, self.chests[town], act, day=self.day), ((behind, *others), told, ()))
        self.put(town, (behind, *others))

    def give(self, town, pair, to):
        """Gives the right, where it may."""
        book, *others = self.chests[town]
        if self.is_wary(town) or not is_mine(book[2], town, pair):
            return
        rights, letter = given_to(book[2], town, pair, to, rise=book[1])
        behind = (book[:2] + (rights,) + book[3:], *others)
        told = acted(RULE, self.chests[town], ("give", pair, to), day=self.day)
        self.case.assertEqual(told, (behind, None, (letter,)))
        self.put(town, behind)
        self.last_given[pair] = letter
        self.send(letter)

    def send_again(self, town, pair):
        rights = self.chests[town][0][2]
        if self.is_wary(town) or row_of(rights, town, pair)[3] != town or row_of(rights, town, pair)[2] == town:
            return
        chest, _, letters = acted(RULE, self.chests[town], ("send", pair), day=self.day)
        self.case.assertEqual((chest, letters), (self.chests[town], (letter_of(rights, town, pair),)))
        self.send(letters[0])

    def send(self, letter):
        self.case.assertIs(is_letter(letter), True)
        self.mail.append(letter)

    def tell_note(self, town, name, to):
        chest, _, letters = acted(RULE, self.chests[town], ("note", name, to), day=self.day)
        self.case.assertEqual((chest, letters[0][3]), (self.chests[town], note_of(chest[0][3], name)))
        self.send(letters[0])

    def ask(self, town):
        if self.is_wary(town):
            for letter in acted(RULE, self.chests[town], ("ask",), day=self.day)[2]:
                self.send(letter)

    def come(self, letter):
        town = letter[2]
        behind, word, sent = came(RULE, self.chests[town], letter)
        self.count(word)
        self.put(town, behind)
        for one in sent:
            self.send(one)
        if word == "sure":
            self.case.assertIs(self.is_wary(town), False)

    def save(self, town):
        self.saved[town].append(saved_of(self.chests[town]))

    def fall(self, town, saved):
        self.rises[town] += 1
        self.put(town, risen_chest(RULE, saved, rise=self.rises[town], day=self.day))

    def put(self, town, chest):
        """The town has this chest now, in which all has to hold that holds of each one."""
        before, self.chests[town] = self.chests[town], chest
        if chest == before:
            return
        self.case.assertIs(is_chest(chest), True)
        book = chest[0]
        self.case.assertEqual(([told[1] for told in chest[1] if told[0] == town], book[1]),
                              ([self.rises[town]], self.rises[town]))
        if book[3:] != before[0][3:] or book[1] != before[0][1]:
            self.case.assertIs(lets_book(RULE, book), True)
            self.note_truth(book)

    def note_truth(self, book):
        self.burnings.update(book[4])
        matters = book[3]
        for matter in matters:
            name = matter[0]
            self.table.add((root_of(matters, name), path_voices(matters, name)))
            if matter[6] in VERDICTS:
                voices = note_of(matters, name)[1]
                self.case.assertEqual(self.told_voices.setdefault(name, voices), voices)

    def check_rights(self):
        """No right is at two towns, nor burnt twice within a span."""
        tells = tuple([(town, self.chests[town][0][2]) for town in TOWNS])
        wary = tuple([town for town in TOWNS if self.is_wary(town)])
        self.case.assertEqual(held_twice(tells, wary=wary), ())
        days = {}
        for pair, _, day in sorted(self.burnings, key=lambda burning: burning[2]):
            if pair in days:
                self.case.assertGreaterEqual(day, days[pair] + RULE[3])
            days[pair] = day

    def check_found(self):
        """Where nobody falls, a right that is at no town comes to where its last letter goes."""
        tells = tuple([(town, self.chests[town][0][2]) for town in TOWNS])
        for pair in PAIRS:
            towns = mine_at(tells, pair)
            self.case.assertLessEqual(len(towns), 1)
            if not towns:
                letter = self.last_given[pair]
                self.case.assertEqual(letter_of(self.chests[letter[1]][0][2], letter[1], pair), letter)
                self.case.assertEqual(came(RULE, self.chests[letter[2]], letter)[1], "taken")

    def check_sway(self):
        """No hands sway more than their bound."""
        burnings, table = tuple(sorted(self.burnings)), tuple(sorted(self.table))
        for root, voices in table:
            for pair in pairs_of(voices):
                self.case.assertTrue(any([one[:2] == (pair, root) for one in burnings]))
        for start in range(len(HANDS)):
            for end in range(start + 1, len(HANDS) + 1):
                hands = HANDS[start:end]
                self.case.assertLessEqual(most_of(RULE, table, burnings, hands)[0], bound_of(RULE, len(hands)))

    def check_kept_out(self, town, name, hand):
        """Who isn't let in is told a pair that isn't paid, and why."""
        book = self.chests[town][0]
        matter, = [one for one in book[3] if one[0] == name]
        if self.is_wary(town) or matter[6] is not None:
            return
        lack = lacks(RULE, book, name, (hand,), day=self.day)
        if lack is None:
            return
        pair, why = lack
        row = row_of(book[2], town, pair)
        self.case.assertNotIn((pair, root_of(book[3], name)), [burning[:2] for burning in book[4]])
        if is_mine(book[2], town, pair):
            self.case.assertEqual(why, row[5])
            self.case.assertGreater(why, self.day)
        else:
            self.case.assertEqual(why, row[2])
        if hand not in matter[2] and len(matter[2]) < RULE[1]:
            told = refusal(done, RULE, book, ("seat", self.day, name, hand))
            self.case.assertEqual(told, ("NoRight", pair, why))

    def some_step(self, falls):
        """One step, whichever; now and then a town falls, where falls may be."""
        chance = self.chance
        town = chance.choice(TOWNS)
        others = [other for other in TOWNS if other != town]
        kind = chance.randrange(34)
        self.day += chance.randrange(3) == 0
        if kind < 9 and self.mail:
            self.come(chance.choice(self.mail[-6:] + self.mail))
        elif kind < 12:
            self.give(town, chance.choice(PAIRS), chance.choice(others))
        elif kind == 12:
            self.send_again(town, chance.choice(PAIRS))
        elif kind == 13:
            self.save(town)
        elif kind == 14 and falls and chance.random() < 0.4:
            self.fall(town, chance.choice(self.saved[town] + [saved_of(self.chests[town])]))
        elif kind < 17:
            self.ask(town)
        else:
            self.some_deed(town, chance.choice(others))

    def some_deed(self, town, other):
        """One deed at a matter, most often at one that is open."""
        chance = self.chance
        matters = self.chests[town][0][3]
        ended = [matter[0] for matter in matters if matter[6] in VERDICTS]
        going = [matter for matter in matters if matter[6] is None]
        kind = chance.randrange(14)
        if kind == 0 or not going:
            hands = tuple(sorted(chance.sample(HANDS, chance.randrange(3))))
            self.do(town, ("open", self.day, chance.choice(ended + [None]), hands))
            return
        matter = chance.choice(going if chance.random() < 0.95 else matters)
        name, sitters = matter[0], matter[2]
        if kind == 1 and ended:
            self.tell_note(town, chance.choice(ended), other)
        elif kind < 4:
            notes = list(self.chests[town][3]) + [note_of(matters, one) for one in ended]
            if notes:
                self.do(town, ("note", self.day, name, chance.choice(notes)))
        elif kind < 8:
            hand = chance.choice(HANDS)
            self.check_kept_out(town, name, hand)
            self.do(town, ("seat", self.day, name, hand))
        elif kind < 12 and sitters:
            self.do(town, ("vote", name, chance.choice(sitters), chance.choice(("yes", "yes", "no"))))
        elif kind == 12:
            self.do(town, ("leave", name, chance.choice(HANDS)))
        elif chance.random() < 0.3:
            self.do(town, ("lay", name))
