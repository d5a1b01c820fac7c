"""Whether a line that's begun can be finished by words that are not used yet.

Many beginnings lead to one knot. What is found there is kept as a note, which
answers for most of them at once: by which words the line can be finished,
whatever others are used; or for want of which it can't, whatever others are
there still. So it's not gone through once more for every choice of words that
leads to it.
"""

from versefeet.bits import choices_of, highest, lowest, single_bits

# No bound: more than any row has words, and more than any line has bytes.
ANY = 1000

# So many notes are kept at most; then all are forgotten, and made anew as they
# are asked for. That bounds what is kept, and changes nothing of what is found.
NOTES_MOST = 300000

# So many lacks of a knot are looked through at most. Where there are more, all
# choices of the used words are, of which a row that isn't full has about as
# many at most.
LACKS_MOST = 2000


# A finish: by these words, as many as rest tells, which cost as much as room
# tells, a line can be finished. A lack: it can't where these words are used,
# no more than rest may follow and no more than room is left.
class Note:
    def __init__(self, is_finish, words, rest, room):
        self.is_finish = is_finish
        self.words = words
        self.rest = rest
        self.room = room


# Words that lead from a knot to the same knots, at the same cost; sorts: the
# words of each sort.
class Group:
    def __init__(self, cost, followers):
        self.cost = cost
        self.followers = followers
        self.sorts = []
        self.words = 0

    def add_sort(self, words):
        self.sorts.append(words)
        self.words |= words


# One place where a line may be ahead of its last syllable, and the weight
# behind that syllable's vowel; mode: 0 where the line ends or goes on with no
# vowel, 1 where it goes on with one; fewest: how many words it takes at least
# to finish the line.
class Knot:
    def __init__(self, mode, state, fewest):
        self.mode = mode
        self.state = state
        self.fewest = fewest
        self.groups = None
        self.finishes = []
        self.lacks = {}

    def known_finish(self, rest, used, room):
        for note in reversed(self.finishes):
            if note.words & used == 0 and note.rest <= rest and note.room <= room:
                return note
        return None

    def known_lack(self, rest, used, room):
        sought = choices_of(used) if len(self.lacks) > LACKS_MOST else self.lacks
        for words in sought:
            if words & used == words:
                for note in self.lacks.get(words, ()):
                    if rest <= note.rest and room <= note.room:
                        return note
        return None

    def keep_note(self, note):
        if note.is_finish:
            self.finishes.append(note)
        else:
            self.lacks.setdefault(note.words, []).append(note)

    def forget_notes(self):
        self.finishes = []
        self.lacks = {}


# Where nothing leads on, nothing helps. Joined to others it leaves them as they are.
def plain_lack():
    return Note(False, 0, ANY, ANY)


def joined_lack(one, other):
    return Note(False, one.words | other.words, min(one.rest, other.rest), min(one.room, other.room))


# The lack as it is ahead of the word, which is then not used yet.
def lack_ahead(lack, word, cost):
    return Note(False, lack.words & ~word, lack.rest + 1, lack.room + cost)


def finish_ahead(finish, word, cost):
    return Note(True, finish.words | word, finish.rest + 1, finish.room + cost)


class Finisher:
    def __init__(self, places, sorts, outlook):
        self.places = places
        self.sorts = sorts
        self.views = outlook.views
        self.knots = {}
        self.kept = 0

    # states: the first where the line ends or goes on with no vowel, the
    # second where it goes on with one.
    def can_finish(self, states, rest, used, room):
        for knot in self.knots_in(self.hopeful(states)):
            if self.note_at(knot, rest, used, room).is_finish:
                return True
        return False

    # The states without the places from where no line can be finished, and
    # with one place alone of those that are alike.
    def hopeful(self, states):
        left = []
        for state, finishing in zip(states, self.views[-1]):
            places = self.first_twins(state[1] & finishing[state[0]])
            left.append((state[0], places) if places else (0, 0))
        return (left[0], left[1])

    def first_twins(self, places):
        firsts = 0
        for place in single_bits(places):
            firsts |= self.places.twins[place]
        return firsts

    def knots_in(self, states):
        knots = []
        for mode, state in enumerate(states):
            knots.extend([self.knot_at(mode, (state[0], place)) for place in single_bits(state[1])])
        return knots

    def knot_at(self, mode, state):
        key = (mode, state)
        if key not in self.knots:
            seen = [rest for rest, view in enumerate(self.views) if view[mode][state[0]] & state[1]]
            self.knots[key] = Knot(mode, state, seen[0])
        return self.knots[key]

    def note_at(self, knot, rest, used, room):
        if room < 0:
            return Note(False, 0, ANY, -1)
        if knot.fewest == 0:
            return Note(True, 0, 0, 0)
        if rest < knot.fewest:
            return Note(False, 0, knot.fewest - 1, ANY)
        note = knot.known_finish(rest, used, room)
        if note is None:
            note = knot.known_lack(rest, used, room)
        if note is None:
            note = self.search(knot, rest, used, room)
            self.keep(knot, note)
        return note

    def keep(self, knot, note):
        if self.kept >= NOTES_MOST:
            self.kept = 0
            for other in self.knots.values():
                other.forget_notes()
        self.kept += 1
        knot.keep_note(note)

    def search(self, knot, rest, used, room):
        lack = plain_lack()
        for group in self.groups_at(knot):
            for follower in group.followers:
                note = self.search_group(group, follower, rest, used, room)
                if note.is_finish:
                    return note
                lack = joined_lack(lack, note)
        return lack

    # At first as if the word that is taken were still there behind itself: that
    # mostly settles it, for all words of the group.
    def search_group(self, group, follower, rest, used, room):
        note = self.note_at(follower, rest - 1, used, room - group.cost)
        if not note.is_finish:
            return lack_ahead(note, 0, group.cost)
        free = group.words & ~(note.words | used)
        if free:
            return finish_ahead(note, highest(free), group.cost)
        return self.search_sorts(group, follower, rest, used, room)

    def search_sorts(self, group, follower, rest, used, room):
        lack = plain_lack()
        for words in group.sorts:
            word = lowest(words & ~used)
            if word == 0:
                lack = joined_lack(lack, Note(False, words, ANY, ANY))
                continue
            note = self.note_at(follower, rest - 1, used | word, room - group.cost)
            if note.is_finish:
                return finish_ahead(note, highest(words & ~note.words), group.cost)
            lack = joined_lack(lack, lack_ahead(note, word, group.cost))
        return lack

    def groups_at(self, knot):
        if knot.groups is None:
            knot.groups = self.make_groups(knot)
        return knot.groups

    def make_groups(self, knot):
        groups = {}
        for sort in self.sorts:
            if sort.vowel_first == knot.mode:
                states = self.hopeful([self.places.after_shape(knot.state, shape) for shape in sort.shapes])
                key = (sort.cost, states)
                if key not in groups:
                    groups[key] = Group(sort.cost, self.knots_in(states))
                groups[key].add_sort(sort.words)
        return [group for group in groups.values() if group.followers]
