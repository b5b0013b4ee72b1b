"""Point 13: reading."""

import itertools
import time
import unittest

from fewestpours.errands import is_errand
from fewestpours.errandtexts import errand_text, errand_tokens
from fewestpours.errors import InvalidText
from fewestpours.reading import completed, may_follow, read_errand
from fewestpours.tokens import tokens_of
from helpers import (
    WRONG_VALUES,
    all_in_tuples,
    all_partings,
    all_pours,
    drawn_errand,
    drawn_wish,
    nested,
    plain_wish,
    plainly_poured,
    rng_of,
    split,
)

SIGNS = ("rooms", "size", "block", "wish", "pour", "done", ";", ":", ",", "#x\n;", "a", "-", "00", "01", "\u00b2", "\u0663",
         "1_", "_1", "Done", "9" * 5000, "1e3", "+1", "+")


def tokens_that_may(candidates, tokens):
    """Those of the candidates behind which the tokens, then they, are completed."""
    text = " ".join(tokens)
    return tuple(sorted(token for token in candidates if completed(text + " " + token) is not None))


def blocks_may_end(b, done, slot):
    """Whether these blocks, the last one of them still open if slot is not None, can be those of a standing."""
    told = [record for block in done for record in block] + list(slot or ())
    missing = [record for record in range(max(told, default=-1)) if record not in told]
    if max(told, default=-1) > 1023 or len(set(told)) < len(told):
        return False
    if slot is not None:
        if len(slot) > b or list(slot) != sorted(slot):
            return False
        for _ in range(b - len(slot)):
            if missing and missing[-1] > max(slot, default=-1):
                missing.pop()
    return len(missing) <= (64 - len(done) - (slot is not None)) * b


class ReadingTest(unittest.TestCase):
    def assert_wrong(self, text, at):
        with self.assertRaises(InvalidText) as caught:
            read_errand(text)
        self.assertEqual(caught.exception.at, at, repr(text)[:200])

    def assert_completed(self, tokens):
        whole = completed(" ".join(tokens))
        self.assertIs(is_errand(whole), True, tokens)
        self.assertTrue(all_in_tuples(whole))
        self.assertEqual(errand_tokens(whole)[:len(tokens)], tuple(tokens))

    def test_each_errand_is_read_back(self):
        rng = rng_of(1)
        for _ in range(150):
            errand = drawn_errand(rng)
            self.assertEqual(read_errand(errand_text(errand)), errand)
            tokens = errand_tokens(errand)
            signs = [rng.choice((" ", "\n", " #x; done\n", "  ")) for _ in tokens]
            text = "#;\n" + "".join(token + sign for token, sign in zip(tokens, signs)) + "# done"
            self.assertEqual(read_errand(text), errand)
            self.assertTrue(all_in_tuples(read_errand(text)))
            self.assertEqual(completed(text), errand)
            self.assertEqual(may_follow(text), ())

    def test_no_text(self):
        for value in WRONG_VALUES + (nested(500), ["rooms"], b"rooms"):
            self.assert_wrong(value, 0)
        self.assert_wrong("", 0)
        self.assert_wrong("# rooms", 0)
        self.assertEqual(may_follow(""), ("rooms",))
        self.assert_completed(())

    def test_cut_off(self):
        rng = rng_of(2)
        for _ in range(40):
            tokens = errand_tokens(drawn_errand(rng))
            for many in range(len(tokens)):
                text = " ".join(tokens[:many])
                self.assert_wrong(text, many)
                options = may_follow(text)
                self.assertIn(tokens[many], options)
                self.assertEqual(list(options), sorted(set(options)))
                self.assertTrue(all_in_tuples(options))
                self.assert_completed(tokens[:many])
            self.assert_wrong(" ".join(tokens + (rng.choice(SIGNS[:10] + tokens),)), len(tokens))

    def test_left_out_put_in_turned(self):
        rng = rng_of(3)
        for _ in range(30):
            tokens = errand_tokens(drawn_errand(rng))
            for at in range(len(tokens)):
                other = rng.choice(SIGNS + tokens + tuple(map(str, range(70))))
                for wrong in (tokens[:at] + tokens[at + 1:], tokens[:at] + (other,) + tokens[at:],
                              tokens[:at] + (other,) + tokens[at + 1:],
                              tokens[:at] + tokens[at:at + 2][::-1] + tokens[at + 2:]):
                    self.look_at(tokens_of(" ".join(wrong)))

    def look_at(self, tokens):
        """Look at a row of tokens step by step: may_follow, completed and read_errand have to agree."""
        many = 0
        while many < len(tokens) and tokens[many] in may_follow(" ".join(tokens[:many])):
            many += 1
        text = " ".join(tokens)
        if many == len(tokens) and tokens[-1:] == ("done",):
            self.assertEqual(errand_tokens(read_errand(text)), tokens)
            return
        self.assert_wrong(text, many)
        self.assert_completed(tokens[:many])
        if many < len(tokens):
            self.assertIsNone(completed(" ".join(tokens[:many + 1])))
            self.assertIsNone(completed(text))
            self.assertEqual(may_follow(text), ())

    def test_all_that_may_follow(self):
        rng = rng_of(4)
        candidates = SIGNS[:9] + SIGNS[10:] + tuple(map(str, range(130))) + ("1023", "1024", "1025")
        for _ in range(6):
            tokens = errand_tokens(drawn_errand(rng))
            for many in range(len(tokens) + 1):
                options = may_follow(" ".join(tokens[:many]))
                told = tuple(token for token in options if token in candidates)
                self.assertEqual(told, tokens_that_may(set(candidates), tokens[:many]))
                for token in options[::50]:
                    self.assert_completed(tokens[:many] + (token,))

    def test_numbers_at_the_beginning(self):
        self.assertEqual(may_follow("rooms"), tuple(sorted(map(str, range(2, 17)))))
        self.assertEqual(may_follow("rooms 2; size"), tuple(sorted(map(str, range(1, 65)))))
        self.assertEqual(may_follow("rooms 2; size 1;"), ("block",))
        self.assertEqual(may_follow("rooms 2; size 1; block"), ("0",))
        self.assertEqual(may_follow("rooms 2; size 1; block 0: ;"), ("block", "wish"))
        self.assertEqual(may_follow("rooms 2; size 1; block 0: ; wish"), (":",))
        self.assertEqual(may_follow("rooms 2; size 1; block 0: ; wish:"), (";",))
        self.assertEqual(may_follow("rooms 2; size 1; block 0: ; wish:;"), ("done",))
        for text, at in (("rooms 02", 1), ("rooms 1", 1), ("rooms 17", 1), ("rooms 2; size 0", 4), ("rooms 2; size 65", 4),
                         ("rooms 2; size 1; block 1", 7), ("rooms 2; size 1; block 00", 7), ("room", 0), ("rooms2", 0),
                         ("rooms 2; size 1; wish", 6), ("rooms \u0662", 1), ("rooms 2; size 1; block 0: 0 1", 10),
                         ("rooms 2; size 9; block 0: 1 0", 10), ("rooms 2; size 9; block 0: 0 0", 10),
                         ("rooms 2; size 1; block 0: 0; block 1: 0", 14), ("rooms 2; size 1; block 0: 1; wish", 11)):
            self.assert_wrong(text, at)
            self.assertIsNone(completed(text))

    def test_blocks_against_a_plain_count(self):
        rng = rng_of(5)
        numbers = [*range(140), 500, 1000, *range(1015, 1027)]
        for _ in range(40):
            b = rng.choice((1, 1, 2, 3, 16, 17, 64))
            done, slot = [], None
            for _ in range(rng.choice((0, 1, 62, 63))):
                done.append(())
            while len(done) < 64 and rng.random() < 0.9:
                slot = ()
                while rng.random() < 0.6:
                    fitting = [x for x in numbers if blocks_may_end(b, done, slot + (x,))]
                    self.check_block(b, done, slot, numbers, fitting)
                    if not fitting:
                        break
                    slot += (rng.choice(fitting[:4] + fitting[-2:]),)
                if blocks_may_end(b, done + [slot], None):
                    done.append(slot)
                    slot = None
                else:
                    break

    def check_block(self, b, done, slot, numbers, fitting):
        """Look whether just the fitting ones of these numbers may follow in a block, and its end where it may."""
        entries = "".join(f"block {at}: {' '.join(map(str, block))};" for at, block in enumerate(done))
        text = f"rooms 2; size {b}; {entries} block {len(done)}: {' '.join(map(str, slot))}"
        options = may_follow(text)
        self.assertEqual([x for x in numbers if str(x) in options], fitting, text)
        self.assertIs(";" in options, blocks_may_end(b, done + [slot], None), text)
        self.assert_completed(tokens_of(text))
        for x in fitting[:2] + fitting[-1:]:
            self.assert_completed(tokens_of(text + " " + str(x)))

    def test_last_blocks_against_all_fillings(self):
        ahead = "rooms 2; size 2; " + "".join(f"block {at}: ;" for at in range(61))
        lots = []
        for count in range(4):
            for many in range(2 * count + 1):
                for blocks in all_partings(tuple(range(many)), 2, count):
                    lots.append(sum([block_tokens(61 + at, block) for at, block in enumerate(blocks)], []))
        self.compare_with_all(ahead, [lots], ("wish",))

    def compare_with_all(self, ahead, lots, last):
        """Compare what may follow with all rows of tokens that there are, and these behind them."""
        follow = {}
        for tokens in itertools.chain(*lots):
            tokens = tuple(tokens) + tuple(last)
            for many in range(len(tokens)):
                follow.setdefault(tokens[:many], set()).add(tokens[many])
        for tokens, options in follow.items():
            self.assertEqual(may_follow(ahead + " ".join(tokens)), tuple(sorted(options)), tokens)

    def test_wishes_against_all(self):
        ahead = "rooms 2; size 2; block 0: 0 1; block 1: 2; block 2: ; wish:"
        wishes = [wish for wish in itertools.product(range(3), repeat=3) if max(map(wish.count, wish)) < 3]
        self.compare_with_all(ahead, [[list(map(str, wish)) for wish in wishes]], (";",))

    def test_pours_against_all(self):
        for m, standing in ((3, (2, ((0, 3), (1, 2), ()))), (2, (2, ((0, 1), (2,), (3,)))), (2, (1, ((0,), (1,), ()))),
                            (4, (3, ((0, 1, 2), (3,), ())))):
            errand = (m, standing, plain_wish(standing), ())
            ahead = errand_text(errand)[:-4]
            lots = []
            for who, parts in all_pours(standing, m):
                shown = " , ".join(" ".join(map(str, part)) for part in parts)
                lots.append(tokens_of("pour " + " ".join(map(str, who)) + " : " + shown + " ;"))
            self.assertEqual(may_follow(ahead), ("done", "pour"))
            follow = {}
            for tokens in lots:
                for many in range(1, len(tokens)):
                    follow.setdefault(tokens[:many], set()).add(tokens[many])
            for tokens, options in follow.items():
                self.assertEqual(may_follow(ahead + " ".join(tokens)), tuple(sorted(options)), tokens)
                self.assert_completed(tokens_of(ahead) + tokens)

    def test_done_follows_where_all_is_met(self):
        rng = rng_of(6)
        for _ in range(60):
            m, standing, wish, row = drawn_errand(rng)
            wish = rng.choice((wish, drawn_wish(rng, standing)))
            text = errand_text((m, standing, wish, row))
            held = standing
            for many in range(len(row) + 1):
                cut = tokens_of(text)[:-1]
                ends = [at for at, token in enumerate(cut) if token == ";"]
                begun = " ".join(cut[:ends[2 + len(standing[1]) + many] + 1])
                is_met = all(wish[x] == at for at, block in enumerate(held[1]) for x in block)
                options = (("done",) if is_met else ()) + (("pour",) if len(standing[1]) > 1 else ())
                self.assertEqual(may_follow(begun), options)
                self.assert_completed(tokens_of(begun))
                if many < len(row):
                    held = plainly_poured(held, row[many])

    def test_one_block_alone(self):
        text = "rooms 2; size 2; block 0: 0 1; wish: 0 0;"
        self.assertEqual(may_follow(text), ("done",))
        self.assert_wrong(text + "pour", 17)
        self.assertEqual(may_follow("rooms 2; size 2; block 0: ; block 1: ; wish: ; pour"), ("0",))
        self.assertEqual(may_follow("rooms 2; size 2; block 0: ; block 1: ; wish: ; pour 0"), ("1",))


def block_tokens(at, block):
    """The tokens of a block with this number."""
    return ["block", str(at), ":", *map(str, block), ";"]


class LimitsTest(unittest.TestCase):
    def test_most_blocks(self):
        blocks = "".join(f"block {at}: ;" for at in range(64))
        text = "rooms 2; size 1; " + blocks
        self.assertEqual(may_follow(text), ("wish",))
        self.assertEqual(read_errand(text + "wish:; done")[1], (1, ((),) * 64))
        self.assertEqual(completed(text)[1], (1, ((),) * 64))
        full = "rooms 2; size 1; " + "".join(f"block {at}: {63 - at};" for at in range(64))
        self.assertEqual(completed(full)[1], (1, tuple((63 - at,) for at in range(64))))
        self.assertEqual(completed(full[:-len("block 63: 0;")])[1], completed(full)[1])
        with self.assertRaises(InvalidText) as caught:
            read_errand(text + "block 64: ; wish: ; done")
        self.assertEqual(caught.exception.at, 6 + 4 * 64)
        self.assertEqual(may_follow("rooms 2; size 1; " + blocks[:-len("block 63: ;")]), ("block", "wish"))

    def test_most_records(self):
        for b, last in ((1, 63), (2, 126), (15, 945), (16, 1008), (17, 1023), (64, 1023)):
            text = f"rooms 2; size {b}; block 0: "
            self.assertEqual(max(int(token) for token in may_follow(text) if token != ";"), last)
            whole = completed(text + str(last))
            self.assertIs(is_errand(whole), True)
            self.assertEqual(sum(map(len, whole[1][1])), last + 1)
            self.assertIsNone(completed(text + str(last + 1)))
        # With 16 in each block the greatest records still fit in, if just as many of the lesser ones are told behind.
        text = "rooms 2; size 16; block 0: " + " ".join(map(str, range(1008, 1024)))
        self.assertIs(is_errand(completed(text)), True)
        self.assertIsNone(completed("rooms 2; size 16; block 0: 1009"))
        self.assertEqual(may_follow(text), (";",))
        full = (16, tuple(tuple(range(at, at + 16)) for at in range(0, 1024, 16)))
        text = errand_text((16, full, plain_wish(full), ()))
        self.assertEqual(read_errand(text)[1], full)
        text = errand_text((2, (17, full[1]), plain_wish(full), ())).replace("1023;", "1023 1024;")
        with self.assertRaises(InvalidText) as caught:
            read_errand(text)
        self.assertEqual(caught.exception.at, tokens_of(text).index("1024"))

    def test_great_numbers(self):
        for number in ("9" * 99000, "0" * 99000, "1" + "0" * 4998):
            for text in ("rooms ", "rooms 2; size ", "rooms 2; size 2; block ", "rooms 2; size 2; block 0: "):
                begun = time.time()
                self.assertIsNone(completed(text + number))
                self.assertEqual(may_follow(text + number), ())
                with self.assertRaises(InvalidText) as caught:
                    read_errand(text + number)
                self.assertEqual(caught.exception.at, len(tokens_of(text)))
                self.assertLess(time.time() - begun, 3)

    def test_long_texts_are_read_within_seconds(self):
        rng = rng_of(7)
        standing = (16, split(rng, range(1024), 16, 64))
        wish = drawn_wish(rng, standing)
        for m in (2, 3, 16):
            text = errand_text((m, standing, wish, ()))[:-4]
            self.assert_quick(text)
            for many in (0, 1, 100, 700):
                self.assert_quick(text + "pour 0 1:" + " ".join(errand_tokens((m, standing, wish, ()))[9:9 + many]))
        empty = "rooms 2; size 64; block 0:; block 1:; wish:;"
        self.assert_quick(empty + "pour 0 1:,;" * 9080)
        wide = (64, tuple(tuple(range(at, at + 64)) for at in range(0, 1024, 64)))
        pour = (tuple(range(16)), wide[1][::-1])
        for many in (20, 23):
            row = (pour, (pour[0], wide[1])) * (many // 2)
            text = errand_text((16, wide, plain_wish(wide), row))
            self.assert_quick(text[:100000])
            self.assert_quick(text[:-4])

    def assert_quick(self, text):
        begun = time.time()
        try:
            read_errand(text)
        except InvalidText as wrong:
            self.assertLessEqual(wrong.at, len(tokens_of(text)))
        options = may_follow(text)
        whole = completed(text)
        self.assertLess(time.time() - begun, 9)
        if whole is not None:
            self.assertIs(is_errand(whole), True)
            self.assertTrue(options or tokens_of(text)[-1] == "done")
            self.assertEqual(errand_tokens(whole)[:len(tokens_of(text))], tokens_of(text))
            # What is told may be passed on: it has at most 100,000 integers and tuples.
            self.assertLess(sum(len(part) + 1 for pour in whole[3] for part in pour[1] + (pour[0],)), 100000 + len(text))


if __name__ == "__main__":
    unittest.main()
