"""The whole document: its names, and histories that go through all parts."""

import importlib
import inspect
import random
import unittest

from tests.test_plainlook import drawn_query
from tests.test_desks import PLAN
from wordquarry.desks import Desk
from wordquarry.disks import Disk
from wordquarry.errors import Crashed
from wordquarry.kinds import kinds
from wordquarry.marks import marks
from wordquarry.mergerules import MergeRule
from wordquarry.pieces import cut_out, pieces
from wordquarry.plainlook import holds, score_of
from wordquarry.scorings import Scoring
from wordquarry.searching import Searcher
from wordquarry.stores import Store
from wordquarry.styles import Style, readings_many, shown

NAMES = {
    "errors": "SearchError BadText BadWord BadNumber BadBytes TooMany NoField NoPaper TakenKey Broken Crashed NotAscending BadOutput NoPlace BadRows "
              "BadLength NoBlock NoFile BadCrash TornFile Merging NotMerging NothingToUndo NothingToRedo BadScoring",
    "signs": "is_sign is_text is_word is_name is_integer all_signs lines_of",
    "shares": "Share share_of", "bytesrows": "Writer RowReader", "checksums": "check_of joined_check",
    "machines": "Machine machine_of machine_of_ways all_rows no_rows one_row",
    "analyzers": "Analyzer", "plans": "Plan", "analysed": "unlike_tokens settled_word shortest_text told_words first_word",
    "terms": "TermMap termmap_of joined", "nearrules": "NearRule", "nearpairs": "unlike_pair beyond_pair one_way_pair",
    "patterns": "plain prefix wild span near any_row both without either least_row_of unlike_row beyond_row common_row many_rows",
    "patterntexts": "pattern_of", "meeting": "met Met first_met count_met nearest",
    "layouts": "Layout plain_layout", "layoutjudge": "longer_steps", "pairs": "best_pairs telling_score",
    "postings": "PostingList postinglist_of", "cursors": "Cursor", "joins": "all_of any_of barred at_least numbers_left",
    "phrases": "anchors_of near_rows", "passing": "Part Rule", "best": "best BestRows plain_best", "passjudge": "missed Miss",
    "mustlook": "must_look lifted",
    "queries": "Query Phrase Exact Matching Every Never Both Some Best Without Weighed Flat leaves_of", "querytexts": "read_query goes_on",
    "plainlook": "holds anchors count_of touched score_of", "scorings": "Scoring",
    "rankings": "falls_by_count grows_by_length greatest ranked_apart", "settling": "settled",
    "disks": "Disk", "protocols": "CommitProtocol plain_protocol", "protocolruns": "play_run",
    "protocolverdicts": "kept keeps least_run least_runs weight_of needless", "seals": "sealed is_whole unsealed marked_row marked_from",
    "segments": "Segment segment_of segment_from merged", "indexlists": "IndexList list_from segment_files marks_file all_files",
    "mergerules": "MergeRule settled_sizes most_segments segments_row most_rewritings rewritings_row", "stores": "Store plain_rule",
    "readers": "Reader", "carryrules": "CarryRule plain_carry", "ledgers": "Ledger",
    "carryjudge": "keeps_promise least_deeds promises_kept play_deeds",
    "marks": "marks", "styles": "Style shown readings_many clash", "pieces": "pieces cut_out",
    "kinds": "kinds meeting aside branches sure_first", "desks": "Desk desk_of",
    "wordclasses": "word_classes any_word", "rowsets": "spots_of leaf_rows",
    "deciding": "found_apart found_beyond least_found least_missed idle_leaves", "walks": "Listed leaf_counts walked", "searching": "Searcher"}
METHODS = {
    ("shares", "Share"): "written over compared under at_most", ("bytesrows", "Writer"): "all_bytes whole signs bits raw",
    ("bytesrows", "RowReader"): "whole signs bits raw byte",
    ("machines", "Machine"): "after reached accepts is_good is_live is_empty within least_row rows_many",
    ("analyzers", "Analyzer"): "tokens words_of", ("plans", "Plan"): "analyzer_of tokens",
    ("terms", "TermMap"): "output_of place_of word_at pairs_from word_of", ("nearrules", "NearRule"): "price turned",
    ("layouts", "Layout"): "block_weight cuts total", ("postings", "PostingList"): "length_of places_of block_of block_rows",
    ("cursors", "Cursor"): "go_on advance", ("passing", "Part"): "score bound", ("scorings", "Scoring"): "score",
    ("disks", "Disk"): "row file_of write rename remove sync sync_names waiting loose may_land cut stop power twin",
    ("protocols", "CommitProtocol"): "commit_on recover_on", ("mergerules", "MergeRule"): "level choice",
    ("segments", "Segment"): "paper terms_of postings_of lengths_of told_files",
    ("stores", "Store"): "put exchange drop flush all_papers text_of sizes reader begin_merge end_merge give_up going merge commit rollback",
    ("readers", "Reader"): "paper number_of text_of length stats", ("carryrules", "CarryRule"): "applies forgets",
    ("ledgers", "Ledger"): "put drop exchange flush view open_segment begin end give_up keys_of places_of marks_of stamps_of packets",
    ("styles", "Style"): "written", ("desks", "Desk"): "done script", ("walks", "Listed"): "go_on advance",
    ("searching", "Searcher"): "found best score why worked_out"}
SCORING = Scoring("(papers + 1 over having) times count over count + long")
STYLE = Style("before <b>\nafter </b>\nsign < as &lt;\nsign & as &amp;")


class Names(unittest.TestCase):

    def test_all_names(self):
        for file, names in NAMES.items():
            module = importlib.import_module("wordquarry." + file)
            for name in names.split():
                # each is defined where it is listed, not imported
                self.assertEqual(getattr(module, name).__module__, "wordquarry." + file, name)

    def test_methods(self):
        for (file, name), methods in METHODS.items():
            own = vars(getattr(importlib.import_module("wordquarry." + file), name))
            for method in methods.split():
                self.assertTrue(inspect.isfunction(own.get(method)), (name, method))

    def test_errors_derive_directly(self):
        module = importlib.import_module("wordquarry.errors")
        for name in NAMES["errors"].split():
            self.assertEqual(getattr(module, name).__bases__, (ValueError,) if name == "SearchError" else (module.SearchError,))


class Histories(unittest.TestCase):

    def check(self, pick, store, papers):
        """What is found, marked, written and counted in a store, against the plain look."""
        reader = store.reader()
        self.assertEqual(reader.papers, tuple(papers))
        dicts = list(papers.values())
        query = drawn_query(pick, 2)
        searcher = Searcher(reader, PLAN, SCORING)
        found = searcher.found(query)
        self.assertEqual(found, [key for key in papers if holds(query, PLAN, papers[key])])
        for key, score in searcher.best(query, 3):
            self.assertEqual(score, score_of(query, PLAN, dicts, list(papers).index(key), SCORING))
        for field in PLAN.fields:
            texts = [papers[key][field] for key in found if field in papers[key]]
            self.assertEqual(dict(kinds(reader, found, field)), {text: texts.count(text) for text in texts})
            for key in found:
                text = reader.text_of(reader.number_of(key), field)
                if text is not None:
                    stretches = marks(query, PLAN, papers[key], field)
                    row = shown(text, stretches, STYLE)
                    self.assertGreater(readings_many(row, STYLE), 0)
                    windows = pieces(text, stretches, 2, 5)
                    for (start, end), (piece, lying) in zip(windows, cut_out(text, windows, stretches)):
                        self.assertEqual((piece, [(one + start, two + start) in stretches for one, two in lying]),
                                         (text[start:end], [True] * len(lying)))

    def text(self, pick):
        return " ".join(pick.choice(("a", "b", "as", "the", "of", "d<&")) for _ in range(pick.randint(0, 6)))

    def test_histories(self):
        pick = random.Random(1)
        for _ in range(25):
            disk = Disk()
            store = Store(disk, PLAN, rule=MergeRule("levels 1 2\nmerge 2\ndead 1 2"))
            papers, kept = {}, {}
            for _ in range(25):
                way = pick.random()
                key = "k%d" % pick.randrange(6)
                fields = {field: self.text(pick) for field in PLAN.fields if pick.random() < 0.8}
                if way < 0.45:
                    (store.exchange if key in papers else store.put)(key, fields)
                    papers.pop(key, None)
                    papers[key] = fields
                elif way < 0.55 and papers:
                    key = pick.choice(list(papers))
                    store.drop(key)
                    del papers[key]
                elif way < 0.65:
                    store.merge()
                elif way < 0.75:
                    store.flush()
                else:
                    store, papers, kept = self.commit_or_crash(pick, disk, store, papers, kept)
                self.check(pick, store, papers)

    def commit_or_crash(self, pick, disk, store, papers, kept):
        """A commit whose power may go, and what is there behind it."""
        disk.power(pick.randint(0, 25), pick.choice((None, 0, 5)))
        try:
            store.commit()
            disk.stop()
            return store, papers, dict(papers)
        except Crashed:
            pass
        places = []
        for place in range(len(disk.waiting())):
            if pick.random() < 0.7 and disk.may_land(places + [place]):
                places.append(place)
        disk.cut(places, {number: pick.randint(0, length) for number, length in disk.loose() if pick.random() < 0.5})
        store = Store(disk, PLAN, rule=MergeRule("levels 1 2\nmerge 2\ndead 1 2"))
        self.assertIn(store.all_papers(), (tuple(papers), tuple(kept)))
        told = {key: {field: store.text_of(key, field) for field in PLAN.fields if store.text_of(key, field) is not None} for key in store.all_papers()}
        self.assertIn(told, (papers, kept))
        return store, told, dict(told)

    def test_a_desk_and_a_store(self):
        """A desk tells what a store with the same papers tells."""
        pick = random.Random(2)
        desk = Desk(PLAN, "body", SCORING)
        store = Store(Disk(), PLAN)
        for at in range(30):
            fields = {field: self.text(pick) for field in PLAN.fields}
            store.put("k%d" % at, fields)
            desk.done('put k%d body "%s" title "%s"' % (at, fields["body"], fields["title"]))
            if at % 4 == 0:
                store.flush()
            if at % 7 == 6:
                store.drop("k%d" % (at - 3))
                desk.done("drop k%d" % (at - 3))
        store.merge()
        searcher = Searcher(store.reader(), PLAN, SCORING)
        for _ in range(40):
            query = drawn_query(pick, 2)
            self.assertEqual(desk.done("find " + query.told), searcher.found(query))
            self.assertEqual(desk.done("best 5 " + query.told), [key + " " + score.written() for key, score in searcher.best(query, 5)])


if __name__ == "__main__":
    unittest.main()
