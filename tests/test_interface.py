"""The interface of DOC.md: each name stands in its file, with its arguments."""

import ast
import importlib
import inspect
from pathlib import Path

from tests.help import Case

PACKAGE = Path(__file__).resolve().parent.parent / "wholeline"

FUNCTIONS = {
    "letters": ["is_letter(value)"],
    "books": [
        "is_word(value)", "write_heads(book, heads)", "read_words(book, words)", "parting_words(one, other)",
        "is_parting(one, other, value)",
    ],
    "lengths": [
        "distances(heads)", "shorts(heads, places)", "letter_lengths(mail, places, cost)",
        "places_for(mail, cost, most)",
    ],
    "bestbooks": [
        "gaps_of(heads)", "bound_by(heads, places, indexes)", "most_shorts(heads, places)",
        "best_writing(heads, places)", "shorts_by(heads, places, writing)", "rule_shorts(heads, places)",
    ],
    "bookpapers": ["writing_paper(heads, places)", "lets_writing(heads, places, value)"],
    "pieces": [
        "goes(room, cap, length)", "fewest(room, cap, length)", "layers(room, cap)", "least_cap(room, length)",
        "greedy(room, cap, length)",
    ],
    "cutting": [
        "told_cut(room, cap, length)", "cuts(room, cap, length)", "is_right_cut(room, cap, length, value)",
        "filled(room, pieces)",
    ],
    "beststeps": [
        "spans_of(size, pieces)", "fewest_bounds(size, pieces)", "apart_spans(size, pieces)",
        "best_steps(size, cap, lengths, many)", "best_total(size, cap, lengths, many)",
    ],
    "roompapers": [
        "room_paper(room, cap, length)", "lets_room(room, cap, length, value)", "spans_paper(size, pieces)",
        "lets_spans(size, pieces, value)",
    ],
    "races": [
        "played(race, run)", "outcomes(race)", "run_count(race)", "runs(race)", "win_run(race, way, at)",
        "silent_after(race, way, at)",
    ],
    "racepapers": [
        "win_paper(race, way, at)", "latest_paper(race)", "shows_win(race, way, at, run)",
        "shows_never(race, way, at, lot)", "shows_latest(race, at, run, lot)", "shows_unanswered(race, run)",
    ],
    "begins": [
        "best_begins(ways, allowed, silent, gap)",
        "shows_begins(ways, allowed, silent, gap, end, begins, paper)",
    ],
    "turns": ["play(turn, load, course)", "is_right(load, played)"],
    "numbers": [
        "first_fault(turn, load)", "holds(turn, load)", "least_numbers(turn, load)", "safe_turn(turn, load)",
    ],
    "faultruns": ["fault_course(turn, load)"],
    "waytimes": [
        "taken_latest(turn, load, losses, parcel)", "taken_earliest(turn, load, parcel)",
        "most_sendings(turn, load, losses)", "latest_course(turn, load, losses)", "earliest_course(turn, load)",
    ],
    "wayruns": ["all_courses(turn, load, losses)", "count_courses(turn, load, losses)"],
    "seen": ["waits_of(played)", "fewest_losses(turn, load, waits)"],
    "turnpapers": ["shows_fault(turn, load, losses, paper)", "shows_time(turn, load, losses, parcel, paper)"],
    "boxes": ["spread_of(box)", "slack_of(box)", "lull_of(road)"],
    "gaps": [
        "stops(lull, signs)", "quiet_gap(lull, signs)", "period_signs(lull, period)", "race_gap(road)",
        "row_gap(road)", "rest_gap(road)", "greatest_gap(road)", "gap_kind(road)", "is_kept(road)",
    ],
    "signs": ["good_periods(lull, limit)", "fewest_signs(lull, limit)", "best_signs(lull, limit)"],
    "signpapers": [
        "bars_signs(lull, limit, count, chain)", "barring_chain(lull, limit, count)",
        "shows_best(lull, limit, signs, chain)",
    ],
    "boxpapers": ["forgetting_paper(road)", "shows_forgetting(road, value)"],
    "widths": ["bases(game)"],
    "states": [
        "start(game)", "is_state(game, value)", "useful(game, state)", "answered(game, state, place)",
        "silent(game, state, place)", "state_of(game, log)", "reached(game, state)",
    ],
    "regret": [
        "go_late(game, state, dues)", "late(game, state, dues)", "best(game, state, dues)", "regret(game, state)",
    ],
    "plans": [
        "check_plan(game, state, dues, plan)", "told_plan(game, state, dues)", "courses(game, state, plan)",
        "most_probes(game, state, plan)",
    ],
    "tables": ["check_table(game, state, dues, table)", "told_table(game, state, dues)"],
    "widthtimes": ["greatest_times(game, state, plan)", "least_times(game, state, plan)"],
    "fronts": ["front(game, state)"],
    "widthpapers": [
        "run_times(game, state, plan, place, run)", "greatest_run(game, state, plan, place)",
        "least_run(game, state, plan, place)",
    ],
    "lines": ["load_of(line, width)", "race_of(line)", "turn_on(line, way)", "road_on(line, way)"],
    "bars": ["first_bar(line)", "bars(line)"],
    "barpapers": ["bar_paper(line)", "shown_bar(line, value)"],
    "linetimes": [
        "way_times(line)", "least_time(line)", "greatest_time(line)", "game_on(line, way)", "regrets(line)",
    ],
    "timepapers": ["line_time_paper(line, word)", "shown_time(line, value)"],
    "heals": ["heals(line, menu)", "least_setting(line, word)"],
    "beside": ["is_milder(line, other)"],
    "forms": [
        "is_message(value)", "write_form(message)", "read_form(data)", "message_width(message, head)",
        "written(letter, book, long_cost)", "read_letter(units, book)", "bent(data, changes)",
    ],
    "nets": ["run_line(line, fate, *, going=None)"],
    "monitors": [
        "is_clean(run)", "flaw(run)", "takings(run)", "told_times(run)", "most_held(run)", "seen_by(run, box)",
        "widest_gap(run, box)", "course_of(run)", "is_run(line, fate, going, events)",
    ],
    "texts": ["write_line(line)", "read_line(text)", "read_deeds(text)"],
}

CLASSES = {
    "letters.Mail": [
        "__init__(self, rows)", "rows_told(self)", "letters_told(self)", "heads_told(self)", "__len__(self)",
        "__getitem__(self, at)", "__eq__(self, other)", "with_letter(self, row, letter)", "with_row(self, letters)",
    ],
    "books.Book": [
        "__init__(self, places, uses=())", "held(self)", "oldest_first(self)", "place_of(self, head)",
        "__contains__(self, head)", "__len__(self)", "next_place(self)", "used(self, head)", "__eq__(self, other)",
        "word_for(self, head)", "head_for(self, word)",
    ],
    "steps.Steps": [
        "__init__(self, bounds)", "__call__(self, free)", "__len__(self)", "__contains__(self, bound)",
        "__le__(self, other)", "__add__(self, bound)", "__eq__(self, other)",
    ],
    "steps.Room": [
        "__init__(self, size, steps)", "told(self, held)", "reach(self, held, cap)", "top(self, cap)",
        "__le__(self, other)", "__eq__(self, other)",
    ],
    "ways.Way": [
        "__init__(self, begin, least, most, boxes=())", "window(self)", "begun_at(self, begin)", "__eq__(self, other)",
    ],
    "races.Race": [
        "__init__(self, ways, silent)", "planned(self)", "hurried(self, way, at)", "can_win(self, way, at)",
        "last_win(self, way)", "winners(self)", "latest(self)", "__eq__(self, other)",
    ],
    "races.Outcome": ["__init__(self, winner, moment, sent)"],
    "turns.Turn": ["__init__(self, least, most, turn, numbers)", "__eq__(self, other)"],
    "turns.Load": ["__init__(self, rows, quiet)", "__len__(self)", "__eq__(self, other)"],
    "boxes.Road": [
        "__init__(self, way, last, turn, losses, rows, quiet, period)", "__eq__(self, other)",
    ],
    "boxes.Lull": ["__init__(self, delay, turn, losses, quiet)", "__eq__(self, other)"],
    "widths.Game": [
        "__init__(self, widths, counts, *, least, most, turn, losses)", "__len__(self)", "__eq__(self, other)",
    ],
    "lines.Line": [
        "__init__(self, mail, ways, widths, *, turn, numbers, room, head, places, cost, period, quiet, silent, losses)",
        "changed(self, change)", "with_setting(self, word, value)", "__eq__(self, other)",
    ],
    "senders.Sender": [
        "__init__(self, line, way, width, start)", "wake(self)", "due(self, moment)", "come(self, moment, message)",
        "open_parcel(self)", "book_now(self)", "answered(self)",
    ],
    "readers.Reader": [
        "__init__(self, line)", "come(self, moment, data)", "waits(self)", "held_units(self)", "free_room(self)",
        "told_letters(self)", "book_now(self)", "thrown(self)",
    ],
    "nets.Fate": [
        "__init__(self, width, race, *, delays=(), lost=(), bends=(), offsets=(), keeps=())", "__eq__(self, other)",
    ],
    "nets.Run": ["__eq__(self, other)"],
    "sessions.Session": [
        "__init__(self, line)", "__len__(self)", "do(self, deed)", "undo(self)", "steps_done(self)", "line_now(self)",
        "is_running(self)", "clock(self)", "in_air(self)", "may_come(self)", "letters_read(self)",
    ],
    "sessions.Trial": ["__init__(self, session)", "__enter__(self)", "__exit__(self, kind, value, trace)"],
    "console.Console": ["__init__(self, line)", "enter(self, text)"],
}

GENERATORS = ["cutting.cuts", "cutting.filled", "races.outcomes", "races.runs", "wayruns.all_courses", "plans.courses"]


def tree_of(file):
    return ast.parse((PACKAGE / f"{file}.py").read_text())


class InterfaceTest(Case):
    def test_functions_stand_in_their_files(self):
        for file, functions in FUNCTIONS.items():
            defined = [row.name for row in tree_of(file).body if isinstance(row, ast.FunctionDef)]
            module = importlib.import_module(f"wholeline.{file}")
            for told in functions:
                name, _, arguments = told.partition("(")
                self.assertIn(name, defined, file)
                self.assertEqual(str(inspect.signature(getattr(module, name))), "(" + arguments)

    def test_methods_stand_in_their_classes(self):
        for place, methods in CLASSES.items():
            file, _, name = place.partition(".")
            classes = {row.name: row for row in tree_of(file).body if isinstance(row, ast.ClassDef)}
            defined = [row.name for row in classes[name].body if isinstance(row, ast.FunctionDef)]
            kind = getattr(importlib.import_module(f"wholeline.{file}"), name)
            for told in methods:
                method, _, arguments = told.partition("(")
                self.assertIn(method, defined, place)
                self.assertEqual(str(inspect.signature(getattr(kind, method))), "(" + arguments)

    def test_generators(self):
        for place in GENERATORS:
            file, _, name = place.partition(".")
            function = getattr(importlib.import_module(f"wholeline.{file}"), name)
            self.assertTrue(inspect.isgeneratorfunction(function), place)

    def test_all_modules_are_looked_at(self):
        helpers = {"__init__", "errors", "kinds", "plays", "netplays", "leads"}
        told = set(FUNCTIONS) | {place.partition(".")[0] for place in CLASSES} | helpers
        self.assertEqual({path.stem for path in PACKAGE.glob("*.py")}, told)
