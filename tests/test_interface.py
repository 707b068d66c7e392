"""The interface: names, parameters, and the file in which each is defined."""

import importlib
import inspect
import os
import re
import subprocess
import sys
import unittest

import pulledrooms

INTERFACE = {
    "houses": "House(rooms, doors), passes_from(house, room), numbers_of(house, thing)",
    "walks": "is_walk(house, thing), end_of(house, walk), comes_home(house, walk), joined(house, one, other), "
             "back(house, walk), standing(house, room), power(house, walk, times)",
    "texts": "house_text(house), read_house(text), walks_text(house, walks), read_walks(house, text)",
    "forms": "carried(house, walk, spot, times), shortening_spots(house, walk), shortened(house, walk, spot), "
             "is_plain(house, thing), plain_form(house, walk), are_one(house, one, other), is_nothing(house, walk), "
             "spots_to_nothing(house, walk), are_spots(house, walk, thing), after_move(house, walk, move), "
             "moves_between(house, one, other), are_moves(house, one, other, thing)",
    "cores": "is_core(house, thing), core_of(house, walk), steps_of(house, walk), turned_core(house, walk, many)",
    "ratios": "ratio_of(house, walk), are_lengths(house, thing), lengths_of(house), stretching_walk(house), "
              "are_signs(house, thing), signs_of(house), turning_walk(house), carried_along(house, number, walk), "
              "kept_pulls(house)",
    "weights": "are_weights(house, thing), weights_of(house), is_growth(house, thing), growth_of(house)",
    "moving": "is_state(house, thing), next_states(house, state), moved_by(house, state, thing), "
              "endless_pair(house, state), class_of(house, state)",
    "books": "is_rule(house, thing), led_by(house, rules, state), is_book(house, thing), book_of(house), "
             "least_state(house, state), are_moved(house, state, other), rule_way(house, rule), "
             "way_down(house, state), moved_way(house, state, other)",
    "classes": "is_row(thing), are_rows(thing), in_rows(rows, number), rows_met(rows, more), "
               "rows_together(rows, more), rows_within(rows, more), same_rows(rows, more), least_rows(rows)",
    "patterns": "is_pattern(house, thing), filled(house, pattern, number), nothing_for(house, pattern), "
                "one_for(house, pattern, other), pairings(house, pattern), paired_for(house, pattern, pairing), "
                "shortest_for(house, pattern)",
    "halls": "Hall(house, ropes, ways), led_seat(hall, walk, seat), arrangement_of(hall, walk), "
             "halls_many(house, seats), parting_hall(house, walk, most), halls_beside(hall, other)",
    "returns": "returns_of(hall), are_fitting(house, thing), hall_of_returns(house, fitting), "
               "greatest_power(house, prime), bounded_primes(house), deep_part(house)",
    "wide": "wide_arrived(house, thing, wide), is_wide(house, thing), as_wide(house, walk), wide_spots(house, wide), "
            "wide_shortened(house, wide, spot), dead_spots(house, walk), is_dead(house, walk), "
            "are_dead_spots(house, walk, thing)",
    "everyk": "forms_for(house, pattern), seat_for(hall, pattern, seat), dead_for(house, pattern)",
    "shows": "hall_with(house, fitting, walk), hall_for(house, walk), is_rising(house), dead_walk(house)",
    "alikeness": "lead_between(house, one, other), joining_pulls(house, one, other), "
                 "past_one_another(house, one, other), pulls_past(house, walk), pulls_past_all(house, room)",
    "roots": "root_of(house, walk, many), root_pulls(house, walk, many), greatest_root(house, walk)",
    "lots": "within(hall, walk, seat), beside_many(hall, room, seat), lead_to(hall, room, seat, other), "
            "are_one_lot(hall, other, room, seat, place), lots_many(house, many), meeting_hall(hall, other)",
    "covers": "cover_rooms(hall, seat), cover_doors(hall, seat), cover_of(hall, seat), "
              "out_of_cover(hall, seat, walk), into_cover(hall, seat, walk), plain_cover(house)",
    "changing": "is_change(house, thing), changed(house, change), room_along(house, change, room), "
                "changed_by(house, changes), along(house, change, walk), along_by(house, changes, walk), "
                "along_back(house, change, walk), hall_along(house, change, hall), folded_away(house), "
                "single_alike(one, other)",
    "strolls": "Stroll(house, room)",
    "desk": "Desk()",
}
METHODS = {
    "Stroll": "pull(times), go(step), undo(), redo(), deeds(), so_far(), here(), plain(), away(), is_back(), copy(), "
              "place_at(moment), first_here(), met(moment), way_to(moment), farthest(), round_trips(), "
              "seat_of(hall, seat), seats_met(hall, seat)",
    "Desk": "say(row)",
}
# Each module imports only from those that stand ahead of it; checks, folding and lines are further ones.
ORDER = ("errors", "checks", "houses", "folding", "walks", "texts", "forms", "cores", "ratios", "weights", "moving",
         "books", "classes", "lines", "patterns", "halls", "returns", "wide", "everyk", "shows", "alikeness", "roots",
         "lots", "covers", "changing", "strolls", "desk")


class Interface(unittest.TestCase):
    def test_names_parameters_and_files(self):
        for name, row in INTERFACE.items():
            module = importlib.import_module(f"pulledrooms.{name}")
            for word, parameters in re.findall(r"(\w+)\(([^)]*)\)", row):
                with self.subTest(module=name, word=word):
                    thing = getattr(module, word)
                    self.assertEqual(thing.__module__, module.__name__)
                    told = parameters.split(", ") if parameters else []
                    self.assertEqual(list(inspect.signature(thing).parameters), told)

    def test_methods_stand_in_their_class_itself(self):
        for name, module in (("Stroll", "strolls"), ("Desk", "desk")):
            thing = getattr(importlib.import_module(f"pulledrooms.{module}"), name)
            for word, parameters in re.findall(r"(\w+)\(([^)]*)\)", METHODS[name]):
                with self.subTest(name=name, word=word):
                    told = ["self"] + (parameters.split(", ") if parameters else [])
                    self.assertEqual(list(inspect.signature(vars(thing)[word]).parameters), told)
        self.assertIn("__len__", vars(importlib.import_module("pulledrooms.strolls").Stroll))
        self.assertIn("__eq__", vars(importlib.import_module("pulledrooms.strolls").Stroll))

    def test_init_defines_nothing(self):
        show = "import pulledrooms; print([name for name in vars(pulledrooms) if not name.startswith('__')])"
        told = subprocess.run([sys.executable, "-c", show], capture_output=True, text=True, check=True,
                              cwd=os.path.dirname(os.path.dirname(pulledrooms.__file__)))
        self.assertEqual(told.stdout, "[]\n")

    def test_each_module_imports_only_from_those_ahead_of_it(self):
        for at, name in enumerate(ORDER):
            module = importlib.import_module(f"pulledrooms.{name}")
            with open(module.__file__, encoding="utf-8") as file:
                used = re.findall(r"^from pulledrooms\.(\w+) import", file.read(), re.M)
            with self.subTest(module=name):
                self.assertLessEqual(set(used), set(ORDER[:at]))

    def test_all_modules_stand_in_the_order(self):
        folder = os.path.dirname(pulledrooms.__file__)
        files = sorted(name for name in os.listdir(folder) if name != "__pycache__")
        self.assertEqual(files, sorted(["__init__.py"] + [name + ".py" for name in ORDER]))

    def test_a_house_has_its_attributes(self):
        house = importlib.import_module("pulledrooms.houses").House(2, ((0, 2, 1, 3),))
        self.assertEqual((house.rooms, house.doors), (2, ((0, 2, 1, 3),)))

    def test_a_hall_has_its_attributes(self):
        halls = importlib.import_module("pulledrooms.halls")
        house = importlib.import_module("pulledrooms.houses").House(1, ((0, 1, 0, 2),))
        hall = halls.Hall(house, ((1, 2, 0),), ((0, 2, 1),))
        self.assertEqual((hall.house, hall.ropes, hall.ways, hall.seats), (house, ((1, 2, 0),), ((0, 2, 1),), 3))

    def test_a_stroll_and_a_desk_have_their_attributes(self):
        house = importlib.import_module("pulledrooms.houses").House(2, ((0, 2, 1, 3),))
        stroll = importlib.import_module("pulledrooms.strolls").Stroll(house, 1)
        self.assertEqual((stroll.house, stroll.start), (house, 1))
        self.assertIsNone(importlib.import_module("pulledrooms.desk").Desk().stroll)


if __name__ == "__main__":
    unittest.main()
