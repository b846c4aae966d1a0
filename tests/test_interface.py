"""The interface of the document: each name is defined in its file, with its arguments."""

import importlib
import inspect
import unittest

SPAN = "start end"
# The functions of each module with their arguments.
FUNCTIONS = {
    "waves": ["arch u", "wave x"],
    "quantities": ["is_quantity thing", "is_angle thing"],
    "values": ["value q t", "angle_value a t"],
    "reaches": ["most q", "reach q k", "angle_reach a k"],
    "finder": [f"paper q {SPAN}", f"changes q {SPAN}", "moment q t", f"passings a {SPAN}", f"time_up q {SPAN}"],
    "judge": [f"takes q {SPAN} cells", "changes_of q cells"],
    "sky": ["check_sky sky", "terms_quantity terms", "longitude sky body", "latitude sky body",
            "elongation sky first second"],
    "places": ["altitude sky place body"],
    "events": [f"risings sky place body height {SPAN}", f"seasons sky body {SPAN}", f"phases sky moon sun {SPAN}",
               f"meetings sky first second {SPAN}", f"nodes sky body {SPAN}",
               f"eclipses sky moon sun solar lunar {SPAN}"],
    "tides": ["is_port port", "height port", "flow port", f"tides port {SPAN}"],
    "calendars": ["weekday day", "is_calendar calendar", "day_of calendar date", "date_of calendar day"],
    "lunar": [f"moon_table sky moon sun {SPAN}"],
    "zones": ["check_zone zone", "local zone tick", "ticks_of zone time", "ruled_zone offset rules first last"],
    "feasts": ["is_day feast facts day", "feast_days feast facts first last"],
    "almanac": [f"wish_events sky place wish {SPAN}", "almanac sky place zone wishes first last",
                "next_event sky place wish tick limit"],
    "pages": ["page_text calendar entries", "read_page calendar text"],
    "skytext": ["sky_text sky", "read_sky text"],
    "contacts": ["nearness sky first second limit", f"contacts sky first second limit {SPAN}"],
    "meridian": ["east sky place body", "south sky place body", f"meridian sky place body {SPAN}"],
    "crescents": [f"young_moons sky place moon sun height moon_height angle {SPAN}"],
    "tables": ["table_of q start step count", "between table tick", "remainder q step", "table_text table",
               "read_table text"],
    "clocks": ["agreement sources f"],
    "leaps": ["label table e", "counts_of table label"],
    "durations": ["add calendar date duration", "difference calendar first second"],
    "patterns": ["is_pattern pattern", "write pattern date minute", "read calendar pattern text"],
    "numerals": ["arc_text angle", "read_arc text", "roman number", "read_roman text"],
    "recurrences": ["occurs recurrence day", "occurrences recurrence first last", "next_day recurrence day"],
    "workdays": ["is_working rest holidays day", "count_working rest holidays first last",
                 "go_on rest holidays day n"],
    "tops": [f"top q {SPAN}", f"top_paper q {SPAN}", f"takes_top q {SPAN} best cells"],
    "fine": ["finer q m", "fine_moments q t m"],
    "papers": [f"paper_text {SPAN} cells", "read_paper text"],
    "chronology": ["chronology names constraints", "takes_circle constraints edges", "fulfilled names constraints"],
    "watches": ["plan windows", "takes_plan windows chosen stops"],
    "offsets": ["offset exchange m", "meet exchanges m"],
    "reforms": ["full_date reform day", "days_of reform date"],
    "cycles": ["next_of_all pairs day"],
    "hours": ["is_open week closed time", "open_minutes week closed day", "next_turn week closed zone tick"],
    "eras": ["era_date eras day", "day_of_era eras date"],
    "spells": [f"spells_of q {SPAN}", "both first second", "either first second", f"rest spells {SPAN}",
               "length spells"],
    "conditions": ["holds sky place condition tick", f"spells_when sky place condition {SPAN}",
                   f"observing_windows sky place condition least {SPAN}"],
    "books": ["book sky place zone wishes feasts eras first last", "read_book text"],
    "ratios": ["fraction n d", "plus a b", "minus a b", "times a b", "over a b", "is_less a b",
               "moment_fraction moment", "clock_text a"],
    "revisions": ["best_matching old new limit", "report old new limit"],
}
# The classes of each module with the arguments to make them, and their methods.
CLASSES = {
    ("lunar", "MoonTable"): ["__init__ self months springs", "date self day", "day self date", "years self"],
    ("desk", "Desk"): ["__init__ self sky", "answer self line", "log self"],
    ("clocks", "KeptClock"): ["__init__ self rate low high", "known self", "count self d", "hear self sources f"],
    ("notices", "Bureau"): ["__init__ self", "hear self notice", "kept self", "zone self name", "meet self other"],
    ("network", "Network"): ["__init__ self names links", "tell self name notice", "queue self", "deed self n",
                             "calm_round self", "bureau self name"],
}


def module_of(name):
    return importlib.import_module("truealmanac." + name)


class Interface(unittest.TestCase):
    def takes(self, function, told):
        name, *arguments = told.split(" ")
        self.assertEqual(function.__name__, name)
        self.assertEqual(list(inspect.signature(function).parameters), arguments, name)

    def test_functions(self):
        for name, functions in FUNCTIONS.items():
            for told in functions:
                function = vars(module_of(name))[told.split(" ")[0]]
                self.assertTrue(inspect.isfunction(function))
                self.assertEqual(function.__module__, "truealmanac." + name)
                self.takes(function, told)

    def test_classes(self):
        for (name, word), methods in CLASSES.items():
            told = vars(module_of(name))[word]
            self.assertEqual(told.__module__, "truealmanac." + name)
            for method in methods:
                self.takes(vars(told)[method.split(" ")[0]], method)


if __name__ == "__main__":
    unittest.main()
