"""The interface: each name stands in its module, with the arguments' names that the document tells."""

import importlib
import inspect
import unittest

from nightsheld.desk import Desk
from nightsheld.inn import Inn

FUNCTIONS = {
    "houses": "is_house(thing) is_stay(thing) are_stays(thing) sleeping(stays,night)",
    "fits": "fits(house,stays) left(house,stays,night,kind) begins(house,stays,kind,nights)",
    "plans": "plan(house,stays) shows_plan(house,stays,thing) how_many(house,stays) nearest(house,stays,told)",
    "moves": "least_moves(house,stays) is_nightly(house,stays,thing) moves_of(house,stays,rooms)",
    "chances": (
        "comers(chances) beyond(chances,rooms) mean_beyond(chances,rooms) earning(chance,rooms,price,paid,sold) "
        "best_sold(chance,rooms,price,paid)"
    ),
    "walks": "walked(guests,rooms) paid_out(guests,rooms,price)",
    "keys": "opened(keys,uses) ghosts(keys,gone,uses) locked_out(keys,gone,uses)",
    "bills": "nightly(prices,rule,stay) bill(prices,rule,stay)",
    "parts": "shared(parts,coins) table(parts,coins) is_table(parts,coins,thing)",
    "truths": "known(book,day) told_rows(book) first_wrong(book,rows)",
    "groups": "left_then(house,stays,groups,day,night,kind) first_day(house,stays,groups,stay)",
    "choice": "best(house,stays,requests) least_worth(house,stays,requests,number)",
    "inn": "Inn(house)",
    "texts": "house_text(house,stays) read_house(text)",
    "desk": "Desk()",
}

METHODS = {
    Inn: (
        "book(self,stay) cancel(self,number) put(self,number,room) undo(self) stays(self) rooms(self) plan(self) "
        "left(self,night,kind) twin(self) __len__(self) __eq__(self,other) __repr__(self)"
    ),
    Desk: "say(self,line)",
}


def shown(name, thing):
    return f"{name}({','.join(inspect.signature(thing).parameters)})"


class TestInterface(unittest.TestCase):
    def test_functions_and_classes(self):
        for module, listed in FUNCTIONS.items():
            found = importlib.import_module("nightsheld." + module)
            for word in listed.split():
                with self.subTest(module=module, word=word):
                    name = word.partition("(")[0]
                    self.assertEqual(shown(name, getattr(found, name)), word)

    def test_methods_stand_in_the_class_itself(self):
        for owner, listed in METHODS.items():
            for word in listed.split():
                with self.subTest(owner=owner.__name__, word=word):
                    name = word.partition("(")[0]
                    self.assertEqual(shown(name, vars(owner)[name]), word)


if __name__ == "__main__":
    unittest.main()
