"""The names of the interface: each is defined in its file, with its arguments; each method in its class itself."""

import importlib
import inspect
import unittest

FUNCTIONS = {
    "words": ["is_word(value)"],
    "bags": ["places_of(bag, roots)", "colour_of(bag, roots, place)"],
    "plain": [
        "check_plain(book, roots, bushes)", "plain_of(grove)", "stock_of(book, bushes)", "named(book, roots, bushes)",
    ],
    "assemblies": ["assembly_of(grove)"],
    "lexemes": ["lexemes(text)"],
    "printer": [
        "book_text(book)", "bag_text(bag)", "grove_text(grove)", "plain_text(roots, bushes)", "script_text(script)",
    ],
    "reader": [
        "read_book(text)", "read_bag(book, text)", "read_grove(bag, text)", "read_plain(book, text)",
        "read_script(text)",
    ],
    "pieces": ["is_stretch(grove, s, t)", "joints_of(grove, s, t)", "colours_of(grove, s, t)", "is_deed(grove, value)"],
    "deeds": [
        "done(grove, deed)", "taken_back(grove, deed)", "canonical(bag, roots, deed)", "all_deeds(grove)",
        "hang_count(grove)",
    ],
    "scripts": [
        "walked(grove, script)", "steps(grove, script)", "turned_back(grove, script)", "first_bad(grove, value)",
        "price(bag, roots, script)",
    ],
    "rings": ["difference(f, g)", "rings(f, g)", "right_places(f, g)"],
    "coins": [
        "coins(f, g)", "coins_by_colour(f, g)", "least_price(f, g, prices)", "way(f, g)", "judge_way(f, g, script)",
        "touched(f, deed)",
    ],
    "between": [
        "change(f, g, deed)", "begins(f, g, deed)", "first_deeds(f, g)", "is_between(f, h, g)", "all_between(f, g)",
        "count_ways(f, g)",
    ],
    "stocks": [
        "words_of(grove)", "differing(book, one, other)", "links(book, roots, grove)", "part_at(grove, path)",
        "paths(grove)",
    ],
    "plainways": [
        "naming(book, roots, grove, names)", "like_top(one, other)", "like_namings(book, roots, one, other)",
        "plain_way(book, roots, one, other)", "judge_plain_way(book, roots, one, other, value)",
    ],
    "bounds": [
        "low_bound(book, roots, one, other)", "high_bound(book, roots, one, other)",
        "plain_coins(book, roots, one, other)",
        "nearest_namings(book, roots, one, other)", "next_to(book, roots, grove)",
    ],
    "building": [
        "balance(bag, roots)", "reached(bag, roots)", "can_build(bag, roots)", "built(bag, roots)",
        "judge_bar(bag, roots, value)",
    ],
    "heaps": [
        "is_heap(bag, value)", "heap_roots(bag, heap)", "open_places(bag, heap)", "can_pack(bag, roots)",
        "packed(bag, roots)", "judge_heap_bar(bag, roots, value)", "surplus(bag)", "lots(bag)", "judge_lot(bag, value)",
        "fewest(bag)", "packed_fewest(bag)",
    ],
    "mending": [
        "exchanged(assembly, s, t)", "exchanged_all(assembly, exchanges)", "mended(assembly)",
        "mended_anyhow(assembly)",
        "judge_mending(assembly, value)", "judge_knot(assembly, value)",
    ],
    "matrices": ["determinant(rows)", "bag_matrix(bag)"],
    "counting": [
        "count_named(bag, roots)", "count_plain(book, stock, roots)", "first_joints(bag, roots)",
        "first_shapes(book, stock, roots)", "count_beginning(bag, roots, names)",
        "plain_beginning(book, stock, roots, words)", "chance_at(book, stock, roots, number, word)",
        "mean_in(book, stock, roots, word, branch, other)",
    ],
    "numbering": [
        "grove_at(bag, roots, number)", "plain_at(book, stock, roots, number)", "number_of(grove)", "next_grove(grove)",
        "plain_number(book, grove)", "next_plain(book, grove)", "groves_from(bag, roots, *, number=0, many=10)",
        "drawn(bag, roots, number)",
    ],
    "melting": [
        "first_clash(bag, roots, facts)", "open_places(bag, roots, facts, name)", "melted(bag, roots, facts)",
        "stands_for(bag, roots, facts)", "melted_grove(grove, facts)", "unmelted_grove(bag, roots, facts, grove)",
    ],
    "facts": [
        "has_facts(grove, facts)", "paper_of(bag, roots, facts)", "judge_paper(bag, roots, facts, paper)",
        "count_with(bag, roots, facts)", "share(bag, roots, facts, more)", "verdict(bag, roots, facts, fact)",
        "names_at(bag, roots, facts, place)", "sure_facts(bag, roots, facts)", "place_paper(bag, roots, facts, place)",
        "judge_place(bag, roots, facts, place, paper)", "settles(bag, roots, facts)", "steady_list(grove)",
        "thinned(bag, roots, facts)", "grove_with(bag, roots, facts, number)", "number_with(grove, facts)",
    ],
    "patterns": [
        "pattern_stock(book, pattern)", "open_colours(book, pattern)", "overlaps(book, pattern)",
        "standing(book, grove, pattern)", "marked(book, roots, stock, pattern, marks)",
        "shown_in_some(book, roots, stock, pattern)", "average(book, roots, stock, pattern)",
        "shown(book, roots, stock, pattern)",
    ],
    "looks": [
        "look(book, grove, path, depth)", "looks(book, grove, depth)", "are_alike(book, one, other, depth)",
        "unlike_look(book, one, other, depth)", "look_book(book, grove, depth)", "alike_many(book, grove, depth)",
        "alone_depth(book, grove)", "keeps_looks(grove, deed, depth)", "alike_way(book, roots, one, other, depth)",
    ],
    "owners": [
        "holding(book, grove, owner)", "dealings(book, roots, stock, owner, part)",
        "can_have(book, roots, stock, owner, part)", "dealt(book, roots, stock, owner, part)",
        "holdings(book, roots, stock, owner)", "mean_holding(book, roots, stock, owner, word)",
    ],
    "goals": ["left_after(f, g, script)", "waste(f, g, script)", "barred_nails(f, g, places)", "nearest(f, goals)"],
    "acts": ["act_word(stand, act)", "after(stand, act)"],
    "house": ["joined(one, other)", "parted(house, number)"],
}
CLASSES = {
    ("books", "Book(shapes)"): [
        "shapes()", "words()", "colours()", "shape(word)", "stem(word)", "branches(word)",
    ],
    ("bags", "Bag(book, joints)"): [
        "book()", "joints()", "names()", "word(name)", "stem(name)", "branches(name)", "stock()",
    ],
    ("groves", "Grove(bag, roots, bushes)"): [
        "bag()", "roots()", "bushes()", "table()", "joint(place)", "names(place)", "above(place)",
        "is_above(one, other)",
        "is_apart(one, other)", "place(name)", "walk()",
    ],
    ("assemblies", "Assembly(bag, roots, table)"): [
        "bag()", "roots()", "table()", "joint(place)", "place(name)", "rings()", "pieces()", "grove()",
    ],
    ("streams", "PlainStream(book)"): ["feed(piece)", "totals()"],
    ("house", "House(grove)"): [
        "grove()", "goal()", "nails()", "stand()", "do(act)", "undo()", "redo()", "done()", "undone()", "tried(acts)",
        "would(acts)", "paid()", "left()", "waste()", "way()", "next_deeds()", "keep(name)", "marks()", "marked(name)",
        "coins_to(name)", "twin()",
    ],
    ("console", "Console(house)"): ["house()", "say(line)"],
}
WITH_EQUALITY = ("Book", "Bag", "Grove", "Assembly", "House")


def written(function, skip=0):
    """The arguments of a function as the interface writes them."""
    parameters = list(inspect.signature(function).parameters.values())[skip:]
    found = []
    for parameter in parameters:
        if parameter.kind == inspect.Parameter.KEYWORD_ONLY and "*" not in found:
            found.append("*")
        found.append(str(parameter))
    return "(" + ", ".join(found) + ")"


class TestInterface(unittest.TestCase):
    def test_functions(self):
        for name, functions in FUNCTIONS.items():
            module = importlib.import_module("bushcoins." + name)
            for told in functions:
                function = getattr(module, told[:told.index("(")])
                self.assertTrue(inspect.isfunction(function), told)
                self.assertEqual(function.__module__, module.__name__, told)
                self.assertEqual(function.__name__ + written(function), told)

    def test_classes_and_their_methods(self):
        for (name, told), methods in CLASSES.items():
            module = importlib.import_module("bushcoins." + name)
            kind = getattr(module, told[:told.index("(")])
            self.assertEqual((kind.__module__, kind.__bases__), (module.__name__, (object,)))
            self.assertEqual(kind.__name__ + written(kind.__init__, 1), told)
            for method in methods:
                function = vars(kind)[method[:method.index("(")]]
                self.assertTrue(inspect.isfunction(function), method)
                self.assertEqual(function.__name__ + written(function, 1), method)
            self.assertEqual("__eq__" in vars(kind), kind.__name__ in WITH_EQUALITY)


if __name__ == "__main__":
    unittest.main()
