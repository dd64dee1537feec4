"""The vault (points 25 to 27)."""

import inspect
import random
import unittest

from patchkept import vault
from patchkept.errors import InvalidDocument, InvalidForm, InvalidText, NameTaken, PatchkeptError, UnknownName, VaultError
from patchkept.formulas import holds
from patchkept.judging import always_applies, guard, judge
from patchkept.patches import apply
from patchkept.schemas import is_valid
from patchkept.values import depth_of, make_object, size_of
from patchkept.vault import Vault
from tests.helpers import NULL, fields, fitting_value, ints, made_patch, made_schema, remade

ANY, NEVER = ("any",), ("never",)
NINE = ("int", 0, 9)
UP = (("increase", (), 1),)
CAREFUL = (("when", (), ("int", 0, 8), UP, ()),)
ZERO = (("replace", (), ("int", 0)),)
FAILING = (("remove", ()),)
METHODS = {
    "create": ["self", "collection", "schema"], "schema_of": ["self", "collection"],
    "store": ["self", "collection", "key", "value"], "admit": ["self", "collection", "name", "patch"],
    "admit_guarded": ["self", "collection", "name", "patch"], "patch_names": ["self", "collection"],
    "keys_of": ["self", "collection"], "versions_of": ["self", "collection", "key"],
    "apply": ["self", "collection", "key", "name"], "apply_all": ["self", "collection", "name"],
    "undo": ["self", "collection", "key"], "migrate": ["self", "collection", "patch", "schema"],
}
# Names of unlike lengths, in ascending order.
NAMES = ["", " ", "A", "B", "a", "a ", "aa", "ab", "abc", "b", "ba", "~"]


def of_size(size):
    return ("list", (NULL,) * (size - 1))


def of_depth(depth):
    value = NULL
    for _ in range(depth - 1):
        value = ("list", (value,))
    return value


def contents(kept, collections=("numbers", "values")):
    """All that the methods of a vault tell about it."""
    told = []
    for collection in collections:
        documents = {key: kept.versions_of(collection, key) for key in kept.keys_of(collection)}
        told.append((kept.schema_of(collection), kept.keys_of(collection), documents, kept.patch_names(collection)))
    return told


def made_vault():
    kept = Vault()
    kept.create("numbers", NINE)
    kept.create("values", ANY)
    kept.store("numbers", "one", ("int", 1))
    kept.store("numbers", "nine", ("int", 9))
    kept.store("values", "v", ints(1, 2))
    kept.admit("numbers", "careful", CAREFUL)
    kept.admit_guarded("numbers", "up", UP)
    kept.admit("numbers", "zero", ZERO)
    kept.admit("numbers", "failing", FAILING)
    kept.admit("values", "append", (("add", (-1,), NULL),))
    return kept


class Vaults(unittest.TestCase):
    def setUp(self):
        self.kept = made_vault()

    def raises(self, error, method, *arguments):
        """The call raises exactly this error, and nothing changes."""
        before = contents(self.kept)
        with self.assertRaises(PatchkeptError) as caught:
            getattr(self.kept, method)(*arguments)
        self.assertIs(type(caught.exception), error, (method, arguments))
        for above in (VaultError, PatchkeptError, ValueError):
            self.assertIsInstance(caught.exception, above)
        for other in {UnknownName, NameTaken, InvalidDocument, InvalidText, InvalidForm} - {error}:
            self.assertNotIsInstance(caught.exception, other)
        self.assertEqual(contents(self.kept), before)


class Interface(unittest.TestCase):
    def test_methods_and_arguments(self):
        self.assertEqual(Vault.__module__, vault.__name__)
        self.assertEqual(list(inspect.signature(Vault).parameters), [])
        for name, arguments in METHODS.items():
            self.assertIn(name, vars(Vault))
            self.assertEqual(list(inspect.signature(vars(Vault)[name]).parameters), arguments)


class Errors(Vaults):
    def test_no_such_collection_comes_first(self):
        for arguments in (("schema_of",), ("store", "one", ("int", 1)), ("store", "k", NULL), ("store", "k", of_size(500)),
                          ("admit", "zero", UP), ("admit", "new", UP), ("admit_guarded", "up", UP), ("patch_names",), ("keys_of",),
                          ("versions_of", "one"), ("versions_of", "x"), ("apply", "one", "zero"), ("apply", "x", "y"),
                          ("apply_all", "zero"), ("apply_all", "y"), ("undo", "one"), ("undo", "x"), ("migrate", (), NINE),
                          ("migrate", UP, NEVER)):
            for collection in ("", "number", "numbers ", "one", "zero"):
                self.raises(UnknownName, arguments[0], collection, *arguments[1:])

    def test_no_such_document(self):
        for key in ("", "x", "One", "numbers", "v", "zero"):
            self.raises(UnknownName, "versions_of", "numbers", key)
            self.raises(UnknownName, "undo", "numbers", key)
            self.raises(UnknownName, "apply", "numbers", key, "zero")
            self.raises(UnknownName, "apply", "numbers", key, "x")

    def test_no_such_patch(self):
        for name in ("", "x", "append", "one", "Zero", "numbers"):
            self.raises(UnknownName, "apply", "numbers", "one", name)
            self.raises(UnknownName, "apply_all", "numbers", name)
        self.kept.create("empty", NINE)
        with self.assertRaises(UnknownName):
            self.kept.apply_all("empty", "zero")

    def test_names_that_are_taken(self):
        self.raises(NameTaken, "create", "numbers", NINE)
        self.raises(NameTaken, "create", "values", NEVER)
        self.raises(NameTaken, "store", "numbers", "one", ("int", 2))
        self.raises(NameTaken, "store", "numbers", "one", NULL)
        self.raises(NameTaken, "store", "numbers", "one", of_size(500))
        for patch in (ZERO, UP, FAILING):
            for name in ("zero", "up", "careful"):
                self.raises(NameTaken, "admit", "numbers", name, patch)
                self.raises(NameTaken, "admit_guarded", "numbers", name, patch)

    def test_documents_that_are_not_valid(self):
        for value in (NULL, ("int", 10), ("int", -1), ("text", "1"), ints(1), of_size(300), of_depth(20)):
            self.raises(InvalidDocument, "store", "numbers", "new", value)

    def test_documents_that_are_too_large_or_too_deep(self):
        wide = make_object([(f"n{index:03}", NULL) for index in range(200)])
        for value in (of_size(201), of_size(300), of_depth(13), of_depth(40), wide, ("list", (of_size(100), of_size(100)))):
            self.raises(InvalidDocument, "store", "values", "new", value)
        narrow = make_object(list(wide[1][1:]))
        for at, value in enumerate((of_size(200), of_depth(12), narrow, ("list", (of_size(100), of_size(99))))):
            self.assertTrue(size_of(value) == 200 or depth_of(value) == 12)
            self.kept.store("values", f"good{at}", value)
            self.assertEqual(self.kept.versions_of("values", f"good{at}"), [value])

    def test_names_of_one_collection_are_free_in_another(self):
        self.kept.store("values", "one", NULL)
        self.kept.admit("values", "zero", ZERO)
        self.assertEqual(self.kept.versions_of("numbers", "one"), [("int", 1)])
        self.assertEqual(self.kept.patch_names("values"), [("append", False), ("zero", False)])
        self.assertIsNone(self.kept.create("one", NINE))
        self.assertEqual(self.kept.keys_of("one"), [])
        other = Vault()
        self.assertIsNone(other.create("numbers", ANY))
        self.assertEqual(contents(self.kept)[0][0], NINE)


class Collections(Vaults):
    def test_a_new_one_is_empty(self):
        for name in NAMES:
            self.assertIsNone(self.kept.create(name, ("text", 0, 3)))
            self.assertEqual(self.kept.schema_of(name), ("text", 0, 3))
            self.assertEqual((self.kept.keys_of(name), self.kept.patch_names(name)), ([], []))
        self.assertEqual(self.kept.schema_of("numbers"), NINE)

    def test_keys_are_ascending(self):
        shuffled = list(NAMES)
        random.Random(251).shuffle(shuffled)
        self.kept.create("new", NINE)
        for at, key in enumerate(shuffled):
            self.assertIsNone(self.kept.store("new", key, ("int", at % 10)))
            self.assertEqual(self.kept.keys_of("new"), sorted(shuffled[:at + 1]))
        self.assertEqual(self.kept.keys_of("new"), NAMES)
        for at, key in enumerate(shuffled):
            self.assertEqual(self.kept.versions_of("new", key), [("int", at % 10)])

    def test_names_of_patches_are_ascending(self):
        shuffled = list(NAMES)
        random.Random(252).shuffle(shuffled)
        self.kept.create("new", NINE)
        for at, name in enumerate(shuffled):
            self.kept.admit_guarded("new", name, UP if at % 2 else ZERO)
        expected = [(name, shuffled.index(name) % 2 == 1) for name in NAMES]
        self.assertEqual(self.kept.patch_names("new"), expected)
        self.assertTrue(all(type(has_guard) is bool for _, has_guard in self.kept.patch_names("new")))

    def test_returned_lists_are_new(self):
        before = contents(self.kept)
        for method, arguments in (("keys_of", ()), ("patch_names", ()), ("versions_of", ("one",))):
            returned = getattr(self.kept, method)("numbers", *arguments)
            self.assertIs(type(returned), list)
            returned.append("more")
            del returned[0]
            returned.clear()
            self.assertEqual(contents(self.kept), before)
        self.kept.create("lists", ("list", ANY, 0, None))
        self.kept.admit("lists", "x", ())
        self.kept.admit("lists", "y", (("remove", (0,)),))
        dropped = self.kept.migrate("lists", (("add", (-1,), NULL),), ("list", ANY, 1, None))[1]
        self.assertEqual(dropped, ["y"])
        dropped.clear()
        self.assertEqual(self.kept.patch_names("lists"), [("x", False)])


class Admission(Vaults):
    def test_a_patch_that_keeps_the_contract(self):
        for name, patch in (("none", ()), ("again", CAREFUL), ("set", ZERO), ("fails", FAILING)):
            self.assertIsNone(self.kept.admit("numbers", name, patch))
            self.assertIn((name, False), self.kept.patch_names("numbers"))

    def test_a_patch_that_does_not(self):
        before = contents(self.kept)
        for patch in (UP, (("increase", (), -1),), (("replace", (), NULL),), UP + CAREFUL, (("when", (), NINE, UP, ()),)):
            value = self.kept.admit("numbers", "new", patch)
            self.assertTrue(is_valid(NINE, value))
            self.assertIsNotNone(apply(patch, value))
            self.assertFalse(is_valid(NINE, apply(patch, value)))
            self.assertEqual(contents(self.kept), before)
        self.assertEqual(self.kept.admit("numbers", "new", UP), ("int", 9))
        with self.assertRaises(UnknownName):
            self.kept.apply("numbers", "one", "new")
        self.assertIsNone(self.kept.admit("numbers", "new", ZERO))

    def test_guarded(self):
        self.assertIs(self.kept.admit_guarded("numbers", "a", UP), True)
        self.assertIs(self.kept.admit_guarded("numbers", "b", CAREFUL), False)
        self.assertIs(self.kept.admit_guarded("numbers", "c", FAILING), False)
        self.assertIs(self.kept.admit_guarded("numbers", "d", (("replace", (), NULL),)), True)
        names = [pair for pair in self.kept.patch_names("numbers") if len(pair[0]) == 1]
        self.assertEqual(names, [("a", True), ("b", False), ("c", False), ("d", True)])

    def test_nothing_is_valid(self):
        self.kept.create("nothing", NEVER)
        self.assertIsNone(self.kept.admit("nothing", "up", UP))
        self.assertIs(self.kept.admit_guarded("nothing", "null", (("replace", (), NULL),)), False)
        self.assertIs(self.kept.apply_all("nothing", "up"), True)


class Application(Vaults):
    def test_a_new_version(self):
        self.assertIs(self.kept.apply("numbers", "one", "careful"), True)
        self.assertIs(self.kept.apply("numbers", "one", "zero"), True)
        self.assertIs(self.kept.apply("numbers", "one", "up"), True)
        self.assertEqual(self.kept.versions_of("numbers", "one"), [("int", number) for number in (1, 2, 0, 1)])
        self.assertEqual(self.kept.versions_of("numbers", "nine"), [("int", 9)])
        self.assertEqual(self.kept.keys_of("numbers"), ["nine", "one"])

    def test_a_result_that_is_equal_is_a_new_version(self):
        self.assertIs(self.kept.apply("numbers", "nine", "careful"), True)
        self.assertEqual(self.kept.versions_of("numbers", "nine"), [("int", 9)] * 2)
        self.kept.admit("values", "none", ())
        self.assertIs(self.kept.apply("values", "v", "none"), True)
        self.assertEqual(self.kept.versions_of("values", "v"), [ints(1, 2)] * 2)

    def unchanged(self, collection, key, name):
        before = contents(self.kept)
        self.assertIs(self.kept.apply(collection, key, name), False)
        self.assertEqual(contents(self.kept), before)

    def test_the_guard_does_not_hold(self):
        self.unchanged("numbers", "nine", "up")
        self.assertIs(self.kept.apply("numbers", "one", "up"), True)
        self.assertEqual(self.kept.versions_of("numbers", "one"), [("int", 1), ("int", 2)])

    def test_the_patch_fails(self):
        self.unchanged("numbers", "one", "failing")
        self.kept.admit("values", "third", (("remove", (2,)),))
        self.unchanged("values", "v", "third")
        self.kept.admit_guarded("numbers", "whole", (("remove", (2,)), ("replace", (), NULL)))
        self.unchanged("numbers", "one", "whole")

    def test_the_result_is_too_large_or_too_deep(self):
        self.kept.admit("values", "wrap", (("add", ("a",), NULL), ("copy", (), ("a",))))
        self.kept.store("values", "wide", of_size(199))
        self.assertIs(self.kept.apply("values", "wide", "append"), True)
        self.unchanged("values", "wide", "append")
        self.assertEqual([size_of(value) for value in self.kept.versions_of("values", "wide")], [199, 200])
        self.kept.admit("values", "deeper", (("copy", (), ("b",)),))
        value = fields()
        for _ in range(10):
            value = fields(a=value)
        self.kept.store("values", "deep", value)
        self.assertIs(self.kept.apply("values", "deep", "deeper"), True)
        self.unchanged("values", "deep", "deeper")
        self.assertEqual([depth_of(value) for value in self.kept.versions_of("values", "deep")], [11, 12])

    def test_the_latest_version_is_changed(self):
        for _ in range(12):
            self.kept.apply("numbers", "one", "up")
        self.assertEqual(self.kept.versions_of("numbers", "one"), [("int", number) for number in range(1, 10)])

    def test_all(self):
        self.assertIs(self.kept.apply_all("numbers", "careful"), True)
        self.assertEqual(self.kept.versions_of("numbers", "one"), [("int", 1), ("int", 2)])
        self.assertEqual(self.kept.versions_of("numbers", "nine"), [("int", 9)] * 2)
        self.assertEqual(self.kept.versions_of("values", "v"), [ints(1, 2)])

    def test_all_with_one_that_gets_no_new_version(self):
        before = contents(self.kept)
        for name in ("up", "failing"):
            self.assertIs(self.kept.apply_all("numbers", name), False)
            self.assertEqual(contents(self.kept), before)
        for key, value in (("a", of_size(200)), ("z", fields())):
            self.kept.create(key, ("either", (("list", ANY, 0, None), ("object", (), ANY))))
            self.kept.store(key, "k", ints(1))
            self.kept.store(key, key, value)
            self.kept.admit(key, "append", (("add", (-1,), NULL),))
            self.assertIs(self.kept.apply_all(key, "append"), False)
            self.assertEqual(self.kept.versions_of(key, "k"), [ints(1)])
            self.assertEqual(self.kept.versions_of(key, key), [value])

    def test_all_without_documents(self):
        self.kept.create("empty", NINE)
        self.kept.admit("empty", "failing", FAILING)
        self.kept.admit_guarded("empty", "up", UP)
        self.assertIs(self.kept.apply_all("empty", "failing"), True)
        self.assertIs(self.kept.apply_all("empty", "up"), True)
        self.assertEqual(self.kept.keys_of("empty"), [])

    def test_undo(self):
        self.assertIs(self.kept.undo("numbers", "one"), False)
        self.assertEqual(self.kept.versions_of("numbers", "one"), [("int", 1)])
        self.kept.apply("numbers", "one", "careful")
        self.kept.apply("numbers", "one", "careful")
        self.assertIs(self.kept.undo("numbers", "one"), True)
        self.assertEqual(self.kept.versions_of("numbers", "one"), [("int", 1), ("int", 2)])
        self.kept.apply("numbers", "one", "zero")
        self.assertEqual(self.kept.versions_of("numbers", "one"), [("int", 1), ("int", 2), ("int", 0)])
        self.assertIs(self.kept.undo("numbers", "one"), True)
        self.assertIs(self.kept.undo("numbers", "one"), True)
        self.assertIs(self.kept.undo("numbers", "one"), False)
        self.assertEqual(contents(self.kept), contents(made_vault()))


class Migration(Vaults):
    def unchanged(self, answer, collection, patch, schema):
        before = contents(self.kept)
        self.assertEqual(self.kept.migrate(collection, patch, schema), answer)
        self.assertEqual(contents(self.kept), before)

    def test_the_contract_is_not_kept(self):
        self.unchanged(("breaks", ("int", 9)), "numbers", UP, NINE)
        for patch, schema in ((UP, ("int", 2, 10)), ((), ("int", 0, 8)), (ZERO, ("int", 1, 9)), (UP, NEVER)):
            self.unchanged(judge(NINE, patch, schema), "numbers", patch, schema)
            word, value = judge(NINE, patch, schema)
            self.assertEqual((word, is_valid(NINE, value), is_valid(schema, apply(patch, value))), ("breaks", True, False))

    def test_the_patch_does_not_always_apply(self):
        guarded = (("when", (), ("int", 0, 3), (), FAILING),)
        for collection, schema, patch in (("numbers", NINE, FAILING), ("numbers", NINE, guarded), ("values", ANY, (("remove", (0,)),))):
            answer = always_applies(schema, patch)
            self.assertEqual(answer[0], "fails")
            self.unchanged(answer, collection, patch, ANY)
        # It breaks the contract as well, and this is told first.
        self.assertEqual(self.kept.migrate("numbers", guarded, NEVER)[0], "breaks")
        self.assertEqual(self.kept.migrate("numbers", FAILING, NEVER)[0], "fails")

    def test_a_result_is_too_large_or_too_deep(self):
        self.kept.create("lists", ("list", ANY, 0, None))
        append = (("add", (-1,), NULL),)
        for key in ("b", "B", "a", "ab", "aa"):
            self.kept.store("lists", key, of_size(200) if key in ("b", "ab") else ints(1))
        before = contents(self.kept, ["lists"])
        self.assertEqual(self.kept.migrate("lists", append, ANY), ("large", "ab"))
        self.assertEqual(contents(self.kept, ["lists"]), before)
        self.kept.store("lists", "A", of_depth(12))
        self.assertEqual(self.kept.migrate("lists", append, ANY), ("large", "ab"))
        self.assertEqual(self.kept.migrate("lists", (("copy", (), (0,)),), ANY), ("large", "A"))
        # The results of all documents are looked at, not only of those that come first.
        self.kept.create("deep", ANY)
        self.kept.store("deep", "a", ints(1))
        self.kept.store("deep", "z", of_depth(12))
        wrap = (("when", (), ("list", ANY, 0, None), (("copy", (), (0,)),), ()),)
        self.assertEqual(self.kept.migrate("deep", wrap, ANY), ("large", "z"))
        self.assertEqual(self.kept.versions_of("deep", "a"), [ints(1)])
        self.assertEqual(self.kept.migrate("deep", wrap, NEVER)[0], "breaks")

    def test_done(self):
        self.kept.apply("numbers", "one", "careful")
        self.kept.apply("numbers", "one", "careful")
        self.kept.admit("numbers", "low", (("when", (), ("int", 0, 5), ZERO, ()),))
        self.assertEqual(self.kept.migrate("numbers", UP * 2, ("int", 2, 11)), ("done", ["low", "zero"]))
        self.assertEqual(self.kept.schema_of("numbers"), ("int", 2, 11))
        self.assertEqual(self.kept.keys_of("numbers"), ["nine", "one"])
        self.assertEqual(self.kept.versions_of("numbers", "one"), [("int", 5)])
        self.assertEqual(self.kept.versions_of("numbers", "nine"), [("int", 11)])
        self.assertEqual(self.kept.patch_names("numbers"), [("careful", False), ("failing", False), ("up", True)])
        self.assertIs(self.kept.undo("numbers", "one"), False)
        self.raises(UnknownName, "apply", "numbers", "one", "zero")
        self.assertIsNone(self.kept.admit("numbers", "zero", (("replace", (), ("int", 3)),)))
        self.assertEqual(contents(self.kept)[1], contents(made_vault())[1])

    def test_the_new_guard_is_used(self):
        self.assertEqual(self.kept.migrate("numbers", (), ("int", 0, 20)), ("done", []))
        self.assertIn(("up", True), self.kept.patch_names("numbers"))
        # By the guard from before, nothing above 8 was increased.
        for _ in range(11):
            self.assertIs(self.kept.apply("numbers", "nine", "up"), True)
        self.assertIs(self.kept.apply("numbers", "nine", "up"), False)
        self.assertEqual(self.kept.versions_of("numbers", "nine")[-1], ("int", 20))

    def test_a_guard_that_is_no_longer_needed(self):
        self.assertEqual(self.kept.migrate("numbers", (), ("int", None, None)), ("done", []))
        self.assertEqual(self.kept.patch_names("numbers"), [("careful", False), ("failing", False), ("up", False), ("zero", False)])
        self.assertIs(self.kept.apply("numbers", "nine", "up"), True)
        # Now it is a patch without a guard, and is dropped like one.
        self.assertEqual(self.kept.migrate("numbers", (("replace", (), ("int", 3)),), NINE), ("done", ["up"]))
        self.assertEqual(self.kept.patch_names("numbers"), [("careful", False), ("failing", False), ("zero", False)])

    def test_dropped_names_are_ascending(self):
        self.kept.create("new", ("int", None, None))
        shuffled = list(NAMES)
        random.Random(253).shuffle(shuffled)
        for name in shuffled:
            self.kept.admit("new", name, UP if len(name) < 2 else ())
        dropped = [name for name in NAMES if len(name) < 2]
        self.assertEqual(self.kept.migrate("new", (("replace", (), ("int", 1)),), NINE), ("done", dropped))
        self.assertEqual(self.kept.patch_names("new"), [(name, False) for name in NAMES if len(name) > 1])

    def test_the_schema_of_before_does_not_count_any_more(self):
        self.assertEqual(self.kept.migrate("numbers", (("replace", (), NULL),), ("null",)), ("done", ["zero"]))
        self.raises(InvalidDocument, "store", "numbers", "two", ("int", 2))
        self.assertIsNone(self.kept.store("numbers", "two", NULL))
        self.assertEqual(self.kept.versions_of("numbers", "one"), [NULL])
        # On null, the careful patch changes nothing, and the others fail.
        self.assertEqual(self.kept.patch_names("numbers"), [("careful", False), ("failing", False), ("up", False)])

    def test_without_documents(self):
        self.kept.create("empty", NINE)
        self.assertEqual(self.kept.migrate("empty", UP, ("int", 1, 10)), ("done", []))
        self.assertEqual(self.kept.schema_of("empty"), ("int", 1, 10))


class MadeUp(unittest.TestCase):
    """Vaults beside a model that keeps everything in one dict."""

    def check_migration(self, kept, patch, new):
        schema, documents = kept.schema_of("c"), {key: kept.versions_of("c", key) for key in kept.keys_of("c")}
        patches = kept.patch_names("c")
        answer = kept.migrate("c", patch, new)
        if judge(schema, patch, new) != ("kept",):
            self.assertEqual(answer, judge(schema, patch, new))
        elif always_applies(schema, patch) != ("applies",):
            self.assertEqual(answer, always_applies(schema, patch))
        else:
            self.assertEqual(answer[0], "done")
            self.assertEqual(kept.schema_of("c"), new)
            for key, versions in documents.items():
                self.assertEqual(kept.versions_of("c", key), [apply(patch, versions[-1])])
            return answer[1]
        self.assertEqual((kept.schema_of("c"), kept.patch_names("c")), (schema, patches))
        return None

    def test_vaults(self):
        rng = random.Random(254)
        moved = refused = versions = 0
        for _ in range(120):
            schema = made_schema(rng, 3)
            kept, admitted, documents = Vault(), {}, {}
            kept.create("c", schema)
            for key in "xyz":
                value = fitting_value(rng, schema, 3)
                if is_valid(schema, value):
                    kept.store("c", key, value)
                    documents[key] = [value]
            for name in "abcdef":
                patch = made_patch(rng, 2, fitting_value(rng, schema, 3))
                keeps = judge(schema, patch, schema) == ("kept",)
                if rng.random() < 0.5:
                    self.assertIs(kept.admit_guarded("c", name, patch), not keeps)
                    admitted[name] = (patch, None if keeps else guard(patch, schema))
                elif kept.admit("c", name, patch) is None:
                    self.assertTrue(keeps)
                    admitted[name] = (patch, None)
                else:
                    self.assertFalse(keeps)
            self.assertEqual(kept.patch_names("c"), [(name, admitted[name][1] is not None) for name in sorted(admitted)])
            for name, (patch, condition) in sorted(admitted.items()):
                for key in documents:
                    latest = documents[key][-1]
                    result = apply(patch, latest)
                    fits = result is not None and (condition is None or holds(condition, latest))
                    fits = fits and size_of(result) <= 200 and depth_of(result) <= 12
                    self.assertIs(kept.apply("c", key, name), fits)
                    documents[key] += [result] if fits else []
                    versions += fits
                    self.assertEqual(kept.versions_of("c", key), documents[key])
                    self.assertTrue(is_valid(schema, documents[key][-1]))
            new = rng.choice((schema, made_schema(rng, 3), ANY, ("either", (schema, made_schema(rng, 2)))))
            dropped = self.check_migration(kept, rng.choice(((), made_patch(rng, 2, fitting_value(rng, schema, 3)))), new)
            refused += dropped is None
            if dropped is not None:
                moved += 1
                stays = {name: judge(new, patch, new) == ("kept",) for name, (patch, _) in admitted.items()}
                self.assertEqual(dropped, [name for name in sorted(admitted) if admitted[name][1] is None and not stays[name]])
                left = [(name, not stays[name]) for name in sorted(admitted) if name not in dropped]
                self.assertEqual(kept.patch_names("c"), left)
        self.assertGreater(min(moved, refused, versions), 15)

    def test_equal_calls_give_equal_answers_and_arguments_stay(self):
        rng = random.Random(255)
        for _ in range(40):
            schema = made_schema(rng, 3)
            value, patch = fitting_value(rng, schema, 3), made_patch(rng, 2, fitting_value(rng, schema, 3))
            given = (schema, value, patch)
            kept = remade(given)
            told = []
            for inputs in (given, kept):
                one = Vault()
                one.create("c", inputs[0])
                if is_valid(schema, value):
                    one.store("c", "k", inputs[1])
                answers = [one.admit("c", "a", inputs[2]), one.admit_guarded("c", "b", inputs[2]), one.apply_all("c", "b")]
                told.append((answers, one.migrate("c", inputs[2], inputs[0]), contents(one, ["c"])))
            self.assertEqual(told[0], told[1])
            self.assertEqual(given, kept)


if __name__ == "__main__":
    unittest.main()
