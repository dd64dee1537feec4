"""What several test files share: values in another form, values that differ in one place, and made-up inputs."""

import ast
import inspect
import itertools

NULL = ("null",)
KINDS = ("null", "bool", "int", "text", "list", "object")
NAMES = ("", "a", "b", "c")


def ints(*numbers):
    return ("list", tuple(("int", number) for number in numbers))


def texts(*strings):
    return ("list", tuple(("text", string) for string in strings))


def fields(**named):
    return ("object", tuple(sorted(named.items())))


def check_interface(case, module, listed):
    """Each name is a function that the module itself defines, with these arguments."""
    for name, arguments in listed.items():
        function = getattr(module, name)
        case.assertEqual(list(inspect.signature(function).parameters), arguments)
        case.assertEqual(function.__module__, module.__name__)


# In the plain form, lists and objects are Python's own lists and dicts, which can be changed in place; a leaf
# stays a tuple.

def to_plain(value):
    if value[0] == "list":
        return [to_plain(item) for item in value[1]]
    if value[0] == "object":
        return {name: to_plain(part) for name, part in value[1]}
    return value


def from_plain(plain):
    if isinstance(plain, list):
        return ("list", tuple(from_plain(item) for item in plain))
    if isinstance(plain, dict):
        return ("object", tuple((name, from_plain(plain[name])) for name in sorted(plain)))
    return plain


def leads(plain, token):
    if isinstance(token, str):
        return isinstance(plain, dict) and token in plain
    return isinstance(plain, list) and 0 <= token < len(plain)


def places_in(value, path=()):
    """All paths that lead to a place in the value, the empty one first."""
    found = [path]
    if value[0] == "list":
        for index, item in enumerate(value[1]):
            found += places_in(item, path + (index,))
    if value[0] == "object":
        for name, part in value[1]:
            found += places_in(part, path + (name,))
    return found


def place_of(value, path):
    """The value at the path, or None."""
    plain = to_plain(value)
    for token in path:
        if not leads(plain, token):
            return None
        plain = plain[token]
    return from_plain(plain)


def remade(parts):
    """Equal tuples that share no object with the given ones."""
    return ast.literal_eval(repr(parts))


def consists_of_tuples(parts):
    if isinstance(parts, tuple):
        return all(consists_of_tuples(part) for part in parts)
    return parts is None or isinstance(parts, (str, int))


def leaf_variants(leaf):
    kind = leaf[0]
    others = [NULL, ("bool", False), ("int", 0), ("int", 1), ("text", ""), ("text", "null")]
    others += [("list", ()), ("object", ())]
    if kind == "bool":
        others.append(("bool", not leaf[1]))
    if kind == "int":
        others += [("int", leaf[1] + 1), ("int", leaf[1] - 1), ("int", -leaf[1]), ("text", str(leaf[1]))]
    if kind == "text":
        texts = [leaf[1] + "x", "x" + leaf[1], leaf[1] + " ", leaf[1][1:], leaf[1][:-1]]
        others += [("text", text) for text in texts]
    return others


def list_variants(items):
    found = [items + (NULL,), (NULL,) + items, items + items]
    for index, item in enumerate(items):
        before, behind = items[:index], items[index + 1:]
        found += [before + behind, before + (item, item) + behind]
        found += [before + (other,) + behind for other in variants(item)]
    for first, second in itertools.combinations(range(len(items)), 2):
        changed = list(items)
        changed[first], changed[second] = changed[second], changed[first]
        found.append(tuple(changed))
    return [NULL, ("object", ())] + [("list", changed) for changed in found]


def object_variants(fields):
    plain = dict(fields)
    found = [{**plain, name: NULL} for name in ("", "a", "zz", "~")]
    for name, part in fields:
        rest = {other: plain[other] for other in plain if other != name}
        found += [rest, {**rest, name + "x": part}, {**rest, name[:-1]: part}]
        found += [{**plain, name: other} for other in variants(part)]
    for first, second in itertools.combinations(plain, 2):
        found.append({**plain, first: plain[second], second: plain[first]})
    return [NULL, ("list", ())] + [("object", tuple(sorted(changed.items()))) for changed in found]


def variants(value):
    """Values that differ from the value in one place."""
    if value[0] == "list":
        found = list_variants(value[1])
    elif value[0] == "object":
        found = object_variants(value[1])
    else:
        found = leaf_variants(value)
    return [other for other in found if other != value]


# Made-up inputs: `rng` is a random.Random with a fixed seed, so that each run makes up the same ones.

def made_value(rng, depth, kinds=KINDS):
    word = rng.choice(kinds if depth > 1 else KINDS[:4])
    if word == "null":
        return NULL
    if word == "bool":
        return ("bool", rng.random() < 0.5)
    if word == "int":
        return ("int", rng.randrange(-2, 4))
    if word == "text":
        return ("text", rng.choice(("", "a", "b", "ab", "abc")))
    if word == "list":
        return ("list", tuple(made_value(rng, depth - 1) for _ in range(rng.randrange(4))))
    names = sorted(rng.sample(NAMES, rng.randrange(4)))
    return ("object", tuple((name, made_value(rng, depth - 1)) for name in names))


def made_path(rng, length):
    return tuple(rng.choice(NAMES + (0, 1, 2)) for _ in range(rng.randrange(length + 1)))


def made_bounds(rng, low):
    first, second = rng.randrange(low, 4), rng.randrange(low, 5)
    return first, (None if rng.random() < 0.4 else second)


def made_schema(rng, depth):
    leaves = ("any", "never", "null", "bool", "int", "text", "const")
    word = rng.choice(leaves + ("list", "tuple", "object", "either", "all", "not") * 2 if depth > 1 else leaves)
    if word == "int":
        low, high = made_bounds(rng, -2)
        return ("int", rng.choice((low, None)), high)
    if word == "text":
        return ("text",) + made_bounds(rng, 0)
    if word == "const":
        return ("const", made_value(rng, 2))
    if word == "list":
        return ("list", made_schema(rng, depth - 1)) + made_bounds(rng, 0)
    if word in ("tuple", "either", "all"):
        return (word, tuple(made_schema(rng, depth - 1) for _ in range(rng.randrange(4))))
    if word == "not":
        return ("not", made_schema(rng, depth - 1))
    if word == "object":
        names = rng.sample(NAMES, rng.randrange(4))
        rows = tuple((name, made_schema(rng, depth - 1), rng.random() < 0.5) for name in names)
        return ("object", rows, made_schema(rng, depth - 1))
    return (word,)


def fitting_value(rng, schema, depth):
    """A value that has a good chance to be valid by the schema."""
    word = schema[0]
    if rng.random() < 0.05 or depth < 1:
        return made_value(rng, 2)
    if word == "null":
        return NULL
    if word == "bool":
        return ("bool", rng.random() < 0.5)
    if word == "int":
        return ("int", rng.choice([bound for bound in schema[1:] if bound is not None] or [0]))
    if word == "text":
        return ("text", "abcdefg"[:schema[1]])
    if word == "const":
        return schema[1]
    if word == "list":
        return ("list", tuple(fitting_value(rng, schema[1], depth - 1) for _ in range(schema[2])))
    if word == "tuple":
        return ("list", tuple(fitting_value(rng, inner, depth - 1) for inner in schema[1]))
    if word in ("either", "all") and schema[1]:
        return fitting_value(rng, rng.choice(schema[1]), depth - 1)
    if word == "object":
        plain = {name: fitting_value(rng, inner, depth - 1) for name, inner, required in schema[1] if required}
        plain.update({name: fitting_value(rng, inner, depth - 1) for name, inner, _ in schema[1] if rng.random() < 0.5})
        if rng.random() < 0.5:
            plain.setdefault("c", fitting_value(rng, schema[2], depth - 1))
        return ("object", tuple(sorted(plain.items())))
    return made_value(rng, 2)


def fitting_path(rng, value, kinds=KINDS):
    """A path that has a good chance to lead to a place of one of these kinds in the value."""
    fitting = [path for path in places_in(value) if place_of(value, path)[0] in kinds]
    if not fitting or rng.random() < 0.1:
        return made_path(rng, 3)
    return rng.choice(fitting)


def fitting_target(rng, value):
    """A path at which a value can perhaps be put."""
    if rng.random() < 0.1:
        return ()
    parent = fitting_path(rng, value, ("list", "object"))
    return parent + (rng.choice(NAMES + (0, 1, -1)),)


def made_step(rng, depth, value):
    """A step that has a good chance not to fail for the value."""
    words = ("test", "add", "remove", "replace", "move", "copy", "increase")
    word = rng.choice(words + ("each", "when") * 2 if depth > 1 else words)
    path = fitting_path(rng, value)
    if word == "test":
        return ("test", path, place_of(value, path) or made_value(rng, 2))
    if word == "add":
        return ("add", fitting_target(rng, value), made_value(rng, 2))
    if word == "replace":
        return ("replace", path, made_value(rng, 2))
    if word in ("move", "copy"):
        return (word, path, fitting_target(rng, value))
    if word == "increase":
        return ("increase", fitting_path(rng, value, ("int",)), rng.randrange(-3, 4))
    if word == "each":
        path = fitting_path(rng, value, ("list", "object"))
        return ("each", path, made_patch(rng, depth - 1, place_of(value, path + (0,)) or made_value(rng, 2)))
    if word == "when":
        return ("when", path, made_schema(rng, 2), made_patch(rng, depth - 1, value), made_patch(rng, depth - 1, value))
    return (word, path)


def made_patch(rng, depth, value):
    return tuple(made_step(rng, depth, value) for _ in range(rng.randrange(4)))


def made_leaf_formula(rng):
    word = rng.choice(("true", "false", "kind", "int_from", "bool_is", "text_is", "text_from", "items_from"))
    if word == "kind":
        return ("kind", rng.choice(KINDS))
    if word == "int_from":
        return ("int_from", rng.randrange(-2, 4))
    if word == "bool_is":
        return ("bool_is", rng.random() < 0.5)
    if word == "text_is":
        return ("text_is", rng.choice(("", "a", "b", "ab", "abc")))
    if word in ("text_from", "items_from"):
        return (word, rng.randrange(4))
    return (word,)


def made_formula(rng, depth, words=("not", "and", "or", "at", "each_item", "each_field")):
    if depth < 2 or rng.random() < 0.1:
        return made_leaf_formula(rng)
    word = rng.choice(words)
    inside = tuple(other for other in words if other != "held" or word in ("not", "and", "or"))
    if word in ("and", "or"):
        return (word, tuple(made_formula(rng, depth - 1, inside) for _ in range(rng.randrange(4))))
    inner = made_formula(rng, depth - 1, inside)
    if word == "at":
        return ("at", made_path(rng, 2), inner)
    if word == "each_item":
        return ("each_item", rng.randrange(4), inner)
    if word == "each_field":
        return ("each_field", tuple(rng.choice(NAMES) for _ in range(rng.randrange(4))), inner)
    return (word, inner)


def formulas_in(formula):
    """The list of the formulas that a formula contains directly."""
    if formula[0] in ("and", "or"):
        return list(formula[1])
    if formula[0] in ("not", "at", "each_item", "each_field", "held"):
        return [formula[-1]]
    return []


def nesting_of(formula):
    depth = 0
    level = [formula]
    while level:
        depth += 1
        level = [inner for part in level for inner in formulas_in(part)]
    return depth


def has_held(formula):
    waiting = [formula]
    while waiting:
        part = waiting.pop()
        if part[0] == "held":
            return True
        waiting.extend(formulas_in(part))
    return False


def leaf_about(rng, kind):
    words = {"int": ("int_from",), "text": ("text_is", "text_from"), "bool": ("bool_is",)}
    word = rng.choice(words.get(kind, ("kind", "int_from", "int_from", "text_is", "text_from", "bool_is")))
    if word == "kind":
        return ("kind", rng.choice(KINDS[:4]))
    if word == "text_is":
        return ("text_is", rng.choice(("", "a", "b")))
    return (word, rng.random() < 0.5 if word == "bool_is" else rng.randrange(3))


def formula_about(rng, kind, depth, joints=2):
    """A formula whose parts are mostly about one kind of values, so that they have to do with each other."""
    chance = rng.random()
    if joints and chance < 0.6:
        parts = [formula_about(rng, kind, depth, joints - 1) for _ in range(rng.randrange(2, 5))]
        return (rng.choice(("and", "and", "or")), tuple(parts))
    if joints and chance < 0.75:
        return ("not", formula_about(rng, kind, depth, joints - 1))
    if depth == 0 or kind in KINDS[:4]:
        return leaf_about(rng, kind)
    inner = formula_about(rng, rng.choice(("list", "object", "int", "any") if depth > 1 else ("int", "any")), depth - 1)
    word = rng.choice({"list": ("each_item", "at"), "object": ("each_field", "at")}.get(kind, ("each_item", "each_field")))
    if kind == "list" and chance > 0.95:
        return ("items_from", rng.randrange(4))
    if word == "at":
        formula = ("at", (rng.randrange(3) if kind == "list" else rng.choice("abc"),), inner)
    elif word == "each_item":
        formula = ("each_item", rng.randrange(3), inner)
    else:
        formula = ("each_field", tuple(rng.choice("abc") for _ in range(rng.randrange(3))), inner)
    return ("not", formula) if rng.random() < 0.4 else formula


def made_document(rng, depth):
    """A list or an object of leaves that the formulas of `formula_about` tell apart."""
    def part():
        if depth > 1 and rng.random() < 0.4:
            return made_document(rng, depth - 1)
        leaves = [NULL, ("bool", rng.random() < 0.5), ("int", rng.randrange(-1, 3))]
        return rng.choice(leaves + [("int", rng.randrange(3)), ("text", rng.choice(("", "a", "b", "c", "cc")))])
    if rng.random() < 0.5:
        return ("list", tuple(part() for _ in range(rng.randrange(6))))
    return ("object", tuple((name, part()) for name in sorted(rng.sample("abcdef", rng.randrange(5)))))


def steps_in(patch):
    """How many steps a patch has, those of contained patches included."""
    inner = [part for step in patch if step[0] in ("each", "when") for part in step[2 if step[0] == "each" else 3:]]
    return len(patch) + sum(steps_in(part) for part in inner)


def whens_in(patch):
    inner = [part for step in patch if step[0] in ("each", "when") for part in step[2 if step[0] == "each" else 3:]]
    return len([step for step in patch if step[0] == "when"]) + sum(whens_in(part) for part in inner)


def made_long_patch(rng, value):
    """A patch of 4 to 8 steps, nested up to 3 deep."""
    patch = ()
    while not (4 <= steps_in(patch) <= 8 and whens_in(patch) <= 3):
        patch = tuple(made_step(rng, 3, value) for _ in range(rng.randrange(2, 6)))
    return patch
