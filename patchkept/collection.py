"""A collection of a vault: its schema, its documents and its admitted patches (points 25 and 26)."""

from patchkept.errors import InvalidDocument, NameTaken, UnknownName
from patchkept.formulas import holds
from patchkept.judging import guard, judge
from patchkept.patches import apply
from patchkept.schemas import is_valid
from patchkept.values import depth_of, size_of

LARGEST_DOCUMENT = 200
DEEPEST_DOCUMENT = 12


def is_too_large(value):
    """Return True if a value is too large or too deep for a document."""
    return size_of(value) > LARGEST_DOCUMENT or depth_of(value) > DEEPEST_DOCUMENT


class Collection:
    """A schema, a dict of the versions of each document, and a dict of pairs of each patch and its guard, or None."""

    def __init__(self, schema):
        self.schema = schema
        self.documents = {}
        self.patches = {}

    def store(self, key, value):
        """Make a document with this one version."""
        if key in self.documents:
            raise NameTaken("there is such a document")
        if not is_valid(self.schema, value) or is_too_large(value):
            raise InvalidDocument("not valid, or too large or deep")
        self.documents[key] = [value]

    def versions(self, key):
        """Return the list of the versions of a document, the collection's own one."""
        if key not in self.documents:
            raise UnknownName("no such document")
        return self.documents[key]

    def admitted(self, name):
        """Return the pair of an admitted patch and its guard, or None."""
        if name not in self.patches:
            raise UnknownName("no such patch")
        return self.patches[name]

    def judged(self, name, patch):
        """Return how a patch of a new name keeps the contract of the schema with itself."""
        if name in self.patches:
            raise NameTaken("there is such a patch")
        return judge(self.schema, patch, self.schema)

    def admit(self, name, patch):
        """Admit a patch without a guard and return None, or return a value at which it breaks the contract."""
        answer = self.judged(name, patch)
        if answer[0] == "breaks":
            return answer[1]
        self.patches[name] = (patch, None)
        return None

    def admit_guarded(self, name, patch):
        """Admit a patch, with a guard if it needs one, and return whether it does."""
        needs_guard = self.judged(name, patch)[0] == "breaks"
        self.patches[name] = (patch, guard(patch, self.schema) if needs_guard else None)
        return needs_guard

    def new_version(self, key, name):
        """Return the new version of a document by an admitted patch, or None if it gets none."""
        patch, condition = self.admitted(name)
        latest = self.documents[key][-1]
        if condition is not None and not holds(condition, latest):
            return None
        result = apply(patch, latest)
        return None if result is None or is_too_large(result) else result

    def apply_to(self, keys, name):
        """Apply an admitted patch to the documents, if each gets a new version by it, and return whether they do."""
        new = {key: self.new_version(key, name) for key in keys}
        if any([version is None for version in new.values()]):
            return False
        for key in keys:
            self.documents[key].append(new[key])
        return True

    def moved(self, patch, schema):
        """Return the collection by the new schema, without patches: each document is what the patch makes of it."""
        collection = Collection(schema)
        for key in sorted(self.documents):
            collection.documents[key] = [apply(patch, self.documents[key][-1])]
        return collection

    def take_over(self, patches):
        """Admit patches of another schema where they keep the contract or had a guard; return the names of the rest."""
        dropped = []
        for name in sorted(patches):
            patch, condition = patches[name]
            if condition is not None:
                self.admit_guarded(name, patch)
            elif self.admit(name, patch) is not None:
                dropped.append(name)
        return dropped
