"""Vaults, which keep documents and change them by judged patches (points 25 to 27)."""

from patchkept.collection import Collection, is_too_large
from patchkept.errors import NameTaken, UnknownName
from patchkept.judging import always_applies, judge


class Vault:
    """A vault, at first without collections."""

    def __init__(self):
        self.by_name = {}

    def of_name(self, collection):
        """Return the collection of this name."""
        if collection not in self.by_name:
            raise UnknownName("no such collection")
        return self.by_name[collection]

    def create(self, collection, schema):
        """Make a collection without documents and patches."""
        if collection in self.by_name:
            raise NameTaken("there is such a collection")
        self.by_name[collection] = Collection(schema)

    def schema_of(self, collection):
        """Return the schema of a collection."""
        return self.of_name(collection).schema

    def store(self, collection, key, value):
        """Make a document with this one version."""
        self.of_name(collection).store(key, value)

    def admit(self, collection, name, patch):
        """Admit a patch that keeps the contract and return None, otherwise return a value at which it does not."""
        return self.of_name(collection).admit(name, patch)

    def admit_guarded(self, collection, name, patch):
        """Admit a patch, with a guard if it does not keep the contract, and return whether it has one."""
        return self.of_name(collection).admit_guarded(name, patch)

    def patch_names(self, collection):
        """Return the list of pairs of the name of an admitted patch and whether it has a guard, ascending."""
        patches = self.of_name(collection).patches
        return [(name, patches[name][1] is not None) for name in sorted(patches)]

    def keys_of(self, collection):
        """Return the list of the keys of the documents, ascending."""
        return sorted(self.of_name(collection).documents)

    def versions_of(self, collection, key):
        """Return the list of the versions of a document."""
        return list(self.of_name(collection).versions(key))

    def apply(self, collection, key, name):
        """Apply an admitted patch to a document, and return whether there is a new version."""
        kept = self.of_name(collection)
        kept.versions(key)
        return kept.apply_to([key], name)

    def apply_all(self, collection, name):
        """Apply an admitted patch to each document if each gets a new version by it, and return whether they do."""
        kept = self.of_name(collection)
        kept.admitted(name)
        return kept.apply_to(sorted(kept.documents), name)

    def undo(self, collection, key):
        """Take the latest version of a document away and return True, or return False if it is the only one."""
        versions = self.of_name(collection).versions(key)
        if len(versions) == 1:
            return False
        versions.pop()
        return True

    def migrate(self, collection, patch, schema):
        """Move the collection to another schema, or return why the patch does not allow it."""
        kept = self.of_name(collection)
        judged = judge(kept.schema, patch, schema)
        if judged[0] == "breaks":
            return judged
        applied = always_applies(kept.schema, patch)
        if applied[0] == "fails":
            return applied
        moved = kept.moved(patch, schema)
        for key in sorted(moved.documents):
            if is_too_large(moved.documents[key][0]):
                return ("large", key)
        dropped = moved.take_over(kept.patches)
        self.by_name[collection] = moved
        return ("done", dropped)
