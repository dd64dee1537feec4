"""Patchkept: deciding whether a patch keeps a schema, for all documents."""
