"""The tests of Patchkept."""
