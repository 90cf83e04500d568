"""Holds the files of the package against the rules of LANGUAGE.md."""
