"""Passedits: tables that turn two edits of a list past each other."""
