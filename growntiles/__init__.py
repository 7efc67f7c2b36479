"""Tiles that grow: growntiles.letters.answers answers the calls of one line."""
