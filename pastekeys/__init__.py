"""Pastekeys: texts that are typed and pasted."""
