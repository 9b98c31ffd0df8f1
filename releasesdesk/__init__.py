"""Catalogues of translated texts, carried through releases."""
