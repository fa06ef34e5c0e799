"""Processions of any length whose groups hear their marshals' words late."""
