"""Quietsmith: great numbers, compiled to machine code that keeps secrets."""
