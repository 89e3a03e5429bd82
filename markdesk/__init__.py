"""Marks: how well texts answer what is asked, in exact fractions."""
