"""Strands of four letters; the calls are in fourletters.strands."""
