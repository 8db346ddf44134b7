"""Beams and stems: beamstem.beams holds the program."""
