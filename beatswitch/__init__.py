"""Beatswitch: lines in and lines out, matched at each beat."""
