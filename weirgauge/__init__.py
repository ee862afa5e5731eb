"""Weirgauge: counts of what comes late, in windows of its own time."""
