"""Stemsure: words of stems, affixes and compounds."""
