"""Freshpromise: promising goods that keep for a while."""
