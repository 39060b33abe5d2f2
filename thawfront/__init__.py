"""Thawfront: how deep frozen ground thaws, by heat and cold, year upon year."""
