"""Seamhall: drafts of garments, and the patterns that they mean. The calls are in seamdrafts.drafts."""
