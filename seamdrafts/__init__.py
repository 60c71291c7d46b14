"""Seamhall: drafts of garments, read and printed. The calls are in seamdrafts.drafts."""
