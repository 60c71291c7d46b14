"""Seamhall: drafts of garments, read, printed and worked. The calls are in seamdrafts.drafts."""
