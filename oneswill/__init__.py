"""Oneswill: which agendas leave only one person's will."""
