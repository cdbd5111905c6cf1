"""Texts of agendas, rules and values, and a shell over a desk."""
