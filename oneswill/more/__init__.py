"""Agendas that change, agendas of orders, and agendas with a conclusion."""
