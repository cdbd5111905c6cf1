"""Names, values and agendas."""
