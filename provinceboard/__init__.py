"""A board of provinces as text: provinceboard.desk.answers answers a list of calls."""
