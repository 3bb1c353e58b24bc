"""News from one: how news goes through a tree of people, each telling one an hour."""
