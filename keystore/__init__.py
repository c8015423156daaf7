"""Keys: a store of keys whose changes are gathered in transactions."""
