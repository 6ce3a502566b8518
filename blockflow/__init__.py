"""A small function in blocks; blockflow.desk answers the calls on it."""
