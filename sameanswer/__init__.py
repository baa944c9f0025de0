"""Sameanswer: a relational database that commits what would be answered again."""
