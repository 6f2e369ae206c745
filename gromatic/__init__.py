"""Gromatic: a map works, from readings between marks to the tiles that far readers hold."""
