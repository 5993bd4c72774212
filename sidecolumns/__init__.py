"""A store of columns: sidecolumns.store.answers is the way in."""
