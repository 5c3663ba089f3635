"""A turning tray: guests round a table, and what they want of its dishes."""
