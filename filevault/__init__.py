"""A store of files within a file: its bytes held to their form, and looked into."""
