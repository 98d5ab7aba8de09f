"""Portage: objects that are carried between machines in the midst of their calls."""
