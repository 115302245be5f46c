"""Flat messages, read where they lie: see flatmessages.messages."""
