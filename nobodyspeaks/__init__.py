"""Nobodyspeaks: agents that read what strangers write, and what strangers can bring about in them."""
