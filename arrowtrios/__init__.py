"""Arrowtrios: three places whose arrows change by turns."""
