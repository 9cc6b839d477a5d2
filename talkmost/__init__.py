"""Talkmost: what a teller can bring others to do."""
