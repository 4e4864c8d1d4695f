"""Roadpence: what travellers spent, told and paid back."""
