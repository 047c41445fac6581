"""Paidback: bills shared by all who are in."""
