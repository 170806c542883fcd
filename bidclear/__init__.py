"""Bidclear: buyers and sellers meet at one price."""
