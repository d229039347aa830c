"""Manyquills: one text written by hands apart."""
