"""Rentroll: flats let and billed day by day, put right when letters come late."""
