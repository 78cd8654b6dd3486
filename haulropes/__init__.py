"""Haulropes: hauling barges that are tied by ropes."""
