"""Surepast: what of the past is sure, whatever comes."""
