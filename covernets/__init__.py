"""Covernets: deciding systems of any number of alike parties."""
