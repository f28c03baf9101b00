"""Makeyard: things made of things by recipes, and made anew only where they must be."""
