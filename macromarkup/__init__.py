"""Macro markup: a language with commands, environments and macros, and its document trees."""
