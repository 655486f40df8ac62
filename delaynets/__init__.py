"""Delaynets: streams that change their rates, decided for all signals."""
