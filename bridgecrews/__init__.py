"""Bridgecrews: bridges dealt out to crews."""
