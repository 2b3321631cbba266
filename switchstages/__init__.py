"""Switchstages: programs for packets, laid into the stages of a chip."""
