"""Timesfloor: the floors that can be laid are the runs of a machine of fractions."""
