"""Fromsize: all rules of tables of d rows come of one."""
