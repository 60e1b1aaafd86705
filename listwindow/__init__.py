"""Listwindow: one window onto a list. Each name is imported from the module that defines it."""
