"""Windowada: a small Ada compiled for a processor with register windows."""
