"""The tests of fieldtable."""
