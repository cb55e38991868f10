"""Fieldtable: header fields of many streams written against one table."""
