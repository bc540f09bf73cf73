"""People called two by two round a clock, who change seats if they sit apart."""
