"""Sets of rows, sixty-four at a time: the calls stand in rowsets.columns."""
