"""The kiln: firing programs are judged for a glass."""
