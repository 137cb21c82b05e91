"""The kiln: firing programs are judged for a glass, and their time is told."""
