"""The kiln: firing programs are judged for a glass, and their time and temperatures are told."""
