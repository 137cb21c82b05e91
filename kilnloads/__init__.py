"""The kiln: programs are judged for a glass, their temperatures told, painted panes parted into loads."""
