"""A pacemaker that feels the heart's two chambers and paces them in time."""
