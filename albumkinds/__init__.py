"""All kinds: how many draws it takes till each kind is there."""
