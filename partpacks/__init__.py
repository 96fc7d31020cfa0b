"""What can be left out: packs. Call partpacks.packs.answers."""
