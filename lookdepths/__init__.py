"""How deep a solver must look, with papers both ways."""
