"""Parts with limits, assemblies of them, and what their limits cost."""
