"""Works set in lines and pages at the least cost."""
