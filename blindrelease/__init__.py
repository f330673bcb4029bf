"""What goes out blind: releases of a table that hide each of its sleepers."""
