"""A weighbridge: lorries are weighed full and empty, and what lies between is booked."""
