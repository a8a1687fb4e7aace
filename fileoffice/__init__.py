"""A file through the office: its texts taken apart, translated, put together, brought over to newer versions."""
