"""A file through the office: its texts taken apart into sentences, translated, brought over to newer versions."""
