"""The tests of ramet. They use only the names that the document's interface lists."""
