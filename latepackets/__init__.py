"""The receiver of a stream of numbered packets over a net that loses some."""
