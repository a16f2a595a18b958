"""Parts with queues between them, explored whole: see queuedparts.desk."""
