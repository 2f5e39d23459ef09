"""Pages made of templates and of data that anybody may have written."""
