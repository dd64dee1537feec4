"""The JSON text of a value (point 21)."""


def write_text(text):
    """Return the text in double quotes."""
    escaped = text.replace("\\", "\\\\").replace("\"", "\\\"")
    return "\"" + escaped + "\""


def write_value(value):
    """Return the JSON text of a value."""
    kind = value[0]
    if kind == "null":
        return "null"
    content = value[1]
    if kind == "bool":
        return "true" if content else "false"
    if kind == "int":
        return str(content)
    if kind == "text":
        return write_text(content)
    if kind == "list":
        written = ",".join([write_value(item) for item in content])
        return f"[{written}]"
    fields = [f"{write_text(name)}:{write_value(part)}" for name, part in content]
    return "{" + ",".join(fields) + "}"
