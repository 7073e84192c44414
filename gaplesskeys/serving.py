"""Which kinds answer calls of a role, and which editions accept a key there."""


def server_kinds(fleet, role):
    """The server kinds of a role, in alphabetical order."""
    return sorted(set([server for name, _, server, _ in fleet.calls() if name == role]))


def accepting(contents, role, key):
    """The numbers of the contents of a list that accept a key in a role."""
    return [number for number in range(len(contents)) if key in contents[number].accepted(role)]
