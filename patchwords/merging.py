"""Merges a value with another one."""
from patchwords.values import members_value, plain_value


def merged(value, other):
    if not isinstance(other.content, dict):
        return other
    members = dict(value.content) if isinstance(value.content, dict) else {}
    for name, change in other.content.items():
        if change.content is None:
            members.pop(name, None)
        else:
            # A member that wasn't there is merged too: so no null within what's new is a member.
            members[name] = merged(members.get(name, plain_value(None)), change)
    return members_value(members)
