"""The policies of tenants."""

from nextbough.checks import need
from nextbough.errors import InvalidPolicy, NotUsable
from nextbough.leaning import lean_policy
from nextbough.policytexts import read_policy


def tenant_policy(text, lean):
    """The policy of the text; lean tells whether it is melted."""
    policy = policy_told(text)
    need_lean(lean)
    return lean_policy(policy)[0] if lean else policy


def policy_told(text):
    """The policy of the text; text is refused unless it is that of one."""
    try:
        return read_policy(text)
    except InvalidPolicy:
        raise NotUsable("text", -1) from None


def need_lean(lean):
    """Refuses lean unless it is True or False."""
    need(isinstance(lean, bool), "lean")
