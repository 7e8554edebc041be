"""Certificates: what they show, their faults, and the one that is made (q1 to q3)."""

from heldwater.basins import claim_cell, claim_size, claims
from heldwater.flows import greatest, short_claims
from heldwater.forms import is_plan, is_tuple_of
from heldwater.operations import operation
from heldwater.plans import gives, plan_fault
from heldwater.regions import claims_before, given_within, is_region, is_used_up, most_within, reason


def certificate_fault(basin, rights, certificate):
    """The fault of a certificate, whatever it is, or None (q1)."""
    if not has_form(basin, rights, certificate):
        return ("form",)
    plan, regions = certificate
    fault = plan_fault(basin, rights, plan)
    if fault is not None:
        return fault
    amounts = gives(basin, rights, plan)
    lacking = lacking_claims(basin, rights, amounts)
    if len(regions) != len(lacking):
        return ("regions",)
    for k, region in enumerate(regions):
        if not (is_region(basin, region) and is_used_up(basin, rights, amounts, region, lacking[k])):
            return "region", k
    return None


def has_form(basin, rights, certificate):
    """Whether this is a pair of a plan in the form of c4 and a tuple, whatever it is."""
    if not is_tuple_of(certificate, 2):
        return False
    plan, regions = certificate
    return is_plan(basin, rights, plan) and isinstance(regions, tuple)


def lacking_claims(basin, rights, amounts):
    """The claims that get less than they are, if all claims get these amounts."""
    lacking = []
    for claim, amount in zip(claims(basin, rights), amounts):
        if amount < claim_size(basin, rights, claim):
            lacking.append(claim)
    return lacking


def make_certificate(basin, rights):
    """The certificate of the operation and the reasons of all short claims (q2)."""
    reasons = [reason(basin, rights, claim) for claim, _ in short_claims(basin, rights)]
    return operation(basin, rights), tuple(reasons)


def bound_of(basin, rights, region, claim):
    """What a bound says that its claim can get at most, or None if it is none (q3)."""
    most = most_within(basin, region)
    if most is None or claim_cell(basin, rights, claim) not in region:
        return None
    earlier = claims_before(basin, rights, claim)
    return most - given_within(basin, rights, greatest(basin, rights), region, earlier)
