"""Deployments from their logs."""

from migraproof.deployment import Deployment


def replayed(schema, log):
    """A new deployment that began with the schema and has carried out the commands of the log."""
    deployment = Deployment(schema)
    for command in log:
        deployment.execute(command)
    return deployment
