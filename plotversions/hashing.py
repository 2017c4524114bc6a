"""Hashes of versions and of commits: FNV-1a with 64 bits."""

from plotversions.features import written_feature

FIRST_HASH = 14695981039346656037
FACTOR = 1099511628211

BYTES_OF_A_NUMBER = 4
BYTES_OF_A_HASH = 8


def commit_hash(parent_hashes, version):
    hashes = parent_hashes + [version_hash(version)]
    return hash_of_numbers(hashes, BYTES_OF_A_HASH)


def version_hash(version):
    numbers = [len(version)]
    for feature_id in sorted(version):
        numbers.append(feature_id)
        numbers.extend(written_feature(version[feature_id]))
    return hash_of_numbers(numbers, BYTES_OF_A_NUMBER)


def hash_of_numbers(numbers, byte_count):
    value = FIRST_HASH
    for number in numbers:
        for byte in bytes_of(number, byte_count):
            value = ((value ^ byte) * FACTOR) % 2 ** 64
    return value


# The lowest byte first. A negative number is shifted as if it had endless bits 1 in front of it: what is cut off
# at byte_count is what modulo takes away.
def bytes_of(number, byte_count):
    return [(number >> (8 * place)) & 255 for place in range(byte_count)]
