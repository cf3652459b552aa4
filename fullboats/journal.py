"""Journals: the calls of a dispatcher, recorded so that it can be brought back."""

from fullboats.byte_format import encode_network, read_network
from fullboats.byte_parts import Reader, encode_checksum, encode_number
from fullboats.dispatcher import Dispatcher
from fullboats.errors import FerryError, InvalidData, InvalidEntry
from fullboats.payloads import encode_call, read_call


def encode_entry(call):
    """Return the entry of a call."""
    return encode_entry_at(call, 0)


def encode_journal(network, calls):
    """Return the journal of a network and a list of calls."""
    journal = encode_network(network)
    return journal + b"".join([encode_entry_at(call, index) for index, call in enumerate(calls)])


def encode_entry_at(call, index):
    """Return the entry of a call, or raise InvalidOperation with its index."""
    payload = encode_call(call, index)
    numbers = encode_number(len(payload)) + payload
    return bytes(numbers + encode_checksum(numbers))


def entry_ends(data):
    """Return the list of the offsets where the first entry begins and where each complete entry ends."""
    _, ends, _ = read_journal(data)
    return ends


def recover(data):
    """Return (dispatcher, rest): one that performed all complete entries, and how many bytes stand behind them."""
    network, ends, payloads = read_journal(data)
    dispatcher = Dispatcher(network)
    for index, payload in enumerate(payloads):
        try:
            make_call(dispatcher, read_call(Reader(payload)))
        except FerryError:
            raise InvalidEntry(index) from None
    return dispatcher, len(data) - ends[-1]


def read_journal(data):
    """Return (network, ends, payloads) of all complete entries of a journal, or raise InvalidData for the network."""
    reader = Reader(data)
    network = read_network(reader)
    ends = [reader.at]
    payloads = []
    complete = True
    while complete:
        try:
            payloads.append(read_payload(reader))
            ends.append(reader.at)
        except InvalidData:
            complete = False
    return network, ends, payloads


def read_payload(reader):
    """Read an entry and return its payload, or raise InvalidData if the entry is not complete."""
    start = reader.at
    payload = reader.read_bytes(reader.read_number())
    reader.skip_checksum(start)
    return payload


def make_call(dispatcher, call):
    """Make a call of a dispatcher."""
    name = call[0]
    if name == "undo":
        dispatcher.undo()
    elif name == "redo":
        dispatcher.redo()
    elif name == "batch":
        dispatcher.batch(call[1])
    else:
        dispatcher.operate(call)
