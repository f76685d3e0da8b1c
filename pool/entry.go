package pool

import (
	"strings"

	"ecclesia/api"
	"ecclesia/tx"
)

// entry is a transfer that waits, with its sum and its sender.
type entry struct {
	api.Tx
	sum, sender string
}

// entryOf is a transfer as an entry, or why it can't be one.
func entryOf(t api.Tx) (entry, api.Errno) {
	// It tells ErrArg of a transfer that may not be.
	sender, errno := tx.Sender(t)
	if errno != api.OK {
		return entry{}, errno
	}
	// It is never an error: the transfer may be.
	sum, _ := tx.Sum(t)
	return entry{t, sum, sender}, api.OK
}

// entries are a pool's transfers, if it may be.
func entries(p api.Pool) ([]entry, bool) {
	if len(p.Txs) > api.MaxPool {
		return nil, false
	}
	var made []entry
	for i, t := range p.Txs {
		one, errno := entryOf(t)
		if errno != api.OK || i > 0 && made[i-1].sum >= one.sum {
			return nil, false
		}
		made = append(made, one)
	}
	return made, true
}

// transfers are those of entries, with addresses of their own.
func transfers(waiting []entry) []api.Tx {
	var made []api.Tx
	for _, one := range waiting {
		// A copy, as a transfer that is kept would else keep what its address is a
		// piece of.
		one.To = strings.Clone(one.To)
		made = append(made, one.Tx)
	}
	return made
}
