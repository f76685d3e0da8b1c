package block

import (
	"ecclesia/api"
	"ecclesia/header"
	"ecclesia/rlp"
	"ecclesia/tx"
)

// parts are the items of a block that may be, so that none of them is an error.
func parts(b api.Block) []api.Item {
	head, _ := header.Bytes(b.Header)
	made := []api.Item{{Bytes: head}}
	for _, one := range b.Txs {
		text, _ := tx.Bytes(one)
		made = append(made, api.Item{Bytes: text})
	}
	return made
}

// written is the list of items, as bytes.
func written(items ...api.Item) (string, api.Errno) { return rlp.Encode(rlp.List(items...)) }

// blockOf is the block that has these items as its parts. One that is a list has
// no bytes, as which no header and no transfer is written.
func blockOf(items ...api.Item) (api.Block, api.Errno) {
	if len(items) == 0 {
		return api.Block{}, api.ErrForm
	}
	head, errno := header.Read(items[0].Bytes)
	if errno != api.OK {
		return api.Block{}, errno
	}
	b := api.Block{Header: head}
	for _, item := range items[1:] {
		one, errno := tx.Read(item.Bytes)
		if errno != api.OK {
			return api.Block{}, errno
		}
		b.Txs = append(b.Txs, one)
	}
	if !Right(b) {
		return api.Block{}, api.ErrForm
	}
	return b, api.OK
}
