package pool_test

import (
	"math/big"
	"slices"

	"ecclesia/api"
	"ecclesia/state"
	"ecclesia/tx"
)

// What the chapter says, with sums as the library's numbers, of 32 bytes, which
// rise as the bytes do, and turns that are found by looking for the least again and
// again.

// facts are what the layers below tell of a transfer.
type facts struct {
	right  bool
	sum    *big.Int
	sender string
	errno  api.Errno
}

// told is facts that were asked, as a sender takes its time.
var told = map[api.Tx]facts{}

// of are a transfer's facts.
func of(t api.Tx) facts {
	if found, is := told[t]; is {
		return found
	}
	sum, _ := tx.Sum(t)
	sender, errno := tx.Sender(t)
	made := facts{tx.Right(t), new(big.Int).SetBytes([]byte(sum)), sender, errno}
	told[t] = made
	return made
}

// plainRight says if a pool may be.
func plainRight(p api.Pool) bool {
	if len(p.Txs) > 16 {
		return false
	}
	last := big.NewInt(-1)
	for _, one := range p.Txs {
		if !of(one).right || of(one).errno != api.OK || of(one).sum.Cmp(last) <= 0 {
			return false
		}
		last = of(one).sum
	}
	return true
}

// plainAdd is what Add answers.
func plainAdd(p api.Pool, t api.Tx) (api.Pool, api.Errno) {
	switch {
	case !plainRight(p) || !of(t).right:
		return api.Pool{}, api.ErrArg
	case of(t).errno != api.OK:
		return api.Pool{}, api.ErrSign
	case slices.Contains(p.Txs, t):
		return api.Pool{}, api.ErrKnown
	case len(p.Txs) >= 16:
		return api.Pool{}, api.ErrFull
	}
	return rising(append(slices.Clone(p.Txs), t)...), api.OK
}

// rising are transfers in the order of their sums.
func rising(l ...api.Tx) api.Pool {
	l = slices.Clone(l)
	slices.SortFunc(l, func(a, b api.Tx) int { return of(a).sum.Cmp(of(b).sum) })
	return api.Pool{Txs: l}
}

// earlier says if one transfer is gone through ahead of another one.
func earlier(one, other api.Tx) bool {
	return one.Nonce < other.Nonce || one.Nonce == other.Nonce && of(one).sum.Cmp(of(other).sum) < 0
}

// plainTake is what Take answers.
func plainTake(p api.Pool, l []api.Account, proposer string) ([]api.Tx, api.Errno) {
	if !plainRight(p) || !state.Right(l) || len(proposer) != 20 {
		return nil, api.ErrArg
	}
	var made []api.Tx
	left := slices.Clone(p.Txs)
	for len(left) > 0 && len(made) < 4 {
		least := 0
		for i := range left {
			if earlier(left[i], left[least]) {
				least = i
			}
		}
		if row, errno := state.Apply(l, left[least], proposer); errno == api.OK {
			made, l = append(made, left[least]), row
		}
		left = slices.Delete(left, least, least+1)
	}
	return made, api.OK
}

// plainDrop is what Drop answers.
func plainDrop(p api.Pool, l []api.Account) (api.Pool, api.Errno) {
	if !plainRight(p) || !state.Right(l) {
		return api.Pool{}, api.ErrArg
	}
	nonces := map[string]uint64{}
	for _, one := range l {
		nonces[one.Addr] = one.Nonce
	}
	var made api.Pool
	for _, one := range p.Txs {
		if nonces[of(one).sender] <= one.Nonce {
			made.Txs = append(made.Txs, one)
		}
	}
	return made, api.OK
}
