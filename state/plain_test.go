package state_test

import (
	"encoding/binary"
	"encoding/hex"
	"maps"
	"math/big"
	"slices"
	"strings"

	"ecclesia/api"
	"ecclesia/keccak"
	"ecclesia/trie"
	"ecclesia/tx"
)

// What the chapter says, with the library's numbers, which do not go round, and
// accounts in a map; records are laid byte by byte.

// holding is an account's balance and nonce.
type holding struct{ balance, nonce *big.Int }

// number is one of the library's.
func number(n uint64) *big.Int { return new(big.Int).SetUint64(n) }

// power is 2^n.
func power(n uint) *big.Int { return new(big.Int).Lsh(big.NewInt(1), n) }

// plus is a sum.
func plus(a, b *big.Int) *big.Int { return new(big.Int).Add(a, b) }

// plainSum is what all accounts have together, as a number that does not go round.
func plainSum(l []api.Account) *big.Int {
	sum := new(big.Int)
	for _, one := range l {
		sum = plus(sum, number(one.Balance))
	}
	return sum
}

// plainRight says if a row may be: two digits for each byte rise as bytes do.
func plainRight(l []api.Account) bool {
	if len(l) > 24 || plainSum(l).Cmp(power(62)) > 0 {
		return false
	}
	var names []string
	for _, one := range l {
		if len(one.Addr) != 20 || one.Balance == 0 && one.Nonce == 0 {
			return false
		}
		names = append(names, hex.EncodeToString([]byte(one.Addr)))
	}
	return slices.IsSorted(names) && len(slices.Compact(names)) == len(l)
}

// plainTotal is what Total answers.
func plainTotal(l []api.Account) uint64 { return new(big.Int).Mod(plainSum(l), power(64)).Uint64() }

// plainOf is what Of answers: of an address's accounts the last one that is met
// backwards.
func plainOf(l []api.Account, addr string) api.Account {
	found := api.Account{Addr: addr}
	for i := len(l) - 1; i >= 0; i-- {
		if l[i].Addr == addr {
			found = l[i]
		}
	}
	return found
}

// ledger is a row's accounts by their addresses.
func ledger(l []api.Account) map[string]holding {
	made := map[string]holding{}
	for _, one := range l {
		made[one.Addr] = holding{number(one.Balance), number(one.Nonce)}
	}
	return made
}

// held is an address's account in a ledger.
func held(book map[string]holding, addr string) holding {
	if found, is := book[addr]; is {
		return found
	}
	return holding{new(big.Int), new(big.Int)}
}

// rowOf is a ledger's row.
func rowOf(book map[string]holding) []api.Account {
	var made []api.Account
	for _, addr := range slices.Sorted(maps.Keys(book)) {
		if has := book[addr]; has.balance.Sign() != 0 || has.nonce.Sign() != 0 {
			made = append(made, api.Account{Addr: addr, Balance: has.balance.Uint64(), Nonce: has.nonce.Uint64()})
		}
	}
	return made
}

// plainApply is what Apply answers.
func plainApply(l []api.Account, t api.Tx, proposer string) ([]api.Account, api.Errno) {
	if !plainRight(l) || !tx.Right(t) || len(proposer) != 20 {
		return nil, api.ErrArg
	}
	sender, errno := tx.Sender(t)
	if errno != api.OK {
		return nil, api.ErrSign
	}
	book := ledger(l)
	from := held(book, sender)
	next := plus(from.nonce, number(1))
	cost := plus(number(t.Amount), number(1))
	if from.nonce.Cmp(number(t.Nonce)) != 0 || next.Cmp(power(64)) == 0 {
		return nil, api.ErrNonce
	}
	if from.balance.Cmp(cost) < 0 {
		return nil, api.ErrFunds
	}
	book[sender] = holding{new(big.Int).Sub(from.balance, cost), next}
	to := held(book, t.To)
	book[t.To] = holding{plus(to.balance, number(t.Amount)), to.nonce}
	last := held(book, proposer)
	book[proposer] = holding{plus(last.balance, number(1)), last.nonce}
	made := rowOf(book)
	if len(made) > 24 {
		return nil, api.ErrFull
	}
	return made, api.OK
}

// plainNumber is a number in a record.
func plainNumber(n uint64) string {
	digits := strings.TrimLeft(string(binary.BigEndian.AppendUint64(nil, n)), "\x00")
	if len(digits) == 1 && digits[0] < 0x80 {
		return digits
	}
	return string([]byte{0x80 + byte(len(digits))}) + digits
}

// plainRoot is what Root answers: it hangs on the pairs alone, so that they are
// put in backwards.
func plainRoot(l []api.Account) (string, api.Errno) {
	if !plainRight(l) {
		return "", api.ErrArg
	}
	made := trie.New()
	for _, one := range slices.Backward(l) {
		fields := plainNumber(one.Balance) + plainNumber(one.Nonce)
		made, _ = trie.Put(made, keccak.Sum(one.Addr), string([]byte{0xC0 + byte(len(fields))})+fields)
	}
	return trie.Root(made)
}
