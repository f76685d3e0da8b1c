package state

import (
	"math"
	"slices"
	"strings"

	"ecclesia/api"
)

// becoming tells what an account becomes.
type becoming func(api.Account) api.Account

// pays is what becomes of an account that does a transfer of an amount.
func pays(amount uint64) becoming {
	return func(one api.Account) api.Account {
		one.Balance -= amount + api.Fee
		one.Nonce++
		return one
	}
}

// gains is what becomes of an account that gets an amount.
func gains(amount uint64) becoming {
	return func(one api.Account) api.Account {
		one.Balance += amount
		return one
	}
}

// changed is a rising row in which an address's account is what it becomes, also
// if that is empty.
func changed(l []api.Account, addr string, become becoming) []api.Account {
	at, found := slices.BinarySearchFunc(l, addr, func(one api.Account, addr string) int {
		return strings.Compare(one.Addr, addr)
	})
	behind := l[at:]
	if found {
		behind = behind[1:]
	}
	return slices.Concat(l[:at], []api.Account{become(Of(l, addr))}, behind)
}

// counted is a row without its empty accounts, with addresses of its own.
func counted(l []api.Account) []api.Account {
	var made []api.Account
	for _, one := range l {
		if !empty(one) {
			one.Addr = strings.Clone(one.Addr)
			made = append(made, one)
		}
	}
	return made
}

// empty says if an account is as good as none.
func empty(one api.Account) bool { return one.Balance == 0 && one.Nonce == 0 }

// refusal is why an account can't do a transfer, or OK.
func refusal(from api.Account, t api.Tx) api.Errno {
	if from.Nonce != t.Nonce || from.Nonce == math.MaxUint64 {
		return api.ErrNonce
	}
	// Not held against the amount and the fee together, as these might go round.
	if from.Balance < api.Fee || from.Balance-api.Fee < t.Amount {
		return api.ErrFunds
	}
	return api.OK
}
