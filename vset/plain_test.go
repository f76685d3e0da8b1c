package vset_test

import (
	"math/big"
	"slices"

	"ecclesia/api"
	"ecclesia/header"
	"ecclesia/vote"
)

// What the chapter says, with numbers of the library's, and with validators and votes
// in maps, which are laid in order when all is done.

// number is one of the library's.
func number(n uint64) *big.Int { return new(big.Int).SetUint64(n) }

// plainQuorum is what Quorum answers: it tries one by one.
func plainQuorum(n int) int {
	q := 0
	for 3*q < 2*min(max(n, 0), 1000000) {
		q++
	}
	return q
}

// plainFaults is what Faults answers.
func plainFaults(n int) int {
	f := 0
	for 3*(f+1) < min(n, 1000000) {
		f++
	}
	return f
}

// plainProposer is what Proposer answers.
func plainProposer(set []string, height, round uint64) (string, api.Errno) {
	if len(set) == 0 {
		return "", api.ErrArg
	}
	sum := number(height)
	sum.Add(sum, number(round))
	sum.Mod(sum, new(big.Int).Lsh(big.NewInt(1), 64))
	sum.Mod(sum, big.NewInt(int64(len(set))))
	return set[sum.Int64()], api.OK
}

// book is the validators, and for each one that was voted on, who did so.
type book struct {
	set map[string]int
	on  map[string]map[string]int
}

// bookOf is the book of a snap.
func bookOf(s api.Snap) book {
	b := book{map[string]int{}, map[string]map[string]int{}}
	for _, one := range s.Set {
		b.set[one] = 1
	}
	for _, one := range s.Votes {
		b.write(one.Voter, one.Who)
	}
	return b
}

// write puts a vote in.
func (b book) write(voter, who string) {
	if b.on[who] == nil {
		b.on[who] = map[string]int{}
	}
	b.on[who][voter] = 1
}

// most says if so many are more than half of the validators.
func (b book) most(many int) bool { return float64(many) > float64(len(b.set))/2 }

// cast does a vote, if that may be.
func (b book) cast(voter, who string, add bool) bool {
	if b.set[voter] == 0 || len(who) != 20 || (b.set[who] == 1) == add || add && len(b.set) > 15 || !add && len(b.set) < 2 {
		return false
	}
	b.write(voter, who)
	if !b.most(len(b.on[who])) {
		return true
	}
	delete(b.on, who)
	if add {
		b.set[who] = 1
		return true
	}
	delete(b.set, who)
	for _, voters := range b.on {
		delete(voters, who)
	}
	for other, voters := range b.on {
		if b.most(len(voters)) {
			delete(b.on, other)
		}
	}
	return true
}

// snap is a book in order.
func (b book) snap() api.Snap {
	var made api.Snap
	for one := range b.set {
		made.Set = append(made.Set, one)
	}
	slices.Sort(made.Set)
	var voted []string
	for who := range b.on {
		voted = append(voted, who)
	}
	slices.Sort(voted)
	for _, who := range voted {
		var voters []string
		for voter := range b.on[who] {
			voters = append(voters, voter)
		}
		slices.Sort(voters)
		for _, voter := range voters {
			made.Votes = append(made.Votes, api.Ballot{Voter: voter, Who: who, Add: b.set[who] == 0})
		}
	}
	return made
}

// plainNext is what Next answers.
func plainNext(s api.Snap, h api.Header, epoch uint64) (api.Snap, api.Errno) {
	if !vote.Right(s) || !header.Right(h) || epoch == 0 {
		return api.Snap{}, api.ErrArg
	}
	if slices.Compare(h.Validators, s.Set) != 0 {
		return api.Snap{}, api.ErrSet
	}
	if slices.Index(s.Set, h.Proposer) < 0 {
		return api.Snap{}, api.ErrTurn
	}
	b := bookOf(s)
	if new(big.Int).Mod(number(h.Height), number(epoch)).Sign() == 0 {
		clear(b.on)
	}
	if h.Vote != "" && !b.cast(h.Proposer, h.Vote, h.Add) {
		return api.Snap{}, api.ErrVote
	}
	return b.snap(), api.OK
}

// plainFold is what Fold answers.
func plainFold(set []string, l []api.Header, epoch uint64) (api.Snap, api.Errno) {
	s := api.Snap{Set: set}
	if !vote.Right(s) || epoch == 0 {
		return api.Snap{}, api.ErrArg
	}
	errno := api.OK
	for i := 0; i < len(l) && errno == api.OK; i++ {
		s, errno = plainNext(s, l[i], epoch)
	}
	return s, errno
}
