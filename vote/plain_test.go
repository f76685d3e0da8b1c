package vote_test

import (
	"slices"

	"ecclesia/api"
)

// What the chapter says, with validators and votes in maps, which are laid in order
// when all is done.

// cast is who voted on whom.
type cast struct{ who, voter string }

// known are validators, and votes with what they are for.
type known struct {
	set   map[string]bool
	votes map[cast]bool
}

// plainRight says if validators and votes may be.
func plainRight(s api.Snap) bool {
	if len(s.Set) < 1 || len(s.Set) > 16 {
		return false
	}
	k := known{map[string]bool{}, map[cast]bool{}}
	many := map[string]int{}
	for _, one := range s.Set {
		if len(one) != 20 || k.set[one] {
			return false
		}
		k.set[one] = true
	}
	for _, one := range s.Votes {
		if !k.may(one) {
			return false
		}
		if _, twice := k.votes[cast{one.Who, one.Voter}]; twice {
			return false
		}
		k.votes[cast{one.Who, one.Voter}] = one.Add
		many[one.Who]++
		if float64(many[one.Who]) > float64(len(s.Set))/2 {
			return false
		}
	}
	in := k.snap()
	return slices.Equal(in.Set, s.Set) && slices.Equal(in.Votes, s.Votes)
}

// may says if a vote may be one of such validators'.
func (k known) may(b api.Ballot) bool {
	return k.set[b.Voter] && len(b.Who) == 20 && k.set[b.Who] == !b.Add
}

// snap is that in order.
func (k known) snap() api.Snap {
	var made api.Snap
	for one := range k.set {
		made.Set = append(made.Set, one)
	}
	slices.Sort(made.Set)
	for one, add := range k.votes {
		made.Votes = append(made.Votes, api.Ballot{Voter: one.voter, Who: one.who, Add: add})
	}
	// An address has 20 bytes, so that whole lines rise as their parts do.
	slices.SortFunc(made.Votes, func(a, b api.Ballot) int {
		if a.Who+a.Voter < b.Who+b.Voter {
			return -1
		}
		return 1
	})
	return made
}

// drop takes the votes out that are so.
func (k known) drop(so func(c cast) bool) {
	for one := range k.votes {
		if so(one) {
			delete(k.votes, one)
		}
	}
}

// on is how many have voted on an address.
func (k known) on(who string) int {
	many := 0
	for one := range k.votes {
		if one.who == who {
			many++
		}
	}
	return many
}

// knownOf is a snap that may be.
func knownOf(s api.Snap) known {
	k := known{map[string]bool{}, map[cast]bool{}}
	for _, one := range s.Set {
		k.set[one] = true
	}
	for _, one := range s.Votes {
		k.votes[cast{one.Who, one.Voter}] = one.Add
	}
	return k
}

// plainCast is what Cast answers.
func plainCast(s api.Snap, b api.Ballot) (api.Snap, api.Errno) {
	if !plainRight(s) {
		return api.Snap{}, api.ErrArg
	}
	k := knownOf(s)
	if !k.may(b) || b.Add && len(k.set) >= 16 || !b.Add && len(k.set) <= 1 {
		return api.Snap{}, api.ErrVote
	}
	k.votes[cast{b.Who, b.Voter}] = b.Add
	if float64(k.on(b.Who)) <= float64(len(k.set))/2 {
		return k.snap(), api.OK
	}
	k.drop(func(c cast) bool { return c.who == b.Who })
	if b.Add {
		k.set[b.Who] = true
		return k.snap(), api.OK
	}
	delete(k.set, b.Who)
	k.drop(func(c cast) bool { return c.voter == b.Who })
	var too []string
	for one := range k.votes {
		if float64(k.on(one.who)) > float64(len(k.set))/2 {
			too = append(too, one.who)
		}
	}
	k.drop(func(c cast) bool { return slices.Contains(too, c.who) })
	return k.snap(), api.OK
}

// plainClose is what Close answers.
func plainClose(s api.Snap) (api.Snap, api.Errno) {
	if !plainRight(s) {
		return api.Snap{}, api.ErrArg
	}
	return api.Snap{Set: s.Set}, api.OK
}

// plainCount is what Count answers.
func plainCount(s api.Snap, b api.Ballot) int {
	alike := slices.DeleteFunc(slices.Clone(s.Votes), func(one api.Ballot) bool {
		return one.Who != b.Who || one.Add != b.Add
	})
	return len(alike)
}
