package vote

import "ecclesia/api"

// rising says if validators may be: some, but not too many, addresses that rise.
func rising(set []string) bool {
	if len(set) == 0 || len(set) > api.MaxSet {
		return false
	}
	for i, one := range set {
		if len(one) != api.Addr || i > 0 && set[i-1] >= one {
			return false
		}
	}
	return true
}

// open says if votes may be open: they rise, and none of them has carried.
func open(s api.Snap) bool {
	// How many votes there are for the one that is voted on.
	many := 0
	for i, one := range s.Votes {
		if !fits(s, one) {
			return false
		}
		if i > 0 && !ahead(one)(s.Votes[i-1]) {
			return false
		}
		if i > 0 && s.Votes[i-1].Who != one.Who {
			many = 0
		}
		many++
		if 2*many > len(s.Set) {
			return false
		}
	}
	return true
}

// fits says if a vote is a validator's, of one who isn't yet what is wanted.
func fits(s api.Snap, b api.Ballot) bool {
	return Has(s, b.Voter) && len(b.Who) == api.Addr && Has(s, b.Who) != b.Add
}

// castable says if a vote may be cast: it fits, and there is room for one more, or
// some are left.
func castable(s api.Snap, b api.Ballot) bool {
	if !fits(s, b) {
		return false
	}
	if b.Add {
		return len(s.Set) < api.MaxSet
	}
	return len(s.Set) > 1
}
