package vote

import (
	"slices"
	"sort"
	"strings"

	"ecclesia/api"
)

// ahead tells which votes stand ahead of one: they go by whom they are on, and then
// by voters.
func ahead(b api.Ballot) func(api.Ballot) bool {
	return func(one api.Ballot) bool {
		if one.Who != b.Who {
			return one.Who < b.Who
		}
		return one.Voter < b.Voter
	}
}

// sortedIn is a list with one put in behind all that stand ahead of it, if it isn't
// there.
func sortedIn[T comparable](l []T, one T, ahead func(T) bool) []T {
	at := sort.Search(len(l), func(i int) bool { return !ahead(l[i]) })
	if at < len(l) && l[at] == one {
		return l
	}
	return slices.Insert(l, at, one)
}

// carried is what becomes of validators and votes, which it may write to, by a vote
// that more than half have cast.
func carried(s api.Snap, b api.Ballot) api.Snap {
	// One that comes in has cast none.
	s.Votes = slices.DeleteFunc(s.Votes, func(one api.Ballot) bool {
		return one.Who == b.Who || one.Voter == b.Who
	})
	if b.Add {
		s.Set = sortedIn(s.Set, b.Who, func(one string) bool { return one < b.Who })
		return s
	}
	s.Set = slices.DeleteFunc(s.Set, func(one string) bool { return one == b.Who })
	return settled(s)
}

// settled is validators and votes, which it may write to, without the votes on such
// as more than half are for, now that there is one less.
func settled(s api.Snap) api.Snap {
	many := map[string]int{}
	for _, one := range s.Votes {
		many[one.Who]++
	}
	s.Votes = slices.DeleteFunc(s.Votes, func(one api.Ballot) bool {
		return 2*many[one.Who] > len(s.Set)
	})
	return s
}

// copied is validators and votes in lists and texts of their own.
func copied(s api.Snap) api.Snap {
	var made api.Snap
	for _, one := range s.Set {
		made.Set = append(made.Set, strings.Clone(one))
	}
	for _, one := range s.Votes {
		made.Votes = append(made.Votes, owned(one))
	}
	return made
}

// owned is a vote with texts of its own, as one that is kept would else keep what
// its addresses are pieces of.
func owned(b api.Ballot) api.Ballot {
	return api.Ballot{Voter: strings.Clone(b.Voter), Who: strings.Clone(b.Who), Add: b.Add}
}
