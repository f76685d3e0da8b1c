package vset

import (
	"slices"
	"strings"

	"ecclesia/api"
	"ecclesia/header"
	"ecclesia/vote"
)

// behind is what headers make of validators and votes that may be.
func behind(s api.Snap, l []api.Header, epoch uint64) (api.Snap, api.Errno) {
	errno := api.OK
headers:
	for _, h := range l {
		switch errno = fits(s, h); {
		case errno != api.OK:
			break headers
		case h.Height%epoch == 0:
			// They may be, so that this is never an error.
			s, _ = vote.Close(s)
		}
		if h.Vote == "" {
			continue headers
		}
		b := api.Ballot{Voter: h.Proposer, Who: h.Vote, Add: h.Add}
		if s, errno = vote.Cast(s, b); errno != api.OK {
			break headers
		}
	}
	if errno != api.OK {
		return api.Snap{}, errno
	}
	return s, api.OK
}

// fits says what is wrong with a header behind such validators.
func fits(s api.Snap, h api.Header) api.Errno {
	switch {
	case !header.Right(h):
		return api.ErrArg
	case !slices.Equal(h.Validators, s.Set):
		return api.ErrSet
	case !vote.Has(s, h.Proposer):
		return api.ErrTurn
	default:
		return api.OK
	}
}

// copied is validators and votes in lists and texts of their own.
func copied(s api.Snap) api.Snap {
	made := api.Snap{Set: make([]string, len(s.Set)), Votes: make([]api.Ballot, len(s.Votes))}
	for i, one := range s.Set {
		made.Set[i] = strings.Clone(one)
	}
	for i, one := range s.Votes {
		made.Votes[i] = api.Ballot{Voter: strings.Clone(one.Voter), Who: strings.Clone(one.Who), Add: one.Add}
	}
	return made
}
