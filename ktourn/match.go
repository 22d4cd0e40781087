package ktourn

import (
	"math/bits"
	"slices"

	"peloton/api"
	"peloton/bracket"
	"peloton/kheap"
)

// none stands where there is no ID.
const none = -1

// firstPlaces are the IDs of a valid field, behind which the places up to a power of 2 are empty.
func firstPlaces(f api.Field) []int {
	size := 1
	for size < len(f.Points) {
		size *= 2
	}
	places := slices.Repeat([]int{none}, size)
	for i, p := range f.Points {
		places[i] = p.ID
	}
	return places
}

// played is the tournament over some places that fit the field of a valid clock, after all matches at its Now.
func played(c api.Clock, places []int) (api.KTourn, api.Errno) {
	// The places are those of a bracket for this field, so there is no error.
	b, _ := bracket.Build(c.Field, c.Now, places)
	c, e := kheap.Renew(c, c.Field, edgesOf(b))
	if e != api.OK {
		return api.KTourn{}, e
	}
	return api.KTourn{Clock: c, Bracket: b}, api.OK
}

// edgesOf are the certificates of the matches of a valid bracket, whose winners are ahead of the other ones.
func edgesOf(b api.Bracket) []api.Cert {
	nodes := slices.Concat(b.Wins, b.Places)
	var list []api.Cert
	for i, winner := range b.Wins {
		left, right := nodes[2*i+1], nodes[2*i+2]
		if left == none || right == none {
			continue
		}
		// One of both is the winner.
		other := left
		if winner == left {
			other = right
		}
		list = append(list, api.Cert{High: winner, Low: other})
	}
	return list
}

// bracketFits reports whether a bracket has a power of 2 as the number of its places, and in them just the IDs of the field of a valid clock, and is right for it at Now.
func bracketFits(k api.KTourn) bool {
	right, e := bracket.Right(k.Bracket, k.Clock.Field, k.Clock.Now)
	if e != api.OK || !right || bits.OnesCount(uint(len(k.Bracket.Places))) != 1 {
		return false
	}
	ids := 0
	for _, id := range k.Bracket.Places {
		if id != none {
			ids++
		}
	}
	// All of them are IDs of the field and no one is there twice, so if there are as many these are all.
	return ids == len(k.Clock.Field.Points)
}

// edgesFit reports whether the certificates of a valid clock are just the edges of a bracket that fits it.
func edgesFit(k api.KTourn) bool {
	edges := map[api.Cert]bool{}
	for _, x := range edgesOf(k.Bracket) {
		edges[x] = true
	}
	for _, h := range k.Clock.Certs.List {
		if !edges[h.Cert] {
			return false
		}
	}
	// No certificate is there twice, so if there are as many these are all.
	return len(edges) == len(k.Clock.Certs.List)
}
