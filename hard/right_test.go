package hard_test

import (
	"math"
	"testing"

	"bursar/api"
	"bursar/hard"
)

// rightTerms and rightVotes answer some at both ends, and between them.

func rightTerms() []uint64 {
	return []uint64{0, 1, 2, 127, 128, 1<<14 - 1, 1 << 14, 1<<49 - 1, 1 << 49, mostNumber - 1, mostNumber}
}
func rightVotes() []int { return []int{0, 1, 2, 3, 4, 5, 6, 7} }

// wrong answers values of which the term, the vote or both may not be.
func wrong() (some []api.Hard) {
	terms := []uint64{mostNumber + 1, 1 << 57, 1 << 63, math.MaxUint64}
	votes := []int{-1, mostNodes + 1, 9, -8, 128, 255, 256, 257, 1 << 32, math.MinInt, math.MaxInt}
	for _, term := range append(terms, rightTerms()...) {
		for _, vote := range append(votes, rightVotes()...) {
			if term > mostNumber || vote < 0 || vote > mostNodes {
				some = append(some, value(term, vote))
			}
		}
	}
	return some
}

// TestRight: 10.1, terms of 0, of MaxNumber and between, votes of 0, of MaxNodes and between.
func TestRight(t *testing.T) {
	if hard.Long != long || api.MaxNumber != mostNumber || api.MaxNodes != mostNodes {
		t.Errorf("10.1: Long %d, MaxNumber %d, MaxNodes %d", hard.Long, uint64(api.MaxNumber), api.MaxNodes)
	}
	for _, term := range rightTerms() {
		for _, vote := range rightVotes() {
			if h := value(term, vote); !hard.Right(h) {
				t.Errorf("10.1: %v is not right", h)
			}
		}
	}
}

// TestWrong: 10.1, a term of more than MaxNumber, a vote beyond either end.
func TestWrong(t *testing.T) {
	for _, h := range wrong() {
		if hard.Right(h) {
			t.Errorf("10.1: %v is right", h)
		}
	}
}
