package photo_test

import (
	"math"
	"testing"

	"bursar/api"
	"bursar/photo"
)

// rightNumbers, rightConfs and rightSizes answer some at both ends, and between them.

func rightNumbers() []uint64 {
	return []uint64{1, 2, 127, 128, 255, 1<<14 - 1, 1 << 14, 1 << 32, 1<<49 - 1, 1 << 49, mostNumber - 1, mostNumber}
}
func rightConfs() []int { return []int{2, 4, 6, 14, 126, 128, 130, 252, mostConf} }
func rightSizes() []int {
	return []int{0, 1, 2, 127, 128, 300, 1<<14 - 1, 1 << 14, mostData - 1, mostData}
}

// wrongNumbers, wrongConfs and wrongSizes answer some that may not be.

func wrongNumbers() []uint64 {
	return []uint64{0, mostNumber + 1, mostNumber + 2, 1 << 57, 1 << 63, math.MaxUint64}
}
func wrongConfs() []int {
	return []int{0, 1, 3, 15, 127, 253, 255, 256, 258, 510, 512, 1 << 32, 1<<32 + 14, math.MaxInt, math.MaxInt - 1, -1, -2, -242, math.MinInt, math.MinInt + 14}
}
func wrongSizes() []int {
	return []int{mostData + 1, mostData + 2, mostData + 256, 2 * mostData, 1 << 17}
}

// rights answers snapshots that may be, each of their fields at its edges.
func rights() (some []api.Snap) {
	for _, n := range rightNumbers() {
		some = append(some, snap(n, 2, 14, "ab"), snap(4, n, 14, "ab"), snap(n, n, 14, ""))
	}
	for _, conf := range rightConfs() {
		some = append(some, snap(4, 2, conf, "ab"), snap(mostNumber, mostNumber, conf, ""))
	}
	for _, size := range rightSizes() {
		some = append(some, snap(4, 2, 14, filled(size)))
	}
	return append(some, snap(1, 1, 2, ""), snap(mostNumber, mostNumber, mostConf, filled(mostData)), snap(1, mostNumber, 2, "ab"), snap(mostNumber, 1, 254, "ab"))
}

// wrongs answers snapshots of which one field or more may not be.
func wrongs() (some []api.Snap) {
	for _, n := range wrongNumbers() {
		some = append(some, snap(n, 2, 14, "ab"), snap(4, n, 14, "ab"), snap(n, n, 14, "ab"))
	}
	for _, conf := range wrongConfs() {
		some = append(some, snap(4, 2, conf, "ab"), snap(mostNumber, mostNumber, conf, ""))
	}
	for _, size := range wrongSizes() {
		some = append(some, snap(4, 2, 14, filled(size)))
	}
	return append(some, api.Snap{}, snap(0, 2, 15, filled(mostData+1)), snap(0, 0, 0, "ab"), snap(0, 0, 14, ""))
}

// TestRight: 11.1, each field at both ends of what it may be, and between.
func TestRight(t *testing.T) {
	if api.MaxNumber != mostNumber || api.MaxNodes != 7 || api.MaxImage != mostData {
		t.Errorf("11.1: MaxNumber %d, MaxNodes %d, MaxImage %d", uint64(api.MaxNumber), api.MaxNodes, api.MaxImage)
	}
	for _, s := range rights() {
		if !photo.Right(s) {
			t.Errorf("11.1: %s of %d bytes is not right", short(s), len(s.Data))
		}
	}
	none := snap(4, 2, 14, "")
	if none.Data = nil; !photo.Right(none) {
		t.Error("11.1: no Data is not right")
	}
}

// TestWrong: 11.1, each field beyond either end, and several at once.
func TestWrong(t *testing.T) {
	for _, s := range wrongs() {
		if photo.Right(s) {
			t.Errorf("11.1: %s of %d bytes is right", short(s), len(s.Data))
		}
	}
}

// TestConfs: 11.1, of all sets the even ones from 2 to 254 may be.
func TestConfs(t *testing.T) {
	for conf := -600; conf <= 600; conf++ {
		want := conf >= 2 && conf <= 254 && conf%2 == 0
		if got := photo.Right(snap(4, 2, conf, "ab")); got != want {
			t.Errorf("11.1: a Conf of %d: %v", conf, got)
		}
	}
}

// TestRightAlone: 11.1, it is the length of Data that is asked, not the room behind it.
func TestRightAlone(t *testing.T) {
	s := snap(4, 2, 14, "")
	s.Data = make([]byte, 5, 2*mostData)
	if !photo.Right(s) {
		t.Error("11.1: five bytes with much room behind them are not right")
	}
}
