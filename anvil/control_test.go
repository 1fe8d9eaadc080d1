package anvil_test

import (
	"strings"
	"testing"

	"anvil/anvil"
	"anvil/api"
)

func TestControls(t *testing.T) {
	for _, c := range []struct {
		line  string
		out   string
		stack []int
	}{
		{": f if 1 . then 2 . ; 0 f 1 f -1 f 7 f", "2 1 2 1 2 1 2 ", nil},
		{": f if 1 else 2 then ; 0 f 5 f", "", []int{2, 1}},
		{": f if if 1 else 2 then else if 3 else 4 then then ; 0 0 f 1 0 f 0 1 f 1 1 f", "", []int{4, 3, 2, 1}},
		{": f if else 2 then ; 0 f 1 f", "", []int{2}},
		{": f if 1 else then ; 0 f 1 f", "", []int{1}},

		{": f begin dup . 1 - dup not until ; 3 f", "3 2 1 ", []int{0}},
		{": f begin until ; 7 0 0 5 f", "", []int{7, 0, 0}},
		{": f begin until ; 7 5 0 0 f", "", []int{7}},
		{": f begin dup while dup . 1 - repeat 9 ; 2 f 0 f", "2 1 ", []int{0, 9, 0, 9}},
		{": f begin 1 + dup 5 = if exit then again ; 0 f", "", []int{5}},
		{": f begin begin 1 - dup 3 mod not until dup . dup not until ; 9 f", "6 3 0 ", []int{0}},
		{": f begin dup while begin dup . 1 - dup 2 mod not until repeat ; 4 f", "4 3 2 1 ", []int{0}},

		{": f do i . loop ; 3 0 f", "0 1 2 ", nil},
		{": f do i . loop ; 3 3 f 3 4 f -5 5 f", "", nil},
		{": f do i . loop ; 1 0 f", "0 ", nil},
		{": f do i . loop ; 2 -2 f", "-2 -1 0 1 ", nil},
		{": f do i loop ; " + mostInt + " dup 1 - f", "", []int{1<<63 - 2}},
		{": f do i loop ; " + leastInt + " 1 + " + leastInt + " f", "", []int{-1 << 63}},
		{": f do i loop ; " + leastInt + " " + mostInt + " f 7", "", []int{7}},

		{": f 2 0 do i . 12 10 do i . loop i . loop ; f", "0 10 11 0 1 10 11 1 ", nil},
		{": f 3 0 do 9 0 do i 2 = if leave then i . loop i . loop ; f", "0 1 0 0 1 1 0 1 2 ", nil},
		{": f 9 0 do i 2 = if leave then 2 0 do i . loop loop ; f", "0 1 0 1 ", nil},
		{": f 9 0 do i . leave 7 . loop 8 . ; f", "0 8 ", nil},
		{": f 9 0 do i 1 = if leave else i 2 = if leave then then i . loop 8 . ; f", "0 8 ", nil},
		{": f 9 0 do 9 0 do leave loop leave 7 . loop 8 . ; f", "8 ", nil},
		{": f 2 0 do 3 0 do leave leave loop i . loop ; f", "0 1 ", nil},
		{": f 2 0 do begin i . 1 until begin i 5 > while repeat loop ; f", "0 1 ", nil},
		{": f 3 0 do 0 0 do 7 . leave loop i . loop ; f", "0 1 2 ", nil},

		{": f exit 1 . ; f 2 .", "2 ", nil},
		{": g 1 . exit 2 . ; : f g 3 . exit 4 . ; f", "1 3 ", nil},
		{": f 9 0 do i . i 2 = if exit then loop 8 . ; f f", "0 1 2 0 1 2 ", nil},
		{": g 9 0 do 9 0 do exit loop loop ; : f 3 0 do g i . loop ; f", "0 1 2 ", nil},
		{": f begin begin exit again again ; f", "", nil},

		{": f dup 2 < if drop 1 else dup 1 - recurse * then ; 5 f", "", []int{120}},
		{": f dup . dup if 1 - recurse then 9 . ; 2 f", "2 1 0 9 9 9 ", []int{0}},
		{": f dup 0 do dup 1 - recurse i . loop drop ; 3 f", fall(3), nil},
		{": f 2 0 do i . dup if 1 - recurse 1 + then i . loop ; 1 f", "0 0 0 1 1 0 1 0 0 1 1 1 ", []int{1}},
		{": f 1 . ; : f dup if 1 - recurse else f then ; 3 f", "1 ", []int{0}},
		{": f dup if 1 - dup recurse recurse exit then drop 5 . ; 2 f", "5 5 5 5 ", nil},
	} {
		m := anvil.New()
		check(t, m, c.line, api.Answer{Out: c.out})
		checkStacks(t, m, c.stack, nil)
	}
}

const mostInt = leastInt + " 1 -"

// fall is what `: f dup 0 do dup 1 - recurse i . loop drop ;` tells of n.
func fall(n int) string {
	text := ""
	for i := range n {
		text += fall(n-1) + string(rune('0'+i)) + " "
	}
	return text
}

// TestControlsFail: each line fails at its last word, which does a definition.
func TestControlsFail(t *testing.T) {
	full := strings.Repeat("1 ", api.MaxStack)
	for _, c := range []struct {
		definition, line string
		err              api.Errno
	}{
		{": f if then ;", "f", api.ErrUnder}, {": f if else then ;", "f", api.ErrUnder}, {": f begin until ;", "f", api.ErrUnder},
		{": f begin until ;", "0 0 f", api.ErrUnder}, {": f begin while repeat ;", "f", api.ErrUnder}, {": f begin while repeat ;", "1 1 f", api.ErrUnder},
		{": f do loop ;", "f", api.ErrUnder}, {": f do loop ;", "1 f", api.ErrUnder}, {": f do loop ;", "1 >r 1 >r f", api.ErrUnder},
		{": f 1 0 do i i loop ;", full + "drop f", api.ErrOver}, {": f 2 0 do i loop ;", full + "drop f", api.ErrOver},
		{": f 1 0 do i loop ;", full + "f", api.ErrOver}, {": f ' f0 ;", full + "f", api.ErrOver}, {": f 1 ;", full + "f", api.ErrOver},
		{": f recurse ;", "f", api.ErrDeep}, {": f 1 if recurse then ;", "f", api.ErrDeep}, {": f 2 0 do recurse loop ;", "f", api.ErrDeep},
		{": f begin again ;", "f", api.ErrSteps}, {": f begin 1 while repeat ;", "f", api.ErrSteps}, {": f begin 0 until ;", "f", api.ErrSteps},
		{": f 9999 0 do loop ;", "f", api.ErrSteps}, {": f 2 0 do begin again loop ;", "f", api.ErrSteps},
	} {
		m := with(t, ": f0 ;")
		check(t, m, c.definition, api.Answer{})
		check(t, m, "3 . "+c.line, api.Answer{Out: "3 ", Err: c.err, Word: len(strings.Fields(c.line)) + 1})
		checkStacks(t, m, nil, nil)
		checkWords(t, m, "f0", "f")
	}
}
