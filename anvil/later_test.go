package anvil_test

import (
	"math/rand"
	"slices"
	"strings"
	"testing"

	"anvil/anvil"
	"anvil/api"
)

func TestWordsDoWhatTheyDidWhateverIsMadeBehindThem(t *testing.T) {
	const words = "variable v 3 v ! 4 constant k : g 5 . ; : f g k . v @ . dup . ;"
	for _, c := range []string{
		": g 6 . ;", "variable g", "9 constant k", "variable k", "marker v", "variable v 8 v !", ": dup 0 ;", "marker dup", "9 constant .", ": @ drop 0 ;", ": f ;",
		": g 6 . ; forget g", "variable v 8 v ! forget v", "marker m : g 6 . ; variable v 8 v ! m", "marker g g", ": g what ;", "marker k : f ; k",
		": h f ; 2 h drop forget h", "marker m : h f m ; 2 h drop", ": g ; : g ; forget g", "marker f marker f f",
	} {
		m := with(t, words+" : go f ;")
		check(t, m, "7 go drop", api.Answer{Out: "5 4 3 7 "})
		m.Do(c)
		check(t, m, "7 go drop", api.Answer{Out: "5 4 3 7 "})
		check(t, m, "what", api.Answer{Err: api.ErrWord})
		check(t, m, "7 go drop", api.Answer{Out: "5 4 3 7 "})
	}
}

// TestWhatTokensComeToMayChange: the document's own exceptions, since a token may be that of a word that was made later, or is forgotten.
func TestWhatTokensComeToMayChange(t *testing.T) {
	m := with(t, ": f 1001 execute ; : g 1002 @ . ;")
	check(t, m, "f", api.Answer{Out: "", Err: api.ErrPlace})
	check(t, m, "g", api.Answer{Err: api.ErrPlace})
	check(t, m, "variable v 6 v ! g f", api.Answer{Out: "6 6 "})
	check(t, m, "forget v g", api.Answer{Err: api.ErrPlace, Word: 2})
	check(t, m, "variable v g", api.Answer{Err: api.ErrPlace, Word: 2})
	check(t, m, "forget g f", api.Answer{Err: api.ErrGone, Word: 2})
}

const twinWords = "variable v : tell v @ . ; marker m variable w 7 constant k marker n"

// randomNoise makes words of names that earlier ones have, and forgets none of the earlier ones.
func randomNoise(source *rand.Rand) string {
	names := strings.Fields("v m w k n f dup over drop . + - not < @ !")
	lines := []string{
		"variable X", "5 constant X", "marker X", ": X 9 9 ;", ": X 1 what", ": X", "marker X X", ": X 1 ; forget X", "variable X forget X",
		"marker X variable X : X 8 ; forget X", "marker X marker X X", "1 constant X : X X X ; forget X forget X",
	}
	return strings.ReplaceAll(lines[source.Intn(len(lines))], "X", names[source.Intn(len(names))])
}

// TestTwins: of two machines with the same words one makes and forgets others behind them; then both do the same.
func TestTwins(t *testing.T) {
	source := rand.New(rand.NewSource(5))
	for range 8000 {
		body := strings.Join(wordsOf(randomParts(source, 4, false)), " ")
		if len(strings.Fields(body)) > api.MaxBody {
			continue
		}
		twin, other := with(t, twinWords), with(t, twinWords)
		var noise []string
		for _, m := range []*anvil.Machine{twin, other} {
			check(t, m, ": f "+body+" ; : go 2 1 0 3 0 4 1 f ;", api.Answer{})
		}
		ahead := twin.Words()
		check(t, other, "marker end", api.Answer{})
		for range source.Intn(12) {
			noise = append(noise, randomNoise(source))
			other.Do(noise[len(noise)-1])
		}
		if source.Intn(3) == 0 {
			noise = append(noise, "end")
			check(t, other, "end", api.Answer{})
		}
		check(t, other, "what", api.Answer{Err: api.ErrWord})
		checkTwins(t, twin, other, ahead)
		if t.Failed() {
			t.Fatalf("the body was %q, and behind it:\n%s", body, strings.Join(noise, "\n"))
		}
	}
}

// checkTwins lets two machines do the same; ahead are the words that both had at first.
func checkTwins(t *testing.T, twin, other *anvil.Machine, ahead []string) {
	t.Helper()
	for _, line := range []string{"go", "tell", "what", "go"} {
		check(t, other, line, twin.Do(line))
		checkStacks(t, other, twin.Stack(), twin.Aside())
	}
	left, otherLeft := twin.Words(), other.Words()
	if len(left) == len(ahead) && len(otherLeft) >= len(ahead) {
		otherLeft = otherLeft[:len(ahead)] // nothing was forgotten, so that there may be more behind
	}
	if !slices.Equal(left, otherLeft) {
		t.Errorf("P7: the words that are left are %q and %q", left, otherLeft)
	}
}
