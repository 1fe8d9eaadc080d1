package lexicon

import "maps"

// WithoutMap lets a test go on as if the map had no words.
func WithoutMap(test func()) {
	kept := maps.Clone(language)
	clear(language)
	defer maps.Copy(language, kept)
	test()
}
