package tests

import (
	"slices"

	"loop.example/reed/impl"
)

// A second reading of the document's chapter 6, built another way than the program: each note that there could be is asked for by itself, by climbing from where its part stands.

func modelAdvice(t impl.Tree) []impl.Note {
	var notes []impl.Note
	if modelWrong(t) != (impl.Wrong{}) {
		return nil
	}
	ways := modelWays(t.Parts)
	for n, p := range t.Parts {
		for place := range max(1, len(p.Names)) {
			for code := 1; code <= 6; code++ {
				if modelHolds(t.Parts, ways, n, place, code) {
					notes = append(notes, impl.Note{Part: n, Place: place, Code: code})
				}
			}
		}
	}
	return notes
}

// modelWay is how often a declared name is read and written.
type modelWay struct{ reads, writes int }

func modelWays(parts []impl.Part) map[impl.Decl]modelWay {
	ways := map[impl.Decl]modelWay{}
	for n, p := range parts {
		if p.Kind != impl.EName {
			continue
		}
		use := modelUse(parts, n)
		d := impl.Decl{Part: use.Decl, Place: use.Place}
		way := ways[d]
		around := parts[parentOf(parts, n)]
		if around.Kind == impl.SSet && int64(slices.Index(around.Kids, n)) < around.Num {
			way.writes++
		} else {
			way.reads++
		}
		ways[d] = way
	}
	return ways
}

func modelHolds(parts []impl.Part, ways map[impl.Decl]modelWay, n, place, code int) bool {
	p := parts[n]
	declares := place < len(p.Names)
	quiet := declares && p.Names[place][0] == '_'
	way := ways[impl.Decl{Part: n, Place: place}]
	switch code {
	case 1:
		return declares && !quiet && p.Kind != impl.SConst && way == modelWay{}
	case 2:
		return declares && !quiet && p.Kind != impl.SConst && way.writes > 0 && way.reads == 0
	case 3:
		return declares && !slices.Contains(p.Names[:place], p.Names[place]) && modelAlready(parts, n, p.Names[place])
	case 4:
		return place == 0 && modelBehind(parts, n)
	case 5:
		around := parentOf(parts, n)
		if place > 0 || around < 0 || parts[around].Kind != impl.SIf || parts[around].Kids[0] != n {
			return false
		}
		_, ok := modelWorth(parts, n)
		return ok
	}
	return place == 0 && !quiet && p.Kind == impl.SConst && way.reads == 0
}

// modelAlready tells whether a name is declared where part n stands, in the same fn; what an EFn declares stands in that fn itself, where nothing is declared yet.
func modelAlready(parts []impl.Part, n int, name string) bool {
	if parts[n].Kind == impl.EFn {
		return false
	}
	for kid, p := n, parentOf(parts, n); p >= 0; kid, p = p, parentOf(parts, p) {
		if _, place := modelNamedAt(parts, p, kid, name); place >= 0 {
			return true
		}
		if parts[p].Kind == impl.EFn {
			return false
		}
	}
	return false
}

func modelBehind(parts []impl.Part, n int) bool {
	around := parentOf(parts, n)
	if around < 0 || parts[around].Kind != impl.SBlock {
		return false
	}
	i := slices.Index(parts[around].Kids, n)
	return i > 0 && slices.Contains([]int{11, 12, 13, 15}, parts[parts[around].Kids[i-1]].Kind)
}
