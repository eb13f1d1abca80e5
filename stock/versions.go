package stock

import (
	"cmp"
	"slices"

	"larder/api"
)

// overrides: is w's number at most what v has over for w's node?
func overrides(v, w api.Version) bool { return w.Dot.Seq <= v.Over[w.Dot.Node] }

// Knows tells whether one of these versions has v's dot or overrides v.
func Knows(l []api.Version, v api.Version) bool {
	return slices.ContainsFunc(l, func(w api.Version) bool {
		return w.Dot == v.Dot || overrides(w, v)
	})
}

// Left tells those of these versions that v does not override, in new memory.
func Left(l []api.Version, v api.Version) []api.Version {
	var out []api.Version
	for _, w := range l {
		if !overrides(v, w) {
			out = append(out, w)
		}
	}
	return out
}

// With tells these versions and v, in the order of their dots, in new memory.
func With(l []api.Version, v api.Version) []api.Version {
	i, _ := slices.BinarySearchFunc(l, v.Dot, func(w api.Version, d api.Dot) int {
		return cmp.Or(cmp.Compare(w.Dot.Node, d.Node), cmp.Compare(w.Dot.Seq, d.Seq))
	})
	return slices.Insert(slices.Clone(l), i, v)
}

// Greatest tells for each node the greatest number of a dot of that node among these versions; 0, if there is none.
func Greatest(l []api.Version) [api.Nodes]int {
	var out [api.Nodes]int
	for _, v := range l {
		out[v.Dot.Node] = max(out[v.Dot.Node], v.Dot.Seq)
	}
	return out
}
