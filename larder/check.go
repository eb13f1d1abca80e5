package larder

import "larder/api"

// isNode: is there a node of this number?
func isNode(node int) bool { return node >= 0 && node < api.Nodes }

// isConfig: can a node have these numbers?
func isConfig(c api.Config) bool {
	return isNode(c.Node) && c.Segment >= api.MinSegment && c.Segment <= api.MaxSegment && c.Sync >= 0 && c.Sync <= api.MaxSync
}

// isKey: may this be a key?
func isKey(key string) bool { return key != "" && len(key) <= api.MaxKey }

// isOther: is this the number of another node?
func (n *Node) isOther(node int) bool { return isNode(node) && node != n.self }

// isForeign: may another node have sent this version?
func (n *Node) isForeign(v api.Version) bool {
	for _, o := range v.Over {
		if o < 0 || o > api.MaxSeq {
			return false
		}
	}
	if v.Gone && v.Value != "" {
		return false
	}
	return n.isOther(v.Dot.Node) && v.Dot.Seq >= 1 && v.Dot.Seq <= api.MaxSeq
}
