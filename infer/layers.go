package infer

import "augur/syntax"

// layers parts the numbers of the clauses by the layers of their heads, the
// lowest first.
func layers(clauses []syntax.Clause) [][]int {
	layerOf := numberLayers(clauses)
	var parts [][]int
	for number, clause := range clauses {
		layer := layerOf[clause.Head.Name]
		for len(parts) <= layer {
			parts = append(parts, nil)
		}
		parts[layer] = append(parts[layer], number)
	}
	return parts
}

// numberLayers answers the layer of each relation that has a clause, but for
// those of layer 0. It raises them till all are above what they hang on, which
// comes to an end since no ring of clauses goes through a `!`.
func numberLayers(clauses []syntax.Clause) map[string]int {
	layerOf := make(map[string]int)
	for raised := true; raised; {
		raised = false
		for _, clause := range clauses {
			least := leastLayer(layerOf, clause.Body)
			if layerOf[clause.Head.Name] < least {
				layerOf[clause.Head.Name] = least
				raised = true
			}
		}
	}
	return layerOf
}

// leastLayer tells the lowest layer in which a head with this body can be.
func leastLayer(layerOf map[string]int, body syntax.Body) int {
	least := 0
	for _, literal := range body {
		switch literal.Sort {
		case syntax.Present:
			least = max(least, layerOf[literal.Atom.Name])
		case syntax.Absent:
			least = max(least, layerOf[literal.Atom.Name]+1)
		}
	}
	return least
}
