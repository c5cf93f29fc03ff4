/- Plain mathematics of chapter 1 (rows and pages): no Go in it. -/
namespace Go.Proofs.Ythkbaabfhbjbgaa.Ch
def inB (v lo hi : Int) : Bool := decide (lo ≤ v) && decide (v ≤ hi)
def rowFault (k v : Int) (g : Bool) : Int :=
  if !inB k 0 99 || !inB v 0 9999 then 3 else if g && v != 0 then 1 else 0
end Go.Proofs.Ythkbaabfhbjbgaa.Ch
