
/- The law FnExactLeavesFault. -/
import Derived.Test.YthfanfnbjldddaaLvF
namespace Go.Proofs.Ythfanfnbjldddaa
open Go.RowKit

theorem small_at {ls : List (List Ch.Row)} (hs : Ch.lvSize ls ≤ 1048576) : ∀ i, (ls.getD i []).length ≤ 9223372036854775807 := fun i => by have := Ch.lv_leaf hs i; omega

theorem toLeafS_at (H : Nat) (a : Option Addr) (n cap : Nat) (ls : List (List Ch.Row)) (w : World) (hH : w.heap.size = H) (h : LvAt w a n ls) (hs : Ch.lvSize ls ≤ 1048576) :
    Calls Try.prog 38 #[.slice a n cap] w fun e w' => e = .returned (.slice (some ⟨H, 0, none⟩) n n) ∧ OwnLv w' H (.slice (some ⟨H, 0, none⟩) n n) n ls ∧ Below w.heap.size w w' := by
  subst hH
  exact toLeafS_any a n cap ls w h hs

end Go.Proofs.Ythfanfnbjldddaa
