/- Layer 1: the least and the greatest of four integers. -/
import Derived.Test.YtmcajdfbkhaplaaWe
import Derived.Handy
namespace Go.Proofs.Ytmcajdfbkhaplaa
open Go.RowKit

set_option maxHeartbeats 2000000 in
theorem min_four (B : Nat) (x0 x1 x2 x3 : Int) (w : World) (h0 : w.cell? ⟨B, 0, none⟩ = some (.int .i64 x0)) (h1 : w.cell? ⟨B, 1, none⟩ = some (.int .i64 x1)) (h2 : w.cell? ⟨B, 2, none⟩ = some (.int .i64 x2)) (h3 : w.cell? ⟨B, 3, none⟩ = some (.int .i64 x3)) :
    Calls Try.prog 93 #[.slice (some ⟨B, 0, none⟩) 4 4] w fun e w' => e = .returned (.int .i64 (min (min (min x0 x1) x2) x3)) ∧ w = w' := by
  go_enter Try.func93, Try.ntmps93
  go_wp2
  go_rounds 5
  all_goals go_ret
  all_goals exact ⟨by simp; omega, rfl⟩

set_option maxHeartbeats 2000000 in
theorem max_four (B : Nat) (x0 x1 x2 x3 : Int) (w : World) (h0 : w.cell? ⟨B, 0, none⟩ = some (.int .i64 x0)) (h1 : w.cell? ⟨B, 1, none⟩ = some (.int .i64 x1)) (h2 : w.cell? ⟨B, 2, none⟩ = some (.int .i64 x2)) (h3 : w.cell? ⟨B, 3, none⟩ = some (.int .i64 x3)) :
    Calls Try.prog 94 #[.slice (some ⟨B, 0, none⟩) 4 4] w fun e w' => e = .returned (.int .i64 (max (max (max x0 x1) x2) x3)) ∧ w = w' := by
  go_enter Try.func94, Try.ntmps94
  go_wp2
  go_rounds 5
  all_goals go_ret
  all_goals exact ⟨by simp; omega, rfl⟩
end Go.Proofs.Ytmcajdfbkhaplaa
