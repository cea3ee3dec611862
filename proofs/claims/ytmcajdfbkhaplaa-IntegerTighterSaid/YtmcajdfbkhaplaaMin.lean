/- min and max of three and four integers. -/
import Derived.WalkKit
namespace Go.Proofs.Ytmcajdfbkhaplaa
open Go.RowKit

theorem ite_min (x y : Int) : (if y < x then y else x) = min x y := by
  rw [Int.min_def]; split <;> split <;> omega
theorem ite_max (x y : Int) : (if y > x then y else x) = max x y := by
  rw [Int.max_def]; split <;> split <;> omega
section
variable {P : Program}
theorem min3_run (ts : Array TypeId) (t : TypeId) (x y z : Int) (w : World) : (Builtin.min_ ts t #[.int .i64 x, .int .i64 y, .int .i64 z]).run P w = .ok (.int .i64 (min (min x y) z)) w := by
  rw [← ite_min (min x y) z, ← ite_min x y]; simp [Builtin.min_, Builtin.min2]
theorem max3_run (ts : Array TypeId) (t : TypeId) (x y z : Int) (w : World) : (Builtin.max_ ts t #[.int .i64 x, .int .i64 y, .int .i64 z]).run P w = .ok (.int .i64 (max (max x y) z)) w := by
  rw [← ite_max (max x y) z, ← ite_max x y]; simp [Builtin.max_, Builtin.max2]
theorem min4_run (ts : Array TypeId) (t : TypeId) (x y z u : Int) (w : World) : (Builtin.min_ ts t #[.int .i64 x, .int .i64 y, .int .i64 z, .int .i64 u]).run P w = .ok (.int .i64 (min (min (min x y) z) u)) w := by
  rw [← ite_min (min (min x y) z) u, ← ite_min (min x y) z, ← ite_min x y]; simp [Builtin.min_, Builtin.min2]
theorem max4_run (ts : Array TypeId) (t : TypeId) (x y z u : Int) (w : World) : (Builtin.max_ ts t #[.int .i64 x, .int .i64 y, .int .i64 z, .int .i64 u]).run P w = .ok (.int .i64 (max (max (max x y) z) u)) w := by
  rw [← ite_max (max (max x y) z) u, ← ite_max (max x y) z, ← ite_max x y]; simp [Builtin.max_, Builtin.max2]
end
end Go.Proofs.Ytmcajdfbkhaplaa
