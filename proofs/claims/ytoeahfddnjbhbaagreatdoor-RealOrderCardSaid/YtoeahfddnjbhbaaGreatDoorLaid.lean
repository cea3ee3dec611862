/- Tables that a row lists: what the condition gives a walk. -/
import Derived.Test.YtoeahfddnjbhbaaGreatDoorProg
import Derived.Test.YtoeahfddnjbhbaaGreatDoorRows
import Derived.Lib.LaidTab
import Derived.Lib.ItoaMem
import Derived.Stop.LaidErr
import Derived.LaidMore
import Derived.Stop.Joined
namespace Go.Proofs.YtoeahfddnjbhbaaGreatDoor
open Go.Lib

theorem tabIs_of_mem {P : Program} {W : World} {name : String} {k : IntKind} {zs : List Int} {g : Nat} {t e : TypeId} {n : Nat}
    (hg : P.globalNamed name = some g) (hty : (P.globals[g]?).map (·.type) = some t) (ht : P.underlying t = some (.array n e)) (he : P.underlying e = some (.int k)) (hce : P.cellsOf e = 1) (hct : P.cellsOf t = n) :
    ∀ {l : List (String × DataW Unit)}, laidMet P l W → (name, tabData k zs) ∈ l → TabIs P W name k zs
  | [], _, hm => by cases hm
  | x :: r, h, hm => by
    rcases List.mem_cons.1 hm with e | hm
    · subst e; exact tabIs_of_head hg hty ht he hce hct h
    · exact tabIs_of_mem hg hty ht he hce hct h.tail hm
end Go.Proofs.YtoeahfddnjbhbaaGreatDoor
