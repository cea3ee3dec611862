/-
  DERIVED. GIVEN WITH THE SEED: THE CARDS: each row of YtogfiekbikechaaGreatDoorRows.lean that lists a variable, with what it lists TIED to the program's text (the seventh form; the later family's looks); each row that meets fmt, with fmt's text TOLD by the authors' own Lean function (tested against real Go, not proved from fmt's source: count such statements apart). THE CARD IS WHAT COUNTS. Prove the row's statement (the work); the ties are given (YtogfiekbikechaaGreatDoorTie.lean); close each card by the builder's one call (the guide's Derived/Test/ToyasCard.lean, 'card_holds'). Laid BY PROGRAM, IN A SANDBOX (cutbox-door.mjs). By AI agents, Wed Nov 11 2026. No macro, syntax, notation, axiom, sorry.
-/
import Derived.Test.YtogfiekbikechaaGreatDoorRows
import GoSem.ClaimSeven
namespace Go.Proofs.YtogfiekbikechaaGreatDoor
namespace Rows

/-- THE TIED CARD OF 'manorboylaw02.RealNumbers'. -/
def realNumbersCard : Claim7 := { stood := { row := realNumbersRow, standIns := [], harness := (true, "cd2f6b2466765b47074b9c62306683660d6083d4d46a3081a64c7d573a7558ab"), looks := false }, kinds := [], alts := [], laidByText := true, laidKinds := [.data, .data, .data, .data, .data, .pinned], laidTests := true, laidLooks := .later }
def RealNumbersCardSaid : Prop := Claim7.holds Tryz.pinned (.plain (OpenSpec.ofChange realNumbersSpec)) realNumbersCard

/-- THE TIED CARD OF 'manorboylaw02.RealSums'. -/
def realSumsCard : Claim7 := { stood := { row := realSumsRow, standIns := [], harness := (true, "cd2f6b2466765b47074b9c62306683660d6083d4d46a3081a64c7d573a7558ab"), looks := false }, kinds := [], alts := [], laidByText := true, laidKinds := [.data, .data, .data, .data, .data, .pinned], laidTests := true, laidLooks := .later }
def RealSumsCardSaid : Prop := Claim7.holds Tryz.pinned (.plain (OpenSpec.ofChange realSumsSpec)) realSumsCard

/-- THE TIED CARD OF 'manorboylaw02.RealProducts'. -/
def realProductsCard : Claim7 := { stood := { row := realProductsRow, standIns := [], harness := (true, "cd2f6b2466765b47074b9c62306683660d6083d4d46a3081a64c7d573a7558ab"), looks := false }, kinds := [], alts := [], laidByText := true, laidKinds := [.data, .data, .data, .data, .data, .pinned], laidTests := true, laidLooks := .later }
def RealProductsCardSaid : Prop := Claim7.holds Tryz.pinned (.plain (OpenSpec.ofChange realProductsSpec)) realProductsCard

/-- THE TIED CARD OF 'manorboylaw02.RealPowers'. -/
def realPowersCard : Claim7 := { stood := { row := realPowersRow, standIns := [], harness := (true, "cd2f6b2466765b47074b9c62306683660d6083d4d46a3081a64c7d573a7558ab"), looks := false }, kinds := [], alts := [], laidByText := true, laidKinds := [.data, .data, .data, .data, .data, .pinned], laidTests := true, laidLooks := .later }
def RealPowersCardSaid : Prop := Claim7.holds Tryz.pinned (.plain (OpenSpec.ofChange realPowersSpec)) realPowersCard

/-- THE TIED CARD OF 'manorboylaw02.RealIntegers'. -/
def realIntegersCard : Claim7 := { stood := { row := realIntegersRow, standIns := [], harness := (true, "cd2f6b2466765b47074b9c62306683660d6083d4d46a3081a64c7d573a7558ab"), looks := false }, kinds := [], alts := [], laidByText := true, laidKinds := [.data, .data, .data, .data, .data, .pinned], laidTests := true, laidLooks := .later }
def RealIntegersCardSaid : Prop := Claim7.holds Tryz.pinned (.plain (OpenSpec.ofChange realIntegersSpec)) realIntegersCard

/-- THE TIED CARD OF 'manorboylaw02.RealStrings'. -/
def realStringsCard : Claim7 := { stood := { row := realStringsRow, standIns := [], harness := (true, "cd2f6b2466765b47074b9c62306683660d6083d4d46a3081a64c7d573a7558ab"), looks := false }, kinds := [], alts := [], laidByText := true, laidKinds := [.data, .data, .data, .data, .data, .pinned], laidTests := true, laidLooks := .later }
def RealStringsCardSaid : Prop := Claim7.holds Tryz.pinned (.plain (OpenSpec.ofChange realStringsSpec)) realStringsCard

/-- THE TIED CARD OF 'manorboylaw02.RealBack'. -/
def realBackCard : Claim7 := { stood := { row := realBackRow, standIns := [], harness := (true, "cd2f6b2466765b47074b9c62306683660d6083d4d46a3081a64c7d573a7558ab"), looks := false }, kinds := [], alts := [], laidByText := true, laidKinds := [.data, .data, .data, .data, .data, .pinned], laidTests := true, laidLooks := .later }
def RealBackCardSaid : Prop := Claim7.holds Tryz.pinned (.plain (OpenSpec.ofChange realBackSpec)) realBackCard

/-- THE SECOND FORM's CARD OF 'manorboylaw02.RealNumbers'. -/
def realNumbersUptoCard : Claim7 := { stood := { row := realNumbersUptoRow, standIns := [], harness := (true, "cd2f6b2466765b47074b9c62306683660d6083d4d46a3081a64c7d573a7558ab"), looks := false }, kinds := [], alts := [], laidByText := true, laidKinds := [.data, .data, .data, .data, .data, .pinned], laidTests := true, laidLooks := .later }
def RealNumbersUptoCardSaid : Prop := Claim7.holds Tryz.pinned (.plain (OpenSpec.upto realNumbersSpec)) realNumbersUptoCard

/-- THE SECOND FORM's CARD OF 'manorboylaw02.RealSums'. -/
def realSumsUptoCard : Claim7 := { stood := { row := realSumsUptoRow, standIns := [], harness := (true, "cd2f6b2466765b47074b9c62306683660d6083d4d46a3081a64c7d573a7558ab"), looks := false }, kinds := [], alts := [], laidByText := true, laidKinds := [.data, .data, .data, .data, .data, .pinned], laidTests := true, laidLooks := .later }
def RealSumsUptoCardSaid : Prop := Claim7.holds Tryz.pinned (.plain (OpenSpec.upto realSumsSpec)) realSumsUptoCard

/-- THE SECOND FORM's CARD OF 'manorboylaw02.RealProducts'. -/
def realProductsUptoCard : Claim7 := { stood := { row := realProductsUptoRow, standIns := [], harness := (true, "cd2f6b2466765b47074b9c62306683660d6083d4d46a3081a64c7d573a7558ab"), looks := false }, kinds := [], alts := [], laidByText := true, laidKinds := [.data, .data, .data, .data, .data, .pinned], laidTests := true, laidLooks := .later }
def RealProductsUptoCardSaid : Prop := Claim7.holds Tryz.pinned (.plain (OpenSpec.upto realProductsSpec)) realProductsUptoCard

/-- THE SECOND FORM's CARD OF 'manorboylaw02.RealPowers'. -/
def realPowersUptoCard : Claim7 := { stood := { row := realPowersUptoRow, standIns := [], harness := (true, "cd2f6b2466765b47074b9c62306683660d6083d4d46a3081a64c7d573a7558ab"), looks := false }, kinds := [], alts := [], laidByText := true, laidKinds := [.data, .data, .data, .data, .data, .pinned], laidTests := true, laidLooks := .later }
def RealPowersUptoCardSaid : Prop := Claim7.holds Tryz.pinned (.plain (OpenSpec.upto realPowersSpec)) realPowersUptoCard

/-- THE SECOND FORM's CARD OF 'manorboylaw02.RealIntegers'. -/
def realIntegersUptoCard : Claim7 := { stood := { row := realIntegersUptoRow, standIns := [], harness := (true, "cd2f6b2466765b47074b9c62306683660d6083d4d46a3081a64c7d573a7558ab"), looks := false }, kinds := [], alts := [], laidByText := true, laidKinds := [.data, .data, .data, .data, .data, .pinned], laidTests := true, laidLooks := .later }
def RealIntegersUptoCardSaid : Prop := Claim7.holds Tryz.pinned (.plain (OpenSpec.upto realIntegersSpec)) realIntegersUptoCard

/-- THE SECOND FORM's CARD OF 'manorboylaw02.RealStrings'. -/
def realStringsUptoCard : Claim7 := { stood := { row := realStringsUptoRow, standIns := [], harness := (true, "cd2f6b2466765b47074b9c62306683660d6083d4d46a3081a64c7d573a7558ab"), looks := false }, kinds := [], alts := [], laidByText := true, laidKinds := [.data, .data, .data, .data, .data, .pinned], laidTests := true, laidLooks := .later }
def RealStringsUptoCardSaid : Prop := Claim7.holds Tryz.pinned (.plain (OpenSpec.upto realStringsSpec)) realStringsUptoCard

/-- THE SECOND FORM's CARD OF 'manorboylaw02.RealBack'. -/
def realBackUptoCard : Claim7 := { stood := { row := realBackUptoRow, standIns := [], harness := (true, "cd2f6b2466765b47074b9c62306683660d6083d4d46a3081a64c7d573a7558ab"), looks := false }, kinds := [], alts := [], laidByText := true, laidKinds := [.data, .data, .data, .data, .data, .pinned], laidTests := true, laidLooks := .later }
def RealBackUptoCardSaid : Prop := Claim7.holds Tryz.pinned (.plain (OpenSpec.upto realBackSpec)) realBackUptoCard
end Rows
end Go.Proofs.YtogfiekbikechaaGreatDoor
