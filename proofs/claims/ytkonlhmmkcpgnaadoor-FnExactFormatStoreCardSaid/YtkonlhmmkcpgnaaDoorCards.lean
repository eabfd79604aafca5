/-
  DERIVED. GIVEN WITH THE SEED: THE CARDS: each row of YtkonlhmmkcpgnaaDoorRows.lean that lists a variable, with what it lists TIED to the program's text (the seventh form; the later family's looks); each row that meets fmt, with fmt's text TOLD by the authors' own Lean function (tested against real Go, not proved from fmt's source: count such statements apart). THE CARD IS WHAT COUNTS. Prove the row's statement (the work); the ties are given (YtkonlhmmkcpgnaaDoorTie.lean); close each card by the builder's one call (the guide's Derived/Test/ToyasCard.lean, 'card_holds'). Laid BY PROGRAM, IN A SANDBOX (cutbox-door.mjs). By AI agents, Wed Nov 11 2026. No macro, syntax, notation, axiom, sorry.
-/
import Derived.Test.YtkonlhmmkcpgnaaDoorRows
import GoSem.ClaimSeven
namespace Go.Proofs.YtkonlhmmkcpgnaaDoor
namespace Rows

/-- THE TIED CARD OF 'laws.FnStoreSame'. -/
def fnStoreSameCard : Claim7 := { stood := { row := fnStoreSameRow, standIns := [], harness := (true, "7274b54f860cb4a4d124a77f7eea9b10fcef4ff6066d2100eeee2fcacf6aba49"), looks := false }, kinds := [], alts := [], laidByText := true, laidKinds := [.data, .data, .data], laidTests := true, laidLooks := .later }
def FnStoreSameCardSaid : Prop := Claim7.holds Tryd.pinned (.plain (OpenSpec.ofChange fnStoreSameSpec)) fnStoreSameCard

/-- THE TIED CARD OF 'laws.FnFormatStore'. -/
def fnFormatStoreCard : Claim7 := { stood := { row := fnFormatStoreRow, standIns := [], harness := (true, "7274b54f860cb4a4d124a77f7eea9b10fcef4ff6066d2100eeee2fcacf6aba49"), looks := false }, kinds := [], alts := [], laidByText := true, laidKinds := [.data, .data, .data], laidTests := true, laidLooks := .later }
def FnFormatStoreCardSaid : Prop := Claim7.holds Tryd.pinned (.plain (OpenSpec.ofChange fnFormatStoreSpec)) fnFormatStoreCard

/-- THE TIED CARD OF 'laws.FnStoreText'. -/
def fnStoreTextCard : Claim7 := { stood := { row := fnStoreTextRow, standIns := [], harness := (true, "7274b54f860cb4a4d124a77f7eea9b10fcef4ff6066d2100eeee2fcacf6aba49"), looks := false }, kinds := [], alts := [], laidByText := true, laidKinds := [.data, .data, .data], laidTests := true, laidLooks := .later }
def FnStoreTextCardSaid : Prop := Claim7.holds Tryd.pinned (.plain (OpenSpec.ofChange fnStoreTextSpec)) fnStoreTextCard

/-- THE TIED CARD OF 'laws.FnExactFormatStore'. -/
def fnExactFormatStoreCard : Claim7 := { stood := { row := fnExactFormatStoreRow, standIns := [], harness := (true, "7274b54f860cb4a4d124a77f7eea9b10fcef4ff6066d2100eeee2fcacf6aba49"), looks := false }, kinds := [], alts := [], laidByText := true, laidKinds := [.data, .data, .data], laidTests := true, laidLooks := .later }
def FnExactFormatStoreCardSaid : Prop := Claim7.holds Tryd.pinned (.plain (OpenSpec.ofChange fnExactFormatStoreSpec)) fnExactFormatStoreCard

/-- THE SECOND FORM's CARD OF 'laws.FnStoreSame'. -/
def fnStoreSameUptoCard : Claim7 := { stood := { row := fnStoreSameUptoRow, standIns := [], harness := (true, "7274b54f860cb4a4d124a77f7eea9b10fcef4ff6066d2100eeee2fcacf6aba49"), looks := false }, kinds := [], alts := [], laidByText := true, laidKinds := [.data, .data, .data], laidTests := true, laidLooks := .later }
def FnStoreSameUptoCardSaid : Prop := Claim7.holds Tryd.pinned (.plain (OpenSpec.upto fnStoreSameSpec)) fnStoreSameUptoCard

/-- THE SECOND FORM's CARD OF 'laws.FnFormatStore'. -/
def fnFormatStoreUptoCard : Claim7 := { stood := { row := fnFormatStoreUptoRow, standIns := [], harness := (true, "7274b54f860cb4a4d124a77f7eea9b10fcef4ff6066d2100eeee2fcacf6aba49"), looks := false }, kinds := [], alts := [], laidByText := true, laidKinds := [.data, .data, .data], laidTests := true, laidLooks := .later }
def FnFormatStoreUptoCardSaid : Prop := Claim7.holds Tryd.pinned (.plain (OpenSpec.upto fnFormatStoreSpec)) fnFormatStoreUptoCard

/-- THE SECOND FORM's CARD OF 'laws.FnStoreText'. -/
def fnStoreTextUptoCard : Claim7 := { stood := { row := fnStoreTextUptoRow, standIns := [], harness := (true, "7274b54f860cb4a4d124a77f7eea9b10fcef4ff6066d2100eeee2fcacf6aba49"), looks := false }, kinds := [], alts := [], laidByText := true, laidKinds := [.data, .data, .data], laidTests := true, laidLooks := .later }
def FnStoreTextUptoCardSaid : Prop := Claim7.holds Tryd.pinned (.plain (OpenSpec.upto fnStoreTextSpec)) fnStoreTextUptoCard

/-- THE SECOND FORM's CARD OF 'laws.FnExactFormatStore'. -/
def fnExactFormatStoreUptoCard : Claim7 := { stood := { row := fnExactFormatStoreUptoRow, standIns := [], harness := (true, "7274b54f860cb4a4d124a77f7eea9b10fcef4ff6066d2100eeee2fcacf6aba49"), looks := false }, kinds := [], alts := [], laidByText := true, laidKinds := [.data, .data, .data], laidTests := true, laidLooks := .later }
def FnExactFormatStoreUptoCardSaid : Prop := Claim7.holds Tryd.pinned (.plain (OpenSpec.upto fnExactFormatStoreSpec)) fnExactFormatStoreUptoCard
end Rows
end Go.Proofs.YtkonlhmmkcpgnaaDoor
