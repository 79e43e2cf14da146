/-
  DERIVED. GIVEN WITH THE SEED: THE CARDS: each row of YtbnnbnmlocefdaaGreatDoorRows.lean that lists a variable, with what it lists TIED to the program's text (the seventh form; the later family's looks); each row that meets fmt, with fmt's text TOLD by the authors' own Lean function (tested against real Go, not proved from fmt's source: count such statements apart). THE CARD IS WHAT COUNTS. Prove the row's statement (the work); the ties are given (YtbnnbnmlocefdaaGreatDoorTie.lean); close each card by the builder's one call (the guide's Derived/Test/ToyasCard.lean, 'card_holds'). Laid BY PROGRAM, IN A SANDBOX (cutbox-door.mjs). By AI agents, Wed Nov 11 2026. No macro, syntax, notation, axiom, sorry.
-/
import Derived.Test.YtbnnbnmlocefdaaGreatDoorRows
import GoSem.ClaimSeven
namespace Go.Proofs.YtbnnbnmlocefdaaGreatDoor
namespace Rows

/-- THE TIED CARD OF 'augurlaw.Checks'. -/
def checksCard : Claim7 := { stood := { row := checksRow, standIns := [], harness := (true, "2a16c5e4d0d8303a2504b6199c005d9a0231cbb69e715aab41a0fadb2228dc52"), looks := false }, kinds := [], alts := [], laidByText := true, laidKinds := [.data, .data, .data], laidTests := true, laidLooks := .later }
def ChecksCardSaid : Prop := Claim7.holds Tryz.pinned (.plain (OpenSpec.ofChange checksSpec)) checksCard

/-- THE TIED CARD OF 'augurlaw.Follows'. -/
def followsCard : Claim7 := { stood := { row := followsRow, standIns := [], harness := (true, "2a16c5e4d0d8303a2504b6199c005d9a0231cbb69e715aab41a0fadb2228dc52"), looks := false }, kinds := [], alts := [], laidByText := true, laidKinds := [.data, .data, .data], laidTests := true, laidLooks := .later }
def FollowsCardSaid : Prop := Claim7.holds Tryz.pinned (.plain (OpenSpec.ofChange followsSpec)) followsCard

/-- THE TIED CARD OF 'augurlaw.Obeyed'. -/
def obeyedCard : Claim7 := { stood := { row := obeyedRow, standIns := [], harness := (true, "2a16c5e4d0d8303a2504b6199c005d9a0231cbb69e715aab41a0fadb2228dc52"), looks := false }, kinds := [], alts := [], laidByText := true, laidKinds := [.data, .data, .data], laidTests := true, laidLooks := .later }
def ObeyedCardSaid : Prop := Claim7.holds Tryz.pinned (.plain (OpenSpec.ofChange obeyedSpec)) obeyedCard

/-- THE TIED CARD OF 'augurlaw.Least'. -/
def leastCard : Claim7 := { stood := { row := leastRow, standIns := [], harness := (true, "2a16c5e4d0d8303a2504b6199c005d9a0231cbb69e715aab41a0fadb2228dc52"), looks := false }, kinds := [], alts := [], laidByText := true, laidKinds := [.data, .data, .data], laidTests := true, laidLooks := .later }
def LeastCardSaid : Prop := Claim7.holds Tryz.pinned (.plain (OpenSpec.ofChange leastSpec)) leastCard

/-- THE TIED CARD OF 'augurlaw.Asks'. -/
def asksCard : Claim7 := { stood := { row := asksRow, standIns := [], harness := (true, "2a16c5e4d0d8303a2504b6199c005d9a0231cbb69e715aab41a0fadb2228dc52"), looks := false }, kinds := [], alts := [], laidByText := true, laidKinds := [.data, .data, .data], laidTests := true, laidLooks := .later }
def AsksCardSaid : Prop := Claim7.holds Tryz.pinned (.plain (OpenSpec.ofChange asksSpec)) asksCard

/-- THE TIED CARD OF 'augurlaw.Told'. -/
def toldCard : Claim7 := { stood := { row := toldRow, standIns := [], harness := (true, "2a16c5e4d0d8303a2504b6199c005d9a0231cbb69e715aab41a0fadb2228dc52"), looks := false }, kinds := [], alts := [], laidByText := true, laidKinds := [.data, .data, .data], laidTests := true, laidLooks := .later }
def ToldCardSaid : Prop := Claim7.holds Tryz.pinned (.plain (OpenSpec.ofChange toldSpec)) toldCard

/-- THE TIED CARD OF 'augurlaw.Whys'. -/
def whysCard : Claim7 := { stood := { row := whysRow, standIns := [], harness := (true, "2a16c5e4d0d8303a2504b6199c005d9a0231cbb69e715aab41a0fadb2228dc52"), looks := false }, kinds := [], alts := [], laidByText := true, laidKinds := [.data, .data, .data], laidTests := true, laidLooks := .later }
def WhysCardSaid : Prop := Claim7.holds Tryz.pinned (.plain (OpenSpec.ofChange whysSpec)) whysCard

/-- THE TIED CARD OF 'augurlaw.Reasoned'. -/
def reasonedCard : Claim7 := { stood := { row := reasonedRow, standIns := [], harness := (true, "2a16c5e4d0d8303a2504b6199c005d9a0231cbb69e715aab41a0fadb2228dc52"), looks := false }, kinds := [], alts := [], laidByText := true, laidKinds := [.data, .data, .data], laidTests := true, laidLooks := .later }
def ReasonedCardSaid : Prop := Claim7.holds Tryz.pinned (.plain (OpenSpec.ofChange reasonedSpec)) reasonedCard

/-- THE SECOND FORM's CARD OF 'augurlaw.Checks'. -/
def checksUptoCard : Claim7 := { stood := { row := checksUptoRow, standIns := [], harness := (true, "2a16c5e4d0d8303a2504b6199c005d9a0231cbb69e715aab41a0fadb2228dc52"), looks := false }, kinds := [], alts := [], laidByText := true, laidKinds := [.data, .data, .data], laidTests := true, laidLooks := .later }
def ChecksUptoCardSaid : Prop := Claim7.holds Tryz.pinned (.plain (OpenSpec.upto checksSpec)) checksUptoCard

/-- THE SECOND FORM's CARD OF 'augurlaw.Follows'. -/
def followsUptoCard : Claim7 := { stood := { row := followsUptoRow, standIns := [], harness := (true, "2a16c5e4d0d8303a2504b6199c005d9a0231cbb69e715aab41a0fadb2228dc52"), looks := false }, kinds := [], alts := [], laidByText := true, laidKinds := [.data, .data, .data], laidTests := true, laidLooks := .later }
def FollowsUptoCardSaid : Prop := Claim7.holds Tryz.pinned (.plain (OpenSpec.upto followsSpec)) followsUptoCard

/-- THE SECOND FORM's CARD OF 'augurlaw.Obeyed'. -/
def obeyedUptoCard : Claim7 := { stood := { row := obeyedUptoRow, standIns := [], harness := (true, "2a16c5e4d0d8303a2504b6199c005d9a0231cbb69e715aab41a0fadb2228dc52"), looks := false }, kinds := [], alts := [], laidByText := true, laidKinds := [.data, .data, .data], laidTests := true, laidLooks := .later }
def ObeyedUptoCardSaid : Prop := Claim7.holds Tryz.pinned (.plain (OpenSpec.upto obeyedSpec)) obeyedUptoCard

/-- THE SECOND FORM's CARD OF 'augurlaw.Least'. -/
def leastUptoCard : Claim7 := { stood := { row := leastUptoRow, standIns := [], harness := (true, "2a16c5e4d0d8303a2504b6199c005d9a0231cbb69e715aab41a0fadb2228dc52"), looks := false }, kinds := [], alts := [], laidByText := true, laidKinds := [.data, .data, .data], laidTests := true, laidLooks := .later }
def LeastUptoCardSaid : Prop := Claim7.holds Tryz.pinned (.plain (OpenSpec.upto leastSpec)) leastUptoCard

/-- THE SECOND FORM's CARD OF 'augurlaw.Asks'. -/
def asksUptoCard : Claim7 := { stood := { row := asksUptoRow, standIns := [], harness := (true, "2a16c5e4d0d8303a2504b6199c005d9a0231cbb69e715aab41a0fadb2228dc52"), looks := false }, kinds := [], alts := [], laidByText := true, laidKinds := [.data, .data, .data], laidTests := true, laidLooks := .later }
def AsksUptoCardSaid : Prop := Claim7.holds Tryz.pinned (.plain (OpenSpec.upto asksSpec)) asksUptoCard

/-- THE SECOND FORM's CARD OF 'augurlaw.Told'. -/
def toldUptoCard : Claim7 := { stood := { row := toldUptoRow, standIns := [], harness := (true, "2a16c5e4d0d8303a2504b6199c005d9a0231cbb69e715aab41a0fadb2228dc52"), looks := false }, kinds := [], alts := [], laidByText := true, laidKinds := [.data, .data, .data], laidTests := true, laidLooks := .later }
def ToldUptoCardSaid : Prop := Claim7.holds Tryz.pinned (.plain (OpenSpec.upto toldSpec)) toldUptoCard

/-- THE SECOND FORM's CARD OF 'augurlaw.Whys'. -/
def whysUptoCard : Claim7 := { stood := { row := whysUptoRow, standIns := [], harness := (true, "2a16c5e4d0d8303a2504b6199c005d9a0231cbb69e715aab41a0fadb2228dc52"), looks := false }, kinds := [], alts := [], laidByText := true, laidKinds := [.data, .data, .data], laidTests := true, laidLooks := .later }
def WhysUptoCardSaid : Prop := Claim7.holds Tryz.pinned (.plain (OpenSpec.upto whysSpec)) whysUptoCard

/-- THE SECOND FORM's CARD OF 'augurlaw.Reasoned'. -/
def reasonedUptoCard : Claim7 := { stood := { row := reasonedUptoRow, standIns := [], harness := (true, "2a16c5e4d0d8303a2504b6199c005d9a0231cbb69e715aab41a0fadb2228dc52"), looks := false }, kinds := [], alts := [], laidByText := true, laidKinds := [.data, .data, .data], laidTests := true, laidLooks := .later }
def ReasonedUptoCardSaid : Prop := Claim7.holds Tryz.pinned (.plain (OpenSpec.upto reasonedSpec)) reasonedUptoCard
end Rows
end Go.Proofs.YtbnnbnmlocefdaaGreatDoor
