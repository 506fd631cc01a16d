/-
  No cell of these rows narrows 'for every input' (looked for: loops, veiled, ifaces, maps, wideKeys, modest, calm, conditions, laid).
  DERIVED. THE GIVEN ROWS OF THIS SEAT. 12 by the template 'for every input the law returns true; each argument reads behind the call as it read before'; 0 by the template 'total and deterministic' (their statements: YtmkboljfbmlebabTotals.lean).
  GIVEN WITH THE SEED: the statements are not yours to turn. If you find one false, say at which input.
  Laid BY PROGRAM, IN A SANDBOX (cutbox-rows.mjs): the forced cells as the released guide's own fill.sh prints them over the translation 7fc95690f0ebba53… (all of the seat's roots in one cut). By AI agents, Wed Nov 11 2026. No macro, syntax, notation, axiom, sorry.
-/
import Derived.Test.YtmkboljfbmlebabChecked
import GoSem.Claim
import GoSem.ClaimJoined
import GoSem.ClaimMapViews
import Derived.JoinedTies
import Derived.KernelRfl
namespace Go.Proofs.Ytmkboljfbmlebab
/- THE CELL 'sum', in the pinned program and in every row, IS THE sha256 OF THE DUMP (.gsa) THAT YtmkboljfbmlebabProg.lean LOADS. Nothing in Lean hashes anything: it is a label: what it is worth is what the hold of that sum in a sandbox is worth. -/
noncomputable def Try.pinned : Pinned := { name := "ytmkboljfbmlebab", sum := "7fc95690f0ebba53bb9cbdf3b31cd75f7959b9f5e627472fad88667f96ac3403", checked := Try.checked }
namespace Rows
def none {H : Type} : Left H := { results := [], args := [] }

/-- 'quittancelaw.BankNil': WHATEVER THE INPUT: true; the input reads as it did. -/
def bankNilSpec : ChangeSpec := { name := "bankNil", fn := fun _ => fun
  | [d] => { results := [.lit (.bool true)], args := [d] }
  | _ => none }
def bankNilRow : OpenClaim := { program := "ytmkboljfbmlebab", sum := "7fc95690f0ebba53bb9cbdf3b31cd75f7959b9f5e627472fad88667f96ac3403", func := "quittance/quittancelaw.BankNil", spec := "bankNil", unfollowed := true, recurses := true, apart := false }
def BankNilSaid : Prop := bankNilRow.holds Try.pinned (OpenSpec.ofChange bankNilSpec)

/-- ITS FALSE NEIGHBOUR: 'it returns false'. Refute it at one input. -/
def bankNilWrong : ChangeSpec := { name := "bankNil", fn := fun _ => fun
  | [d] => { results := [.lit (.bool false)], args := [d] }
  | _ => none }
def BankNilWrongFalsely : Prop := bankNilRow.holds Try.pinned (OpenSpec.ofChange bankNilWrong)

/-- 'quittancetop.TopGood': WHATEVER THE INPUT: true; the input reads as it did. -/
def topGoodSpec : ChangeSpec := { name := "topGood", fn := fun _ => fun
  | [d] => { results := [.lit (.bool true)], args := [d] }
  | _ => none }
def topGoodRow : OpenClaim := { program := "ytmkboljfbmlebab", sum := "7fc95690f0ebba53bb9cbdf3b31cd75f7959b9f5e627472fad88667f96ac3403", func := "quittance/quittancetop.TopGood", spec := "topGood", unfollowed := true, recurses := true, apart := false }
def TopGoodSaid : Prop := topGoodRow.holds Try.pinned (OpenSpec.ofChange topGoodSpec)

/-- ITS FALSE NEIGHBOUR: 'it returns false'. Refute it at one input. -/
def topGoodWrong : ChangeSpec := { name := "topGood", fn := fun _ => fun
  | [d] => { results := [.lit (.bool false)], args := [d] }
  | _ => none }
def TopGoodWrongFalsely : Prop := topGoodRow.holds Try.pinned (OpenSpec.ofChange topGoodWrong)

/-- 'quittancetop.TopSums': WHATEVER THE INPUT: true; the input reads as it did. -/
def topSumsSpec : ChangeSpec := { name := "topSums", fn := fun _ => fun
  | [d] => { results := [.lit (.bool true)], args := [d] }
  | _ => none }
def topSumsRow : OpenClaim := { program := "ytmkboljfbmlebab", sum := "7fc95690f0ebba53bb9cbdf3b31cd75f7959b9f5e627472fad88667f96ac3403", func := "quittance/quittancetop.TopSums", spec := "topSums", unfollowed := true, recurses := true, apart := false }
def TopSumsSaid : Prop := topSumsRow.holds Try.pinned (OpenSpec.ofChange topSumsSpec)

/-- ITS FALSE NEIGHBOUR: 'it returns false'. Refute it at one input. -/
def topSumsWrong : ChangeSpec := { name := "topSums", fn := fun _ => fun
  | [d] => { results := [.lit (.bool false)], args := [d] }
  | _ => none }
def TopSumsWrongFalsely : Prop := topSumsRow.holds Try.pinned (OpenSpec.ofChange topSumsWrong)

/-- 'quittancetop.TopOutside': WHATEVER THE INPUT: true; the input reads as it did. -/
def topOutsideSpec : ChangeSpec := { name := "topOutside", fn := fun _ => fun
  | [d] => { results := [.lit (.bool true)], args := [d] }
  | _ => none }
def topOutsideRow : OpenClaim := { program := "ytmkboljfbmlebab", sum := "7fc95690f0ebba53bb9cbdf3b31cd75f7959b9f5e627472fad88667f96ac3403", func := "quittance/quittancetop.TopOutside", spec := "topOutside", unfollowed := true, recurses := true, apart := false }
def TopOutsideSaid : Prop := topOutsideRow.holds Try.pinned (OpenSpec.ofChange topOutsideSpec)

/-- ITS FALSE NEIGHBOUR: 'it returns false'. Refute it at one input. -/
def topOutsideWrong : ChangeSpec := { name := "topOutside", fn := fun _ => fun
  | [d] => { results := [.lit (.bool false)], args := [d] }
  | _ => none }
def TopOutsideWrongFalsely : Prop := topOutsideRow.holds Try.pinned (OpenSpec.ofChange topOutsideWrong)

/-- 'quittancetop.TopBounds': WHATEVER THE INPUT: true; the input reads as it did. -/
def topBoundsSpec : ChangeSpec := { name := "topBounds", fn := fun _ => fun
  | [d] => { results := [.lit (.bool true)], args := [d] }
  | _ => none }
def topBoundsRow : OpenClaim := { program := "ytmkboljfbmlebab", sum := "7fc95690f0ebba53bb9cbdf3b31cd75f7959b9f5e627472fad88667f96ac3403", func := "quittance/quittancetop.TopBounds", spec := "topBounds", unfollowed := true, recurses := true, apart := false }
def TopBoundsSaid : Prop := topBoundsRow.holds Try.pinned (OpenSpec.ofChange topBoundsSpec)

/-- ITS FALSE NEIGHBOUR: 'it returns false'. Refute it at one input. -/
def topBoundsWrong : ChangeSpec := { name := "topBounds", fn := fun _ => fun
  | [d] => { results := [.lit (.bool false)], args := [d] }
  | _ => none }
def TopBoundsWrongFalsely : Prop := topBoundsRow.holds Try.pinned (OpenSpec.ofChange topBoundsWrong)

/-- 'quittancetop.TopStates': WHATEVER THE INPUT: true; the input reads as it did. -/
def topStatesSpec : ChangeSpec := { name := "topStates", fn := fun _ => fun
  | [d] => { results := [.lit (.bool true)], args := [d] }
  | _ => none }
def topStatesRow : OpenClaim := { program := "ytmkboljfbmlebab", sum := "7fc95690f0ebba53bb9cbdf3b31cd75f7959b9f5e627472fad88667f96ac3403", func := "quittance/quittancetop.TopStates", spec := "topStates", unfollowed := true, recurses := true, apart := false }
def TopStatesSaid : Prop := topStatesRow.holds Try.pinned (OpenSpec.ofChange topStatesSpec)

/-- ITS FALSE NEIGHBOUR: 'it returns false'. Refute it at one input. -/
def topStatesWrong : ChangeSpec := { name := "topStates", fn := fun _ => fun
  | [d] => { results := [.lit (.bool false)], args := [d] }
  | _ => none }
def TopStatesWrongFalsely : Prop := topStatesRow.holds Try.pinned (OpenSpec.ofChange topStatesWrong)

/-- 'quittancetop.TopCrash': WHATEVER THE INPUT: true; the input reads as it did. -/
def topCrashSpec : ChangeSpec := { name := "topCrash", fn := fun _ => fun
  | [d] => { results := [.lit (.bool true)], args := [d] }
  | _ => none }
def topCrashRow : OpenClaim := { program := "ytmkboljfbmlebab", sum := "7fc95690f0ebba53bb9cbdf3b31cd75f7959b9f5e627472fad88667f96ac3403", func := "quittance/quittancetop.TopCrash", spec := "topCrash", unfollowed := true, recurses := true, apart := false }
def TopCrashSaid : Prop := topCrashRow.holds Try.pinned (OpenSpec.ofChange topCrashSpec)

/-- ITS FALSE NEIGHBOUR: 'it returns false'. Refute it at one input. -/
def topCrashWrong : ChangeSpec := { name := "topCrash", fn := fun _ => fun
  | [d] => { results := [.lit (.bool false)], args := [d] }
  | _ => none }
def TopCrashWrongFalsely : Prop := topCrashRow.holds Try.pinned (OpenSpec.ofChange topCrashWrong)

/-- 'quittancetop.TopBook': WHATEVER THE INPUT: true; the input reads as it did. -/
def topBookSpec : ChangeSpec := { name := "topBook", fn := fun _ => fun
  | [d] => { results := [.lit (.bool true)], args := [d] }
  | _ => none }
def topBookRow : OpenClaim := { program := "ytmkboljfbmlebab", sum := "7fc95690f0ebba53bb9cbdf3b31cd75f7959b9f5e627472fad88667f96ac3403", func := "quittance/quittancetop.TopBook", spec := "topBook", unfollowed := true, recurses := true, apart := false }
def TopBookSaid : Prop := topBookRow.holds Try.pinned (OpenSpec.ofChange topBookSpec)

/-- ITS FALSE NEIGHBOUR: 'it returns false'. Refute it at one input. -/
def topBookWrong : ChangeSpec := { name := "topBook", fn := fun _ => fun
  | [d] => { results := [.lit (.bool false)], args := [d] }
  | _ => none }
def TopBookWrongFalsely : Prop := topBookRow.holds Try.pinned (OpenSpec.ofChange topBookWrong)

/-- 'quittancetop.TopClose': WHATEVER THE INPUT: true; the input reads as it did. -/
def topCloseSpec : ChangeSpec := { name := "topClose", fn := fun _ => fun
  | [d] => { results := [.lit (.bool true)], args := [d] }
  | _ => none }
def topCloseRow : OpenClaim := { program := "ytmkboljfbmlebab", sum := "7fc95690f0ebba53bb9cbdf3b31cd75f7959b9f5e627472fad88667f96ac3403", func := "quittance/quittancetop.TopClose", spec := "topClose", unfollowed := true, recurses := true, apart := false }
def TopCloseSaid : Prop := topCloseRow.holds Try.pinned (OpenSpec.ofChange topCloseSpec)

/-- ITS FALSE NEIGHBOUR: 'it returns false'. Refute it at one input. -/
def topCloseWrong : ChangeSpec := { name := "topClose", fn := fun _ => fun
  | [d] => { results := [.lit (.bool false)], args := [d] }
  | _ => none }
def TopCloseWrongFalsely : Prop := topCloseRow.holds Try.pinned (OpenSpec.ofChange topCloseWrong)

/-- 'quittancetop.TopRefused': WHATEVER THE INPUT: true; the input reads as it did. -/
def topRefusedSpec : ChangeSpec := { name := "topRefused", fn := fun _ => fun
  | [d1, d2] => { results := [.lit (.bool true)], args := [d1, d2] }
  | _ => none }
def topRefusedRow : OpenClaim := { program := "ytmkboljfbmlebab", sum := "7fc95690f0ebba53bb9cbdf3b31cd75f7959b9f5e627472fad88667f96ac3403", func := "quittance/quittancetop.TopRefused", spec := "topRefused", unfollowed := true, recurses := true, apart := false }
def TopRefusedSaid : Prop := topRefusedRow.holds Try.pinned (OpenSpec.ofChange topRefusedSpec)

/-- ITS FALSE NEIGHBOUR: 'it returns false'. Refute it at one input. -/
def topRefusedWrong : ChangeSpec := { name := "topRefused", fn := fun _ => fun
  | [d1, d2] => { results := [.lit (.bool false)], args := [d1, d2] }
  | _ => none }
def TopRefusedWrongFalsely : Prop := topRefusedRow.holds Try.pinned (OpenSpec.ofChange topRefusedWrong)

/-- 'quittancetop.TopRuns': WHATEVER THE INPUT: true; the input reads as it did. -/
def topRunsSpec : ChangeSpec := { name := "topRuns", fn := fun _ => fun
  | [d1, d2] => { results := [.lit (.bool true)], args := [d1, d2] }
  | _ => none }
def topRunsRow : OpenClaim := { program := "ytmkboljfbmlebab", sum := "7fc95690f0ebba53bb9cbdf3b31cd75f7959b9f5e627472fad88667f96ac3403", func := "quittance/quittancetop.TopRuns", spec := "topRuns", unfollowed := true, recurses := true, apart := false }
def TopRunsSaid : Prop := topRunsRow.holds Try.pinned (OpenSpec.ofChange topRunsSpec)

/-- ITS FALSE NEIGHBOUR: 'it returns false'. Refute it at one input. -/
def topRunsWrong : ChangeSpec := { name := "topRuns", fn := fun _ => fun
  | [d1, d2] => { results := [.lit (.bool false)], args := [d1, d2] }
  | _ => none }
def TopRunsWrongFalsely : Prop := topRunsRow.holds Try.pinned (OpenSpec.ofChange topRunsWrong)

/-- 'quittancetop.TopMemory': WHATEVER THE INPUT: true; the input reads as it did. -/
def topMemorySpec : ChangeSpec := { name := "topMemory", fn := fun _ => fun
  | [d] => { results := [.lit (.bool true)], args := [d] }
  | _ => none }
def topMemoryRow : OpenClaim := { program := "ytmkboljfbmlebab", sum := "7fc95690f0ebba53bb9cbdf3b31cd75f7959b9f5e627472fad88667f96ac3403", func := "quittance/quittancetop.TopMemory", spec := "topMemory", unfollowed := true, recurses := true, apart := false }
def TopMemorySaid : Prop := topMemoryRow.holds Try.pinned (OpenSpec.ofChange topMemorySpec)

/-- ITS FALSE NEIGHBOUR: 'it returns false'. Refute it at one input. -/
def topMemoryWrong : ChangeSpec := { name := "topMemory", fn := fun _ => fun
  | [d] => { results := [.lit (.bool false)], args := [d] }
  | _ => none }
def TopMemoryWrongFalsely : Prop := topMemoryRow.holds Try.pinned (OpenSpec.ofChange topMemoryWrong)

/- THE SECOND FORM. 'bulk': how many values and letters a reading holds, each counted each time it is reached (what is shared counts as often as it is met; a slice's spare places count too). A statement '..UptoSaid' is the law's where the arguments, and the package variables that the reading takes, are together of bulk at most 1048576: NARROWER than '..Said'. Prove '..Said' where nothing that the law and all that it calls make is longer than what came in: it says more and counts as full. Else prove '..UptoSaid'. A law counts once. -/
mutual
def uptoBulk {H : Type} : DataW H → Nat
  | .lit (.string bytes) => bytes.length + 1
  | .lit _ => 1
  | .nil => 1
  | .ptr d => uptoBulk d + 1
  | .slice elems spare => uptoBulkAll elems + uptoBulkAll spare + 1
  | .agg parts => uptoBulkAll parts + 1
  | .iface _ d => uptoBulk d + 1
  | .map entries => uptoBulkEntries entries + 1
  | .held _ => 1
def uptoBulkAll {H : Type} : List (DataW H) → Nat
  | [] => 0
  | d :: r => uptoBulk d + uptoBulkAll r
def uptoBulkEntries {H : Type} : List (Lit × DataW H) → Nat
  | [] => 0
  | x :: r => uptoBulkEntry x + uptoBulkEntries r
def uptoBulkEntry {H : Type} : Lit × DataW H → Nat
  | (.string bytes, d) => bytes.length + uptoBulk d + 1
  | (_, d) => uptoBulk d + 1
 end
def uptoSmall : (H : Type) → List (DataW H) → Bool := fun _ ds => decide (uptoBulkAll ds ≤ 1048576)
def OpenSpec.upto (s : _root_.Go.ChangeSpec) : _root_.Go.OpenSpec := { _root_.Go.OpenSpec.ofChange s with cond := some uptoSmall }

/-- 'quittancelaw.BankNil', WHERE WHAT IT READS IS OF BULK AT MOST 1048576: true; the input reads as it did. -/
def bankNilUptoRow : OpenClaim := { program := "ytmkboljfbmlebab", sum := "7fc95690f0ebba53bb9cbdf3b31cd75f7959b9f5e627472fad88667f96ac3403", func := "quittance/quittancelaw.BankNil", spec := "bankNil", unfollowed := true, recurses := true, apart := false, narrowed := true }
def BankNilUptoSaid : Prop := bankNilUptoRow.holds Try.pinned (OpenSpec.upto bankNilSpec)

/-- 'quittancetop.TopGood', WHERE WHAT IT READS IS OF BULK AT MOST 1048576: true; the input reads as it did. -/
def topGoodUptoRow : OpenClaim := { program := "ytmkboljfbmlebab", sum := "7fc95690f0ebba53bb9cbdf3b31cd75f7959b9f5e627472fad88667f96ac3403", func := "quittance/quittancetop.TopGood", spec := "topGood", unfollowed := true, recurses := true, apart := false, narrowed := true }
def TopGoodUptoSaid : Prop := topGoodUptoRow.holds Try.pinned (OpenSpec.upto topGoodSpec)

/-- 'quittancetop.TopSums', WHERE WHAT IT READS IS OF BULK AT MOST 1048576: true; the input reads as it did. -/
def topSumsUptoRow : OpenClaim := { program := "ytmkboljfbmlebab", sum := "7fc95690f0ebba53bb9cbdf3b31cd75f7959b9f5e627472fad88667f96ac3403", func := "quittance/quittancetop.TopSums", spec := "topSums", unfollowed := true, recurses := true, apart := false, narrowed := true }
def TopSumsUptoSaid : Prop := topSumsUptoRow.holds Try.pinned (OpenSpec.upto topSumsSpec)

/-- 'quittancetop.TopOutside', WHERE WHAT IT READS IS OF BULK AT MOST 1048576: true; the input reads as it did. -/
def topOutsideUptoRow : OpenClaim := { program := "ytmkboljfbmlebab", sum := "7fc95690f0ebba53bb9cbdf3b31cd75f7959b9f5e627472fad88667f96ac3403", func := "quittance/quittancetop.TopOutside", spec := "topOutside", unfollowed := true, recurses := true, apart := false, narrowed := true }
def TopOutsideUptoSaid : Prop := topOutsideUptoRow.holds Try.pinned (OpenSpec.upto topOutsideSpec)

/-- 'quittancetop.TopBounds', WHERE WHAT IT READS IS OF BULK AT MOST 1048576: true; the input reads as it did. -/
def topBoundsUptoRow : OpenClaim := { program := "ytmkboljfbmlebab", sum := "7fc95690f0ebba53bb9cbdf3b31cd75f7959b9f5e627472fad88667f96ac3403", func := "quittance/quittancetop.TopBounds", spec := "topBounds", unfollowed := true, recurses := true, apart := false, narrowed := true }
def TopBoundsUptoSaid : Prop := topBoundsUptoRow.holds Try.pinned (OpenSpec.upto topBoundsSpec)

/-- 'quittancetop.TopStates', WHERE WHAT IT READS IS OF BULK AT MOST 1048576: true; the input reads as it did. -/
def topStatesUptoRow : OpenClaim := { program := "ytmkboljfbmlebab", sum := "7fc95690f0ebba53bb9cbdf3b31cd75f7959b9f5e627472fad88667f96ac3403", func := "quittance/quittancetop.TopStates", spec := "topStates", unfollowed := true, recurses := true, apart := false, narrowed := true }
def TopStatesUptoSaid : Prop := topStatesUptoRow.holds Try.pinned (OpenSpec.upto topStatesSpec)

/-- 'quittancetop.TopCrash', WHERE WHAT IT READS IS OF BULK AT MOST 1048576: true; the input reads as it did. -/
def topCrashUptoRow : OpenClaim := { program := "ytmkboljfbmlebab", sum := "7fc95690f0ebba53bb9cbdf3b31cd75f7959b9f5e627472fad88667f96ac3403", func := "quittance/quittancetop.TopCrash", spec := "topCrash", unfollowed := true, recurses := true, apart := false, narrowed := true }
def TopCrashUptoSaid : Prop := topCrashUptoRow.holds Try.pinned (OpenSpec.upto topCrashSpec)

/-- 'quittancetop.TopBook', WHERE WHAT IT READS IS OF BULK AT MOST 1048576: true; the input reads as it did. -/
def topBookUptoRow : OpenClaim := { program := "ytmkboljfbmlebab", sum := "7fc95690f0ebba53bb9cbdf3b31cd75f7959b9f5e627472fad88667f96ac3403", func := "quittance/quittancetop.TopBook", spec := "topBook", unfollowed := true, recurses := true, apart := false, narrowed := true }
def TopBookUptoSaid : Prop := topBookUptoRow.holds Try.pinned (OpenSpec.upto topBookSpec)

/-- 'quittancetop.TopClose', WHERE WHAT IT READS IS OF BULK AT MOST 1048576: true; the input reads as it did. -/
def topCloseUptoRow : OpenClaim := { program := "ytmkboljfbmlebab", sum := "7fc95690f0ebba53bb9cbdf3b31cd75f7959b9f5e627472fad88667f96ac3403", func := "quittance/quittancetop.TopClose", spec := "topClose", unfollowed := true, recurses := true, apart := false, narrowed := true }
def TopCloseUptoSaid : Prop := topCloseUptoRow.holds Try.pinned (OpenSpec.upto topCloseSpec)

/-- 'quittancetop.TopRefused', WHERE WHAT IT READS IS OF BULK AT MOST 1048576: true; the input reads as it did. -/
def topRefusedUptoRow : OpenClaim := { program := "ytmkboljfbmlebab", sum := "7fc95690f0ebba53bb9cbdf3b31cd75f7959b9f5e627472fad88667f96ac3403", func := "quittance/quittancetop.TopRefused", spec := "topRefused", unfollowed := true, recurses := true, apart := false, narrowed := true }
def TopRefusedUptoSaid : Prop := topRefusedUptoRow.holds Try.pinned (OpenSpec.upto topRefusedSpec)

/-- 'quittancetop.TopRuns', WHERE WHAT IT READS IS OF BULK AT MOST 1048576: true; the input reads as it did. -/
def topRunsUptoRow : OpenClaim := { program := "ytmkboljfbmlebab", sum := "7fc95690f0ebba53bb9cbdf3b31cd75f7959b9f5e627472fad88667f96ac3403", func := "quittance/quittancetop.TopRuns", spec := "topRuns", unfollowed := true, recurses := true, apart := false, narrowed := true }
def TopRunsUptoSaid : Prop := topRunsUptoRow.holds Try.pinned (OpenSpec.upto topRunsSpec)

/-- 'quittancetop.TopMemory', WHERE WHAT IT READS IS OF BULK AT MOST 1048576: true; the input reads as it did. -/
def topMemoryUptoRow : OpenClaim := { program := "ytmkboljfbmlebab", sum := "7fc95690f0ebba53bb9cbdf3b31cd75f7959b9f5e627472fad88667f96ac3403", func := "quittance/quittancetop.TopMemory", spec := "topMemory", unfollowed := true, recurses := true, apart := false, narrowed := true }
def TopMemoryUptoSaid : Prop := topMemoryUptoRow.holds Try.pinned (OpenSpec.upto topMemorySpec)

end Rows
end Go.Proofs.Ytmkboljfbmlebab
