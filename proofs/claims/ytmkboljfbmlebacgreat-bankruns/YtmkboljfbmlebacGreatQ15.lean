/- What the laws of this place stand on, part 15. Each part names its own conditions in what it states. -/
import Derived.Test.YtmkboljfbmlebacGreatQ14
namespace Go.Proofs.YtmkboljfbmlebacGreat
open Go.RowKit
set_option linter.unusedSimpArgs false
set_option linter.unusedVariables false
section
variable {Hh : Type} {enc : TypeId × Value → Hh} {P : Program} {w : World} {base : Nat} {spare : Nat → Bool} {held : Bool}
theorem acts_of_slice {e : TypeId} {a : Addr} {len m : Nat} (hm : len ≤ m) (hc : P.cellsOf e = 5) (hf : flatB P 4 e 5 = true) {n : Nat} {D : Nat → DataW Hh} {Pl : Nat → List MemPlace}
   (h : ∀ i, i < m → ∃ cs', w.cells? base (a.add (i * P.cellsOf e)) (P.cellsOf e) = some cs' ∧ DataW.trod enc P w base spare held n e cs' = some (D i, Pl i)) : ∃ xs : List ActS, xs.length = len ∧ ActsAt (At w) (some a) xs := by
 have h' : ∀ i, i < len → ∃ p : ActS, ∀ (k : Nat) (v : Value), p.cells[k]? = some v → w.cell? (a.add (i * 5 + k)) = some v := by
   intro i hi
   obtain ⟨cs', h1, h2⟩ := h i (by omega)
   rw [hc] at h1
   obtain ⟨hl, hI⟩ := read_flat 4 e 5 hf _ _ _ h2
   obtain ⟨_, _, hcell⟩ := World.cells?_some h1
   match cs', hl with
   | [c0, c1, c2, c3, c4], _ =>
     refine ⟨⟨intV c0, intV c1, intV c2, intV c3, intV c4⟩, fun k v hv => ?_⟩
     have e0 := intV_of (hI c0 (by simp))
     have e1 := intV_of (hI c1 (by simp))
     have e2 := intV_of (hI c2 (by simp))
     have e3 := intV_of (hI c3 (by simp))
     have e4 := intV_of (hI c4 (by simp))
     simp only [ActS.cells, e0, e1, e2, e3, e4] at hv
     have hk : k < 5 := by
       rcases Nat.lt_or_ge k 5 with h | h
       · exact h
       · rw [Array.getElem?_eq_none (by simpa using h)] at hv; cases hv
     have := hcell k hk
     rw [Deep.add_add] at this
     rw [this]
     simpa using hv
 by_cases h0 : len = 0
 · exact ⟨[], by rw [h0]; rfl, .inl rfl⟩
 have hsp : a.spot = none := by
   obtain ⟨p, hp⟩ := h' 0 (by omega)
   have := hp 0 (I p.kind) rfl
   simpa [Addr.add] using World.cell?_spot this
 obtain ⟨b, o, sp⟩ := a
 simp at hsp
 subst hsp
 have hch : ∀ i, ∃ p : ActS, i < len → ∀ (k : Nat) (v : Value), p.cells[k]? = some v → w.cell? ⟨b, o + i * 5 + k, none⟩ = some v := by
   intro i
   by_cases hi : i < len
   · obtain ⟨p, hp⟩ := h' i hi
     refine ⟨p, fun _ k v hv => ?_⟩
     have := hp k v hv
     rw [add_off] at this
     rw [Nat.add_assoc]; exact this
   · exact ⟨⟨0, 0, 0, 0, 0⟩, fun hh => absurd hh hi⟩
 refine ⟨(List.range len).map fun i => Classical.choose (hch i), by simp, .inr ⟨b, o, rfl, fun j p hj k v hv => ?_⟩⟩
 have hjl : j < len := by
   have := (List.getElem?_eq_some_iff.1 hj).1
   simpa using this
 have : p = Classical.choose (hch j) := by
   rw [List.getElem?_map, List.getElem?_range hjl] at hj
   simpa using hj.symm
 subst this
 exact Classical.choose_spec (hch j) hjl k v hv
def actsB (P : Program) (T : TypeId) : Bool := match P.underlying T with
 | some (.slice e) => Nat.beq (P.cellsOf e) 5 && flatB P 4 e 5
 | _ => false
theorem open_acts {T : TypeId} (hB : actsB P T = true) {fuel : Nat} {cs : List Value} {x : DataW Hh × List MemPlace} (hx : DataW.trod enc P w base spare held fuel T cs = some x) :
   ∃ (a : Option Addr) (c : Nat) (xs : List ActS), cs = [.slice a xs.length c] ∧ ActsAt (At w) a xs ∧ xs.length ≤ c ∧ c ≤ maxLen := by
 unfold actsB at hB
 split at hB
 · rename_i e hue
   simp only [Bool.and_eq_true] at hB
   obtain ⟨he5, hfe⟩ := hB
   have he5 := Nat.eq_of_beq_eq_true he5
   rcases Deep.open_slice hue hx with ⟨hcs, _⟩ | ⟨a, len, cap, mm, n, D, Pl, hcs, _, hlc, hcm, hmm, _, hel⟩
   · exact ⟨none, 0, [], hcs, .inl rfl, Nat.le_refl _, Nat.zero_le _⟩
   · obtain ⟨xs, hl, hxs⟩ := acts_of_slice (len := len) (by rw [hmm]; split <;> omega) he5 hfe hel
     subst hl
     exact ⟨some a, cap, xs, hcs, hxs, hlc, hcm⟩
 · cases hB
theorem open_actsW {T : TypeId} (hB : actsB P T = true) (hby0 : (match P.underlying T with | some (.slice e) => Nat.beq (P.bytesOf e) 40 | _ => false) = true) {fuel : Nat} {cs : List Value} {x : DataW Hh × List MemPlace} (hx : DataW.trod enc P w base spare held fuel T cs = some x) :
   ∃ (a : Option Addr) (c : Nat) (xs : List ActS), cs = [.slice a xs.length c] ∧ ActsAt (At w) a xs ∧ xs.length ≤ c ∧ c ≤ maxLen ∧ (xs.length = 0 ∨ ∃ m ∈ DataW.weights P T x.1, xs.length * 40 ≤ m) := by
 unfold actsB at hB
 split at hB
 · rename_i e hue
   rw [hue] at hby0
   have hby : P.bytesOf e = 40 := Nat.eq_of_beq_eq_true hby0
   simp only [Bool.and_eq_true] at hB
   obtain ⟨he5, hfe⟩ := hB
   have he5 := Nat.eq_of_beq_eq_true he5
   rcases Deep.open_slice hue hx with ⟨hcs, _⟩ | ⟨a, len, cap, mm, n, D, Pl, hcs, _, hlc, hcm, hmm, hxd, hel⟩
   · exact ⟨none, 0, [], hcs, .inl rfl, Nat.le_refl _, Nat.zero_le _, .inl rfl⟩
   · obtain ⟨xs, hl, hxs⟩ := acts_of_slice (len := len) (by rw [hmm]; split <;> omega) he5 hfe hel
     subst hl
     refine ⟨some a, cap, xs, hcs, hxs, hlc, hcm, .inr ⟨mm * 40, ?_, Nat.mul_le_mul_right _ (by rw [hmm]; split <;> omega)⟩⟩
     rw [hxd]
     simp only [DataW.weights, hue, hby, List.length_map, List.length_range]
     rw [show xs.length + (mm - xs.length) = mm by rw [hmm]; split <;> omega]
     exact List.mem_cons_self
 · cases hB
end
end Go.Proofs.YtmkboljfbmlebacGreat
