/- Houses that are handed back: payments in blocks of the call's own, or in memory that may be read. No condition. -/
import Derived.Test.YtbgnmapmiobjcaaK9
import Derived.Test.YtbgnmapmiobjcaaM4
namespace Go.Proofs.Ytbgnmapmiobjcaa
open Go.RowKit
set_option linter.unusedSimpArgs false
set_option linter.unusedVariables false

/-- every payment's cells stand one behind the other -/
def CellsOf (cs : Array Value) (ps : List PayS) : Prop := ∀ (j : Nat) (p : PayS), ps[j]? = some p → ∀ (k : Nat) (v : Value), p.cells[k]? = some v → cs[j * 6 + k]? = some v
def PaysE (pa : Option Addr) (pl pc : Nat) (ps : List PayS) (E : List (Nat × Obj)) : Prop :=
  ps.length = pl ∧ pl ≤ pc ∧ ((pa = none ∧ pl = 0 ∧ pc = 0 ∧ E = []) ∨ ∃ b t cs, pa = some ⟨b, 0, none⟩ ∧ E = [(b, .cells cs t (0, 0))] ∧ cs.size = pc * 6 ∧ CellsOf cs ps)
theorem PaysE.known {F : Addr → Value → Prop} {pa : Option Addr} {pl pc : Nat} {ps : List PayS} {E : List (Nat × Obj)} (h : PaysE pa pl pc ps E) (hk : Knows F E) : PaysIn F pa pl ps := by
  refine ⟨h.1, ?_⟩
  rcases h.2.2 with ⟨_, h0, _⟩ | ⟨b, t, cs, rfl, rfl, h1, h2⟩
  · exact .inl h0
  · refine .inr ⟨b, 0, rfl, fun j p hj k v hv => ?_⟩
    rw [Nat.zero_add]
    exact hk b cs t (0, 0) (by simp) _ _ (h2 j p hj k v hv)
theorem PaysE.some {pa : Option Addr} {pl pc : Nat} {ps : List PayS} {E : List (Nat × Obj)} (h : PaysE pa pl pc ps E) (h0 : 0 < pl) : ∃ b t cs, pa = some ⟨b, 0, none⟩ ∧ E = [(b, .cells cs t (0, 0))] ∧ cs.size = pc * 6 ∧ CellsOf cs ps := by
  rcases h.2.2 with ⟨_, h1, _⟩ | h
  · omega
  · exact h
theorem CellsOf.extract {cs : Array Value} {ps : List PayS} (h : CellsOf cs ps) {j : Nat} {p : PayS} (hj : ps[j]? = some p) (hs : j * 6 + 6 ≤ cs.size) : cs.extract (0 + j * 6) (0 + j * 6 + 6) = p.cells := by
  apply Array.ext
  · simp [PayS.cells]; omega
  · intro i h1 h2
    have h3 : i < 6 := by simpa [PayS.cells] using h2
    have := h j p hj i _ (Array.getElem?_eq_getElem h2)
    rw [Array.getElem_extract]
    rw [Array.getElem?_eq_some_iff] at this
    obtain ⟨_, e⟩ := this
    simp only [Nat.zero_add]
    exact e
theorem CellsOf.settled {cs : Array Value} {ps : List PayS} (h : CellsOf cs ps) {n : Nat} {p : PayS} (hn : ps[n]? = some p) : CellsOf (cs.setIfInBounds (0 + n * 6 + 4) (I 2)) (ps.set n { p with sta := 2 }) := by
  intro j q hj k v hv
  have hk : k < 6 := by
    rcases Nat.lt_or_ge k 6 with h | h
    · exact h
    · rw [Array.getElem?_eq_none (by simpa [PayS.cells] using h)] at hv; cases hv
  rw [Nat.zero_add]
  rw [List.getElem?_set] at hj
  split at hj
  · rename_i e
    subst e
    split at hj
    · simp at hj
      subst hj
      have h6 : k = 0 ∨ k = 1 ∨ k = 2 ∨ k = 3 ∨ k = 4 ∨ k = 5 := by omega
      have hz := fun k v => h n p hn k v
      rcases h6 with rfl | rfl | rfl | rfl | rfl | rfl
      case inr.inr.inr.inr.inl =>
        have := hz 4 _ rfl
        simp [PayS.cells] at hv
        subst hv
        rw [Array.getElem?_setIfInBounds_self_of_lt (Array.getElem?_eq_some_iff.1 this).1]
      all_goals
        rw [Array.getElem?_setIfInBounds_ne (by omega)]
        exact hz _ _ hv
    · cases hj
  · rename_i e
    rw [Array.getElem?_setIfInBounds_ne (by omega)]
    exact h j q hj k v hv

theorem look_fresh {w0 w : World} {F : Addr → Value → Prop} {L : List (Nat × Obj)} {b t : Nat} {fr : Nat × Nat} {cs : Array Value} (hw : Has w0 F L w) (hl : Look L b (.cells cs t fr)) : Knows (Fresh w0 w) [(b, .cells cs t fr)] := by
  intro b' cs' t' fr' hm j v hv
  simp at hm
  obtain ⟨rfl, rfl, rfl, rfl⟩ := hm
  exact ⟨(cell_has hw hl).trans hv, (hw.2.2.1 _ hl.mem).1⟩
theorem own_pays {w0 w : World} {F : Addr → Value → Prop} {L : List (Nat × Obj)} {b t pl : Nat} {fr : Nat × Nat} {cs : Array Value} {ps : List PayS} (hw : Has w0 F L w) (hl : Look L b (.cells cs t fr)) (hp : ps.length = pl) (hc : CellsOf cs ps) : PaysIn (Fresh w0 w) (some ⟨b, 0, none⟩) pl ps :=
  ⟨hp, .inr ⟨b, 0, rfl, fun j p hj k v hv => by rw [Nat.zero_add]; exact look_fresh hw hl b cs t fr (by simp) _ _ (hc j p hj k v hv)⟩⟩
/-- a house handed back: its payments are the ones that came in, or lie in memory that may be read -/
def HouseF (h0 : H) (ps0 : List PayS) (c : H) (ps : List PayS) (F : Addr → Value → Prop) (v : Value) : Prop :=
  ∃ h : H, v = .agg h.cells ∧ h.core = c ∧ h.pl ≤ h.pc ∧ ((h.pa = h0.pa ∧ h.pl = h0.pl ∧ ps = ps0) ∨ PaysIn F h.pa h.pl ps)
theorem houseF_mono (h0 : H) (ps0 : List PayS) (c : H) (ps : List PayS) : Mono (HouseF h0 ps0 c ps) := by
  rintro F F' v hm ⟨h, h1, h2, h3, h4⟩
  refine ⟨h, h1, h2, h3, ?_⟩
  rcases h4 with h4 | h4
  · exact .inl h4
  · exact .inr (h4.mono hm)
theorem more_young (w0 : World) (F : Addr → Value → Prop) : More (Young w0 F) F := fun _ _ h => h.1
theorem young_mono {w0 : World} {F F' : Addr → Value → Prop} (h : More F F') : More (Young w0 F) (Young w0 F') := fun _ _ hy => ⟨h _ _ hy.1, hy.2⟩
theorem core_pays (h : H) (pa : Option Addr) (pl pc : Nat) : ({ h with pa := pa, pl := pl, pc := pc } : H).core = h.core := rfl
theorem move_pa (h : H) (a b n : Int) : (moveM h a b n).pa = h.pa := by unfold moveM; split <;> rfl
theorem move_pc (h : H) (a b n : Int) : (moveM h a b n).pc = h.pc := by unfold moveM; split <;> rfl
theorem settles_of {ps : List PayS} {n : Int} {p : PayS} (h0 : 0 ≤ n) (hp : ps[n.toNat]? = some p) (hs : p.sta = 1) : settles ps n = some p := by simp [settles, h0, hp, hs]
theorem settles_out {ps : List PayS} {n : Int} (h : ¬ (0 ≤ n ∧ n < ps.length)) : settles ps n = none := by
  unfold settles
  split
  · rename_i h0
    have : ps[n.toNat]? = none := by simp; omega
    rw [this]
  · rfl
theorem settles_not {ps : List PayS} {n : Int} {p : PayS} (hp : ps[n.toNat]? = some p) (hs : ¬ p.sta = 1) : settles ps n = none := by
  unfold settles
  split
  · simp only [hp, if_neg hs]
  · rfl
end Go.Proofs.Ytbgnmapmiobjcaa
