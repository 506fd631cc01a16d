/- The library's sort at a list of the call's own: its numbers in the order of the payments that they name. No condition. -/
import Derived.Test.YtbgnmapmiobjcaaK20
import Derived.Shelf.SlSortCmp.NoneTotal
import Derived.Shelf.Lay
import Derived.Ground.SlsfProg
import Derived.Test.YtbgnmapmiobjcaaProg
namespace Go.Proofs
open Go.Shelf
shelf_lay_g SlLaysF.n6 Slsf 6 at Try 46 as Try.sortL
end Go.Proofs
namespace Go.Proofs.Ytbgnmapmiobjcaa
open Go.RowKit
set_option linter.unusedSimpArgs false
set_option linter.unusedVariables false

/-- a place of a payment -/
abbrev Pl (ps : List PayS) : Type := { i : Int // 0 ≤ i ∧ i.toNat < ps.length }
def Pl.pay {ps : List PayS} (x : Pl ps) : PayS := ps[x.1.toNat]'x.2.2
def Pl.enc {ps : List PayS} (x : Pl ps) : Value := I x.1
def Pl.cf {ps : List PayS} (x y : Pl ps) : Int := cmpP x.pay y.pay
theorem Pl.lt {ps : List PayS} (x y : Pl ps) : ltOf (Pl.cf (ps := ps)) x y = true ↔ payLt x.pay y.pay := by
  unfold ltOf Pl.cf
  rw [decide_eq_true_iff, cmpP_neg]
theorem Pl.swo (ps : List PayS) : Sort.SWO (ltOf (Pl.cf (ps := ps))) where
  irrefl x := by
    cases h : ltOf (Pl.cf (ps := ps)) x x
    · rfl
    · exact absurd ((Pl.lt x x).1 h) (payLt_irrefl _)
  trans x y z h1 h2 := (Pl.lt x z).2 (payLt_trans ((Pl.lt x y).1 h1) ((Pl.lt y z).1 h2))
  ntrans x y z h1 h2 := by
    cases h : ltOf (Pl.cf (ps := ps)) x z
    · rfl
    · exact absurd ((Pl.lt x z).1 h) (not_payLt_trans (fun e => by rw [(Pl.lt y z).2 e] at h2; cases h2) (fun e => by rw [(Pl.lt x y).2 e] at h1; cases h1))
section
variable {w0 w : World} {F : Addr → Value → Prop} {L : List (Nat × Obj)} {g e : Nat} {cur : Array Value}
theorem has_sort {α : Type} [Inhabited α] (enc : α → Value) (hw : Has w0 F ((g, .cells cur e (0, 0)) :: L) w) (m : Nat) (dk : Array α) (os : Array Obj) : Has w0 F ((g, .cells (Sort.putCells enc 0 dk cur) e (0, 0)) :: L) (sortWorld enc w g 0 m dk os) := by
  have hg : w.heap[g]? = some (.cells cur e (0, 0)) := hw.look .here
  have h1 : Has w0 F ((g, .cells (Sort.putCells enc 0 dk cur) e (0, 0)) :: L) (Sort.putRow enc (Sort.ahead w m) g 0 dk) := by
    refine hw.turn .here rfl rfl rfl (by simp [Sort.putRow, Sort.mapBlock, Sort.ahead]) ?_ (fun k hk => ?_) (Nat.le_add_right _ _)
    · show (w.heap.modify g _)[g]? = _
      rw [Array.getElem?_modify, if_pos rfl, hg]
      rfl
    · show (w.heap.modify g _)[k]? = _
      rw [Array.getElem?_modify, if_neg (Ne.symm hk)]
  exact h1.below (grow_bel _ 0 os)
end
section
variable {ops : Array Oper} {K : (Nat → Value) → World → Prop} {rest : List Oper} {f : Nat → Value} {d : Nat} {ty : TypeId} {pos : String} {af : Array Edge} {w0 : World} {F : Addr → Value → Prop} {E L : List (Nat × Obj)}
theorem s_sort {x y : Operand} {ats : Array TypeId} {cl e : Nat} {cb : List Value} {v : Value} {ws : List Int} {ps : List PayS} (hx : ev f x = v) (hy : ev f y = .func (.func cl) #[] cb.toArray) (eg : ∀ args w, (callFunc cl args).run Try.prog w = .ok (.enter cl args) w)
    (hE : ListE e 1 v ws.length (ws.map I) E) (hin : ∀ i ∈ ws, 0 ≤ i ∧ i.toNat < ps.length) (hlen : ws.length < 4611686018427387904)
    (hcmp : ∀ W, Has w0 F L W → ∀ (i j : Int) (p q : PayS), 0 ≤ i → 0 ≤ j → ps[i.toNat]? = some p → ps[j.toNat]? = some q → Gives Try.prog cl (I i :: I j :: cb) W (I (cmpP p q)))
    (kk : ∀ (E' : List (Nat × Obj)) (ws' : List Int), ListE e 1 v ws'.length (ws'.map I) E' → ws'.Perm ws → ws'.Pairwise (fun i j => ¬ lessK ps j i) → sC Try.prog ops K rest (upd f d (.tuple #[])) (Has w0 F (E' ++ L))) :
    sC Try.prog ops K (⟨some d, .call ⟨.value (.func 46), #[x, y], ats⟩, ty, pos, af, none⟩ :: rest) f (Has w0 F (E ++ L)) := by
  intro w hw
  unfold sw
  rw [if_pos wanted_free]
  unfold opk
  have hrc := run_call (P := Try.prog) (f := f) (k := 46) (xs := [x, y]) (ats := ats) (dst := some d) (ty := ty) (pos := pos) (af := af) (gd := none) (by kernel_rfl) w
  rw [hrc]
  show Calls Try.prog 46 #[ev f x, ev f y] w _
  rw [hx, hy]
  by_cases hws : ws = []
  · subst hws
    obtain ⟨a, c, rfl⟩ := hE.shape
    have hS := AnyF.slices_SortFunc_none (P := Try.prog) (ρ := Try.sortL_ren) { Try.sortL with } a c (.func (.func cl) #[] cb.toArray) w
    change Calls Try.prog 46 _ _ _ at hS
    refine hS.mono fun e' w' ⟨he, hw'⟩ => ⟨_, he, ?_⟩
    subst hw'
    exact kk E [] hE (List.Perm.refl _) List.Pairwise.nil _ hw
  · rcases hE.2 with ⟨_, h0, _⟩ | ⟨g, cap, cur, rfl, rfl, hnc, hcm, hcs, htake⟩
    · exact absurd (List.eq_nil_of_length_eq_zero h0) hws
    · obtain ⟨i0, r0, rfl⟩ : ∃ i r, ws = i :: r := by
        cases ws with
        | nil => exact absurd rfl hws
        | cons i r => exact ⟨i, r, rfl⟩
      generalize hwsd : i0 :: r0 = ws at *
      haveI : Inhabited (Pl ps) := ⟨⟨i0, hin i0 (by rw [← hwsd]; simp)⟩⟩
      have hw1 : Has w0 F ((g, .cells cur e (0, 0)) :: L) w := hw
      have hg : w.heap[g]? = some (.cells cur e (0, 0)) := hw1.look .here
      obtain ⟨D, hD⟩ : ∃ D : List (Pl ps), D.map (·.1) = ws := ⟨ws.attach.map fun i => ⟨i.1, hin i.1 i.2⟩, by simp⟩
      have hDl : D.length = ws.length := by rw [← hD]; simp
      have hcell : ∀ j, j < D.length → cur[j]? = some (I (D[j]!).1) := fun j hj => by
        have h1 : (ws.map I)[j]? = some (I (D[j]!).1) := by
          rw [← hD]
          simp [hj]
        rw [← htake, List.getElem?_take] at h1
        split at h1
        · simpa using h1
        · cases h1
      have hH : Sort.Holds (Pl.enc (ps := ps)) w g 0 D.toArray := fun j hj => by
        have hj' : j < D.length := by simpa using hj
        refine ⟨?_, ?_⟩
        · rw [Nat.zero_add, cell_of_row w g j cur e (0, 0) hg, hcell j hj']
          simp [Pl.enc, hj']
        · simp [World.frozen?, hg]
      have hc1 : CmpLays1 Try.prog cl cb.toArray (Pl.enc (ps := ps)) Pl.cf g 0 D.toArray.size w := fun m os dk hs x' y' => by
        have hW := (has_sort (Pl.enc (ps := ps)) hw1 m dk os).tail
        have h2 := (hcmp _ hW x'.1 y'.1 x'.pay y'.pay x'.2.1 y'.2.1 (List.getElem?_eq_getElem x'.2.2) (List.getElem?_eq_getElem y'.2.2)).out
        have e1 : (I x'.1 :: I y'.1 :: cb).toArray = #[Pl.enc x', Pl.enc y'] ++ cb.toArray := by simp [Pl.enc]
        rw [e1] at h2
        exact h2.mono fun e' w' ⟨he, hb⟩ => ⟨he, hb.grown⟩
      have hS := Any.slices_SortFunc Try.sortL (Pl.enc (ps := ps)) (fun _ => rfl) Pl.cf (Pl.swo ps) cl cb.toArray g 0 cap D.toArray w eg hc1 hH (Array.getElem?_eq_some_iff.1 hg).1 (by simpa [hDl] using hlen)
      change Calls Try.prog 46 _ _ _ at hS
      rw [show D.toArray.size = ws.length by simp [hDl]] at hS
      refine hS.mono fun e' w' ⟨he, d', n', os, hp, hso, hw'⟩ => ⟨_, he, ?_⟩
      subst hw'
      obtain ⟨hp1, _, hp3⟩ := hp
      have hd'l : d'.size = ws.length := by rw [hp1]; simp [hDl]
      have hx1 : d'.extract 0 ws.length = d' := by rw [← hd'l]; simp
      have hx2 : D.toArray.extract 0 ws.length = D.toArray := by rw [← hDl]; simp
      rw [hx1, hx2] at hp3
      have hperm : (d'.toList.map (·.1)).Perm ws := by rw [← hD]; exact (hp3.map _)
      refine kk [(g, .cells (Sort.putCells (Pl.enc (ps := ps)) 0 d' cur) e (0, 0))] (d'.toList.map (·.1)) ?_ hperm ?_ _ (has_sort (Pl.enc (ps := ps)) hw1 n' d' os)
      · refine ⟨by simp, .inr ⟨g, cap, _, by simp [hd'l], rfl, by simpa [hd'l] using hnc, hcm, by simp [Sort.putCells, hcs], ?_⟩⟩
        apply List.ext_getElem?
        intro j
        rw [List.getElem?_take]
        have hle : ws.length ≤ cur.size := by rw [hcs]; omega
        by_cases hj : j < ws.length
        · rw [if_pos (by simpa [hd'l] using hj)]
          have hjc : j < cur.size := by omega
          have hjd : j < d'.size := by omega
          simp [Sort.putCells, hjc, hjd, Pl.enc]
        · rw [if_neg (by simpa [hd'l] using hj)]
          symm
          simp [hd'l]; omega
      · rw [List.pairwise_map, List.pairwise_iff_getElem]
        intro i j hi hj hij hl
        have hi' : i < d'.size := by simpa using hi
        have hj' : j < d'.size := by simpa using hj
        have h3 := hso i j (Nat.zero_le _) hij (by omega)
        rw [getElem!_pos d' j hj', getElem!_pos d' i hi'] at h3
        obtain ⟨p, q, h4, h5, h6⟩ := hl
        have h7 : d'[j].pay = p := by
          have := List.getElem?_eq_getElem d'[j].2.2
          simp only [Array.getElem_toList] at h4
          rw [this] at h4; simpa [Pl.pay] using h4
        have h8 : d'[i].pay = q := by
          have := List.getElem?_eq_getElem d'[i].2.2
          simp only [Array.getElem_toList] at h5
          rw [this] at h5; simpa [Pl.pay] using h5
        rw [(Pl.lt d'[j] d'[i]).2 (by rw [h7, h8]; exact h6)] at h3
        cases h3
end
end Go.Proofs.Ytbgnmapmiobjcaa
