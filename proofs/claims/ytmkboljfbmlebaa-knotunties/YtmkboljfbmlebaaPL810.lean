/- What knotUnties_holds stands on, part 10: each part says what it proves. No condition beside those that it names. -/
import Derived.Test.YtmkboljfbmlebaaPL89
import Derived.Shelf.SlSortCmp.NoneTotal
import Derived.Ground.SlsfProg
import Derived.Test.YtmkboljfbmlebaaProg
/- The shelf holds for the sort of this program: its functions and types are those that the shelf was proved of. No condition. -/
namespace Go.Proofs
open Go.Shelf
def Try.sortL_ren : Go.Shelf.Ren := ⟨fun | 6 => 70 | 15 => 83 | 14 => 82 | 28 => 98 | 29 => 99 | 20 => 90 | 21 => 91 | 22 => 92 | 23 => 93 | 24 => 94 | 25 => 95 | 26 => 96 | 27 => 97 | 46 => 103 | 47 => 104 | 48 => 105 | 49 => 106 | 50 => 107 | 57 => 109 | n => n, fun | 22 => 43 | 24 => 3 | 25 => 77 | 3 => 3 | 39 => 96 | 0 => 0 | 53 => 111 | 55 => 113 | 4 => 4 | 46 => 105 | 45 => 104 | 50 => 82 | 5 => 5 | 9 => 9 | 66 => 116 | 70 => 120 | 76 => 122 | 77 => 123 | n => n, fun | n => n⟩
theorem Try.sortL : Go.Proofs.SlLaysF.n6 Try.prog Try.sortL_ren := {
  mixed := by kernel_rfl
  f6 := ⟨Try.f70.name, by decide, Try.func70.trans (congrArg some (by kernel_rfl))⟩
  f14 := ⟨Try.f82.name, by decide, Try.func82.trans (congrArg some (by kernel_rfl))⟩
  f15 := Try.func83.trans (congrArg some (by kernel_rfl))
  f20 := ⟨Try.f90.name, by decide, Try.func90.trans (congrArg some (by kernel_rfl))⟩
  f21 := ⟨Try.f91.name, by decide, Try.func91.trans (congrArg some (by kernel_rfl))⟩
  f22 := ⟨Try.f92.name, by decide, Try.func92.trans (congrArg some (by kernel_rfl))⟩
  f23 := ⟨Try.f93.name, by decide, Try.func93.trans (congrArg some (by kernel_rfl))⟩
  f24 := ⟨Try.f94.name, by decide, Try.func94.trans (congrArg some (by kernel_rfl))⟩
  f25 := ⟨Try.f95.name, by decide, Try.func95.trans (congrArg some (by kernel_rfl))⟩
  f26 := ⟨Try.f96.name, by decide, Try.func96.trans (congrArg some (by kernel_rfl))⟩
  f27 := ⟨Try.f97.name, by decide, Try.func97.trans (congrArg some (by kernel_rfl))⟩
  f28 := Try.func98.trans (congrArg some (by kernel_rfl))
  f29 := Try.func99.trans (congrArg some (by kernel_rfl))
  f46 := ⟨Try.f103.name, by decide, Try.func103.trans (congrArg some (by kernel_rfl))⟩
  f47 := Try.func104.trans (congrArg some (by kernel_rfl))
  f48 := Try.func105.trans (congrArg some (by kernel_rfl))
  f49 := ⟨Try.f106.name, by decide, Try.func106.trans (congrArg some (by kernel_rfl))⟩
  f50 := ⟨Try.f107.name, by decide, Try.func107.trans (congrArg some (by kernel_rfl))⟩
  f57 := ⟨Try.f109.name, by decide, Try.func109.trans (congrArg some (by kernel_rfl))⟩
  t0 := Try.underlying0
  a0 := Try.isAgg0
  z0 := Try.sizeOf0
  v0 := Try.zeroValue0
  t3 := Try.underlying3
  a3 := Try.isAgg3
  z3 := Try.sizeOf3
  v3 := Try.zeroValue3
  t4 := Try.underlying4
  a4 := Try.isAgg4
  z4 := Try.sizeOf4
  v4 := Try.zeroValue4
  t5 := Try.underlying5
  a5 := Try.isAgg5
  z5 := Try.sizeOf5
  v5 := Try.zeroValue5
  t9 := Try.underlying9
  a9 := Try.isAgg9
  z9 := Try.sizeOf9
  v9 := Try.zeroValue9
  t22 := Try.underlying43
  a22 := Try.isAgg43
  z22 := Try.sizeOf43
  v22 := Try.zeroValue43
  a24 := Try.isAgg3
  z24 := Try.sizeOf3
  t25 := Try.underlying77
  a25 := Try.isAgg77
  z25 := Try.sizeOf77
  v25 := Try.zeroValue77
  t39 := Try.underlying96
  a39 := Try.isAgg96
  z39 := Try.sizeOf96
  v39 := Try.zeroValue96
  t45 := Try.underlying104
  a45 := Try.isAgg104
  z45 := Try.sizeOf104
  v45 := Try.zeroValue104
  t46 := Try.underlying105
  a46 := Try.isAgg105
  z46 := Try.sizeOf105
  v46 := Try.zeroValue105
  t50 := Try.underlying82
  a50 := Try.isAgg82
  z50 := Try.sizeOf82
  v50 := Try.zeroValue82
  t53 := Try.underlying111
  a53 := Try.isAgg111
  z53 := Try.sizeOf111
  v53 := Try.zeroValue111
  t55 := Try.underlying113
  a55 := Try.isAgg113
  z55 := Try.sizeOf113
  v55 := Try.zeroValue113
  t66 := Try.underlying116
  a66 := Try.isAgg116
  z66 := Try.sizeOf116
  v66 := Try.zeroValue116
  t70 := Try.underlying120
  a70 := Try.isAgg120
  z70 := Try.sizeOf120
  v70 := Try.zeroValue120
  t76 := Try.underlying122
  a76 := Try.isAgg122
  z76 := Try.sizeOf122
  v76 := Try.zeroValue122
  t77 := Try.underlying123
  a77 := Try.isAgg123
  z77 := Try.sizeOf123
  v77 := Try.zeroValue123 }
end Go.Proofs
/- The library's sort at a list of the call's own: its numbers in the order of the payments that they name. No condition. -/
namespace Go.Proofs.Ytmkboljfbmlebaa
open Go.RowKit
set_option linter.unusedSimpArgs false
set_option linter.unusedVariables false

/-- a place of a payment -/
abbrev Pl (ps : List PayS) : Type := { i : Int // 0 ≤ i ∧ i.toNat < ps.length }
def Pl.pay {ps : List PayS} (x : Pl ps) : PayS := ps[x.1.toNat]'x.2.2
def Pl.enc {ps : List PayS} (x : Pl ps) : Value := I x.1
def Pl.cf {ps : List PayS} (x y : Pl ps) : Int := cmpP x.pay y.pay
theorem Pl.lt {ps : List PayS} (x y : Pl ps) : ltOf (Pl.cf (ps := ps)) x y = true ↔ payLt x.pay y.pay := by
  unfold ltOf Pl.cf
  rw [decide_eq_true_iff, cmpP_neg]
theorem Pl.swo (ps : List PayS) : Sort.SWO (ltOf (Pl.cf (ps := ps))) where
  irrefl x := by
    cases h : ltOf (Pl.cf (ps := ps)) x x
    · rfl
    · exact absurd ((Pl.lt x x).1 h) (payLt_irrefl _)
  trans x y z h1 h2 := (Pl.lt x z).2 (payLt_trans ((Pl.lt x y).1 h1) ((Pl.lt y z).1 h2))
  ntrans x y z h1 h2 := by
    cases h : ltOf (Pl.cf (ps := ps)) x z
    · rfl
    · exact absurd ((Pl.lt x z).1 h) (not_payLt_trans (fun e => by rw [(Pl.lt y z).2 e] at h2; cases h2) (fun e => by rw [(Pl.lt x y).2 e] at h1; cases h1))
section
variable {w0 w : World} {F : Addr → Value → Prop} {L : List (Nat × Obj)} {g e : Nat} {cur : Array Value}
theorem has_sort {α : Type} [Inhabited α] (enc : α → Value) (hw : Has w0 F ((g, .cells cur e (0, 0)) :: L) w) (m : Nat) (dk : Array α) (os : Array Obj) : Has w0 F ((g, .cells (Sort.putCells enc 0 dk cur) e (0, 0)) :: L) (sortWorld enc w g 0 m dk os) := by
  have hg : w.heap[g]? = some (.cells cur e (0, 0)) := hw.look .here
  have h1 : Has w0 F ((g, .cells (Sort.putCells enc 0 dk cur) e (0, 0)) :: L) (Sort.putRow enc (Sort.ahead w m) g 0 dk) := by
    refine hw.turn .here rfl rfl rfl (by simp [Sort.putRow, Sort.mapBlock, Sort.ahead]) ?_ (fun k hk => ?_) (Nat.le_add_right _ _)
    · show (w.heap.modify g _)[g]? = _
      rw [Array.getElem?_modify, if_pos rfl, hg]
      rfl
    · show (w.heap.modify g _)[k]? = _
      rw [Array.getElem?_modify, if_neg (Ne.symm hk)]
  exact h1.below (grow_bel _ 0 os)
end
section
variable {ops : Array Oper} {K : (Nat → Value) → World → Prop} {rest : List Oper} {f : Nat → Value} {d : Nat} {ty : TypeId} {pos : String} {af : Array Edge} {w0 : World} {F : Addr → Value → Prop} {E L : List (Nat × Obj)}
theorem s_sort {x y : Operand} {ats : Array TypeId} {cl e : Nat} {cb : List Value} {v : Value} {ws : List Int} {ps : List PayS} (hx : ev f x = v) (hy : ev f y = .func (.func cl) #[] cb.toArray) (eg : ∀ args w, (callFunc cl args).run Try.prog w = .ok (.enter cl args) w)
    (hE : ListE e 1 v ws.length (ws.map I) E) (hin : ∀ i ∈ ws, 0 ≤ i ∧ i.toNat < ps.length) (hlen : ws.length < 4611686018427387904)
    (hcmp : ∀ W, Has w0 F L W → ∀ (i j : Int) (p q : PayS), 0 ≤ i → 0 ≤ j → ps[i.toNat]? = some p → ps[j.toNat]? = some q → Gives Try.prog cl (I i :: I j :: cb) W (I (cmpP p q)))
    (kk : ∀ (E' : List (Nat × Obj)) (ws' : List Int), ListE e 1 v ws'.length (ws'.map I) E' → ws'.Perm ws → ws'.Pairwise (fun i j => ¬ lessK ps j i) → sC Try.prog ops K rest (upd f d (.tuple #[])) (Has w0 F (E' ++ L))) :
    sC Try.prog ops K (⟨some d, .call ⟨.value (.func 70), #[x, y], ats⟩, ty, pos, af, none⟩ :: rest) f (Has w0 F (E ++ L)) := by
  intro w hw
  unfold sw
  rw [if_pos wanted_free]
  unfold opk
  have hrc := run_call (P := Try.prog) (f := f) (k := 70) (xs := [x, y]) (ats := ats) (dst := some d) (ty := ty) (pos := pos) (af := af) (gd := none) (by kernel_rfl) w
  rw [hrc]
  show Calls Try.prog 70 #[ev f x, ev f y] w _
  rw [hx, hy]
  by_cases hws : ws = []
  · subst hws
    obtain ⟨a, c, rfl⟩ := hE.shape
    have hS := AnyF.slices_SortFunc_none (P := Try.prog) (ρ := Try.sortL_ren) { Try.sortL with } a c (.func (.func cl) #[] cb.toArray) w
    change Calls Try.prog 70 _ _ _ at hS
    refine hS.mono fun e' w' ⟨he, hw'⟩ => ⟨_, he, ?_⟩
    subst hw'
    exact kk E [] hE (List.Perm.refl _) List.Pairwise.nil _ hw
  · rcases hE.2 with ⟨_, h0, _⟩ | ⟨g, cap, cur, rfl, rfl, hnc, hcm, hcs, htake⟩
    · exact absurd (List.eq_nil_of_length_eq_zero h0) hws
    · obtain ⟨i0, r0, rfl⟩ : ∃ i r, ws = i :: r := by
        cases ws with
        | nil => exact absurd rfl hws
        | cons i r => exact ⟨i, r, rfl⟩
      generalize hwsd : i0 :: r0 = ws at *
      haveI : Inhabited (Pl ps) := ⟨⟨i0, hin i0 (by rw [← hwsd]; simp)⟩⟩
      have hw1 : Has w0 F ((g, .cells cur e (0, 0)) :: L) w := hw
      have hg : w.heap[g]? = some (.cells cur e (0, 0)) := hw1.look .here
      obtain ⟨D, hD⟩ : ∃ D : List (Pl ps), D.map (·.1) = ws := ⟨ws.attach.map fun i => ⟨i.1, hin i.1 i.2⟩, by simp⟩
      have hDl : D.length = ws.length := by rw [← hD]; simp
      have hcell : ∀ j, j < D.length → cur[j]? = some (I (D[j]!).1) := fun j hj => by
        have h1 : (ws.map I)[j]? = some (I (D[j]!).1) := by
          rw [← hD]
          simp [hj]
        rw [← htake, List.getElem?_take] at h1
        split at h1
        · simpa using h1
        · cases h1
      have hH : Sort.Holds (Pl.enc (ps := ps)) w g 0 D.toArray := fun j hj => by
        have hj' : j < D.length := by simpa using hj
        refine ⟨?_, ?_⟩
        · rw [Nat.zero_add, cell_of_row w g j cur e (0, 0) hg, hcell j hj']
          simp [Pl.enc, hj']
        · simp [World.frozen?, hg]
      have hc1 : CmpLays1 Try.prog cl cb.toArray (Pl.enc (ps := ps)) Pl.cf g 0 D.toArray.size w := fun m os dk hs x' y' => by
        have hW := (has_sort (Pl.enc (ps := ps)) hw1 m dk os).tail
        have h2 := (hcmp _ hW x'.1 y'.1 x'.pay y'.pay x'.2.1 y'.2.1 (List.getElem?_eq_getElem x'.2.2) (List.getElem?_eq_getElem y'.2.2)).out
        have e1 : (I x'.1 :: I y'.1 :: cb).toArray = #[Pl.enc x', Pl.enc y'] ++ cb.toArray := by simp [Pl.enc]
        rw [e1] at h2
        exact h2.mono fun e' w' ⟨he, hb⟩ => ⟨he, hb.grown⟩
      have hS := Any.slices_SortFunc Try.sortL (Pl.enc (ps := ps)) (fun _ => rfl) Pl.cf (Pl.swo ps) cl cb.toArray g 0 cap D.toArray w eg hc1 hH (Array.getElem?_eq_some_iff.1 hg).1 (by simpa [hDl] using hlen)
      change Calls Try.prog 70 _ _ _ at hS
      rw [show D.toArray.size = ws.length by simp [hDl]] at hS
      refine hS.mono fun e' w' ⟨he, d', n', os, hp, hso, hw'⟩ => ⟨_, he, ?_⟩
      subst hw'
      obtain ⟨hp1, _, hp3⟩ := hp
      have hd'l : d'.size = ws.length := by rw [hp1]; simp [hDl]
      have hx1 : d'.extract 0 ws.length = d' := by rw [← hd'l]; simp
      have hx2 : D.toArray.extract 0 ws.length = D.toArray := by rw [← hDl]; simp
      rw [hx1, hx2] at hp3
      have hperm : (d'.toList.map (·.1)).Perm ws := by rw [← hD]; exact (hp3.map _)
      refine kk [(g, .cells (Sort.putCells (Pl.enc (ps := ps)) 0 d' cur) e (0, 0))] (d'.toList.map (·.1)) ?_ hperm ?_ _ (has_sort (Pl.enc (ps := ps)) hw1 n' d' os)
      · refine ⟨by simp, .inr ⟨g, cap, _, by simp [hd'l], rfl, by simpa [hd'l] using hnc, hcm, by simp [Sort.putCells, hcs], ?_⟩⟩
        apply List.ext_getElem?
        intro j
        rw [List.getElem?_take]
        have hle : ws.length ≤ cur.size := by rw [hcs]; omega
        by_cases hj : j < ws.length
        · rw [if_pos (by simpa [hd'l] using hj)]
          have hjc : j < cur.size := by omega
          have hjd : j < d'.size := by omega
          simp [Sort.putCells, hjc, hjd, Pl.enc]
        · rw [if_neg (by simpa [hd'l] using hj)]
          symm
          simp [hd'l]; omega
      · rw [List.pairwise_map, List.pairwise_iff_getElem]
        intro i j hi hj hij hl
        have hi' : i < d'.size := by simpa using hi
        have hj' : j < d'.size := by simpa using hj
        have h3 := hso i j (Nat.zero_le _) hij (by omega)
        rw [getElem!_pos d' j hj', getElem!_pos d' i hi'] at h3
        obtain ⟨p, q, h4, h5, h6⟩ := hl
        have h7 : d'[j].pay = p := by
          have := List.getElem?_eq_getElem d'[j].2.2
          simp only [Array.getElem_toList] at h4
          rw [this] at h4; simpa [Pl.pay] using h4
        have h8 : d'[i].pay = q := by
          have := List.getElem?_eq_getElem d'[i].2.2
          simp only [Array.getElem_toList] at h5
          rw [this] at h5; simpa [Pl.pay] using h5
        rw [(Pl.lt d'[j] d'[i]).2 (by rw [h7, h8]; exact h6)] at h3
        cases h3
end
end Go.Proofs.Ytmkboljfbmlebaa
/- Contracts of the queues and of settling. Condition: the payments lie in memory that is known. -/
namespace Go.Proofs.Ytmkboljfbmlebaa
open Go.RowKit
set_option linter.unusedSimpArgs false
set_option linter.unusedVariables false
set_option maxRecDepth 100000
attribute [local irreducible] cC sC nC rC qw

theorem g_Of (h : H) (ps : List PayS) (bank : Int) (w : World) (hp : PaysIn (At w) h.pa h.pl ps) (hb : h.pl * 48 ≤ 281474976710656) (hlc : h.pl ≤ h.pc) (hsa : SeqsApart ps) (hbk : (0 ≤ bank ∧ bank < 4) ∨ GoodPs ps) : GivesE Try.prog 36 [.agg h.cells, I bank] w (fun v E => ListE 3 1 v (queueM ps bank).length ((queueM ps bank).map I) E) := by
  refine givesE_of Try.func36 rfl Try.ntmps36 (by simp) ?_
  refine r_seq (by kernel_rfl) ?_
  refine s_box (v := .agg _) rfl (fun b2 => ?_)
  refine s_val (v_assign (v := .slice _ _ _) rfl) ?_
  refine s_nil ?_
  refine c_seq ?_
  refine r_seq (by kernel_rfl) ?_
  refine s_val (v_move (v := .int .i64 _) rfl) ?_
  refine s_val (v_lss (k := .i64) rfl rfl) ?_
  refine s_val (v_move (v := .bool _) rfl) ?_
  refine s_split (s := 10) rfl (fun h10 => ?_) (fun h10 => ?_)
  · refine s_pass rfl rfl h10 ?_
    refine s_pass rfl rfl h10 ?_
    refine s_val (v_pickT (v := .bool _) rfl h10 rfl) ?_
    refine s_nil ?_
    refine c_condTh rfl rfl rfl ?_
    refine r_seq (by kernel_rfl) ?_
    refine s_val (v_assign (v := .slice _ _ _) rfl) ?_
    refine s_nil ?_
    refine c_ret ?_
    refine n_ret ?_
    have hnb : ¬ (0 ≤ bank ∧ bank < 4) := by have := of_decide_eq_true h10; omega
    refine n_doneE (E := []) (L := [_]) rfl (by decide) ?_
    show ListE _ _ (.slice none 0 0) _ _ []
    rw [wait_none hnb (hbk.resolve_left hnb)]
    exact listE_nil _ _
  refine s_want rfl rfl h10 ?_
  refine s_val (v_move (v := .int .i64 _) rfl) ?_
  refine s_want rfl rfl h10 ?_
  refine s_val (v_geq (k := .i64) rfl rfl) ?_
  refine s_val (v_pickF (v := .bool _) rfl h10 rfl) ?_
  refine s_nil ?_
  refine c_cond rfl rfl (fun h13 => ?_) (fun h13 => ?_)
  · refine r_seq (by kernel_rfl) ?_
    refine s_val (v_assign (v := .slice _ _ _) rfl) ?_
    refine s_nil ?_
    refine c_ret ?_
    refine n_ret ?_
    have hnb : ¬ (0 ≤ bank ∧ bank < 4) := by have := of_decide_eq_true h13; omega
    refine n_doneE (E := []) (L := [_]) rfl (by decide) ?_
    show ListE _ _ (.slice none 0 0) _ _ []
    rw [wait_none hnb (hbk.resolve_left hnb)]
    exact listE_nil _ _
  refine c_skip ?_
  refine n_then ?_
  refine r_seq (by kernel_rfl) ?_
  refine s_val (v_assign (v := .slice _ _ _) rfl) ?_
  refine s_nil ?_
  refine c_seq ?_
  refine r_seq (by kernel_rfl) ?_
  refine s_val (v_field (fo := 40) (by kernel_rfl) rfl) ?_
  refine s_val (v_load1 (v := .slice _ _ _) (by kernel_rfl) rfl .here (H.at_pays _)) ?_
  refine s_val (v_lenS (T := 27) (m := 6) (by kernel_rfl) rfl rfl) ?_
  refine s_val (v_move (v := .int .i64 _) rfl) ?_
  refine s_nil ?_
  refine c_block ?_
  refine c_loop (σ := Nat × Value × List (Nat × Obj)) (fun ((k, v, E) : Nat × Value × List (Nat × Obj)) f => ∃ g, (k ≤ h.pl ∧ ListE 3 1 v (waitTo ps bank k).length ((waitTo ps bank k).map I) E) ∧ f = (upd (upd (upd (upd (upd (upd g 1 (I bank)) 2 (.pointer (some ⟨b2, 0, none⟩))) 5 (v)) 15 (.slice h.pa h.pl h.pc)) 16 (I h.pl)) 17 (I k))) (fun ((k, v, E) : Nat × Value × List (Nat × Obj)) => Has w (At w) (E ++ [(b2, .cells h.cells 29)])) (fun ((k, v, E) : Nat × Value × List (Nat × Obj)) => h.pl - k) (0, .slice none 0 0, []) ⟨_, ⟨Nat.zero_le _, listE_nil _ _⟩, live6 rfl rfl rfl rfl rfl rfl⟩ (fun w hw => hw) ?_
  rintro ⟨k, v, E⟩ _ ⟨g, ⟨hkl, hE⟩, rfl⟩
  refine r_seq (by kernel_rfl) ?_
  refine s_val (v_lss (k := .i64) rfl rfl) ?_
  refine s_nil ?_
  refine c_seq ?_
  refine c_condR rfl rfl (fun h18 => ?_) (fun h18 => ?_)
  · obtain rfl : k = h.pl := by have := of_decide_eq_false h18; omega
    refine c_exit ?_
    refine n_exit ?_
    refine n_exit ?_
    refine n_bhere ?_
    refine n_then ?_
    refine r_seq (by kernel_rfl) ?_
    refine s_val (v_move (v := _) rfl) ?_
    refine s_val (v_makeFunc (vs := [.pointer (some ⟨b2, 0, none⟩)]) rfl) ?_
    refine s_sort (ps := ps) rfl rfl (enters_of Try.func71 (by kernel_rfl) rfl) hE (fun i hi => by have := ((wait_spec ps bank h.pl).2 i).1 hi; exact this.1.lt) (by have := wait_len ps bank h.pl; omega) (fun W hW i j p q hi hj hpi hpj => g_Of1 h ps b2 i j p q W (hp.at hW) ((cell_has hW .here).trans (H.at_pays h)) hi hj hpi hpj) (fun E38 ws38 hE38 hpm38 hso38 => ?_)
    have hq38 : ws38 = queueM ps bank := sorted_queue hsa (by rw [hp.1]; exact hpm38) hso38
    refine s_nil ?_
    refine r_seq (by kernel_rfl) ?_
    refine s_val (v_move (v := _) rfl) ?_
    refine s_val (v_assign (v := _) rfl) ?_
    refine s_nil ?_
    refine c_ret ?_
    refine n_doneE rfl (by decide) ?_
    show ListE _ _ v _ _ E38
    rw [← hq38]
    exact hE38
  have hk0 := of_decide_eq_true h18
  obtain ⟨p, hpm, hd, ht⟩ := hp.get (k := k) (by omega)
  obtain ⟨b, o, hpa, hc⟩ := hp.some (k := k) (by omega)
  have hst0 := wait_step (bank := bank) hpm
  have hwl := wait_len ps bank k
  refine c_skip ?_
  refine n_then ?_
  refine c_seq ?_
  refine c_block ?_
  refine r_seq (by kernel_rfl) ?_
  refine s_val (v_move (v := .int .i64 _) rfl) ?_
  refine s_val (v_idxS (size := 6) (k := .i64) (by kernel_rfl) (congrArg (fun a => Value.slice a h.pl h.pc) hpa) rfl ⟨by omega, by omega⟩) ?_
  refine s_val (v_loadNo (cs := p.cells) (m := 6) (by kernel_rfl) rfl rfl (hc k p hpm)) ?_
  refine s_alloc (z := zeroOf Try.prog 36) (by kernel_rfl) (fun b7 => ?_)
  refine s_val (v_assign (v := .int .i64 _) rfl) ?_
  refine s_storeA (m := 6) (by kernel_rfl) rfl rfl .here (by kernel_rfl) rfl (PayS.all1 _) ?_
  refine s_nil ?_
  refine r_seq (by kernel_rfl) ?_
  refine s_val (v_field (fo := 0) (by kernel_rfl) rfl) ?_
  refine s_val (v_load1 (v := .int .i64 _) (by kernel_rfl) rfl .here rfl) ?_
  refine s_val (v_move (v := .int .i64 _) rfl) ?_
  refine s_val (v_eql (k := .i64) rfl rfl) ?_
  refine s_val (v_move (v := .bool _) rfl) ?_
  refine s_splitR (s := 26) rfl (fun h26 => ?_) (fun h26 => ?_)
  · have hst : waitTo ps bank (k + 1) = waitTo ps bank k := by rw [hst0]; simp only [*, Bool.true_and, Bool.false_and, Bool.and_true, Bool.and_false, Bool.not_true, Bool.not_false, Bool.true_or, Bool.or_true, Bool.false_or, Bool.or_false, cond_true, cond_false, if_true, if_false, Bool.false_eq_true, decide_true, decide_false]
    refine s_pass rfl rfl h26 ?_
    refine s_pass rfl rfl h26 ?_
    refine s_pass rfl rfl h26 ?_
    refine s_val (v_pickF (v := .bool _) rfl h26 rfl) ?_
    refine s_nil ?_
    refine c_condFh rfl rfl rfl ?_
    refine c_skip ?_
    refine n_bnormal ?_
    refine n_then ?_
    refine r_list (by kernel_rfl) ?_
    refine s_val (v_add rfl rfl (by omega)) ?_
    refine s_val (v_move (v := .int .i64 _) rfl) ?_
    refine s_end ?_
    refine n_round (s := (k, v, E)) (k + 1, v, E) ⟨_, ⟨by omega, by rw [hst]; exact hE⟩, live6 rfl rfl rfl rfl rfl rfl⟩ (fun _ hw => hw.tail) (by dsimp only; omega)
  refine s_want rfl rfl h26 ?_
  refine s_val (v_field (fo := 4) (by kernel_rfl) rfl) ?_
  refine s_want rfl rfl h26 ?_
  refine s_val (v_load1 (v := .int .i64 _) (by kernel_rfl) rfl .here rfl) ?_
  refine s_want rfl rfl h26 ?_
  refine s_val (v_eql (k := .i64) rfl rfl) ?_
  refine s_val (v_pickT (v := .bool _) rfl h26 rfl) ?_
  refine s_nil ?_
  refine c_condR rfl rfl (fun h30 => ?_) (fun h30 => ?_)
  · have hst : waitTo ps bank (k + 1) = waitTo ps bank k := by rw [hst0]; simp only [*, Bool.true_and, Bool.false_and, Bool.and_true, Bool.and_false, Bool.not_true, Bool.not_false, Bool.true_or, Bool.or_true, Bool.false_or, Bool.or_false, cond_true, cond_false, if_true, if_false, Bool.false_eq_true, decide_true, decide_false]
    refine c_skip ?_
    refine n_bnormal ?_
    refine n_then ?_
    refine r_list (by kernel_rfl) ?_
    refine s_val (v_add rfl rfl (by omega)) ?_
    refine s_val (v_move (v := .int .i64 _) rfl) ?_
    refine s_end ?_
    refine n_round (s := (k, v, E)) (k + 1, v, E) ⟨_, ⟨by omega, by rw [hst]; exact hE⟩, live6 rfl rfl rfl rfl rfl rfl⟩ (fun _ hw => hw.tail) (by dsimp only; omega)
  refine c_weak (fun _ hw => hw.tail) ?_
  have hst : waitTo ps bank (k + 1) = waitTo ps bank k ++ [(k : Int)] := by rw [hst0]; simp only [*, Bool.true_and, Bool.false_and, Bool.and_true, Bool.and_false, Bool.not_true, Bool.not_false, Bool.true_or, Bool.or_true, Bool.false_or, Bool.or_false, cond_true, cond_false, if_true, if_false, Bool.false_eq_true, decide_true, decide_false]
  refine r_list (by kernel_rfl) ?_
  refine s_val (v_move (v := _) rfl) ?_
  refine s_val (v_move (v := .int .i64 _) rfl) ?_
  refine s_build1 (v := .int .i64 _) (e := 3) (m := 1) (by_ := 8) (by kernel_rfl) rfl rfl rfl (fill_scalar rfl) (fun b33 => ?_)
  refine s_push (e := 3) (m := 1) (by_ := 8) (by kernel_rfl) rfl rfl rfl rfl rfl hE rfl (all_scalar rfl rfl) (by omega) (fun v34 E34 hE34 => ?_)
  refine s_val (v_assign (v := _) rfl) ?_
  refine s_end ?_
  refine n_bnormal ?_
  refine n_then ?_
  refine r_list (by kernel_rfl) ?_
  refine s_val (v_add rfl rfl (by omega)) ?_
  refine s_val (v_move (v := .int .i64 _) rfl) ?_
  refine s_end ?_
  refine n_round (s := (k, v, E)) (k + 1, v34, E34) ⟨_, ⟨by omega, by rw [hst, List.map_append, List.length_append]; exact hE34⟩, live6 rfl rfl rfl rfl rfl rfl⟩ (fun _ hw => hw) (by dsimp only; omega)

theorem g_Clone (pa : Option Addr) (pl pc : Nat) (ps : List PayS) (w : World) (hp : PaysIn (At w) pa pl ps) (hb : pl * 48 ≤ 281474976710656) (h0 : 0 < pl) : GivesE Try.prog 73 [.slice pa pl pc] w (fun v E => ∃ a c, v = .slice a pl c ∧ PaysE a pl c ps E) := by
  have hnn : pa.isNone = false := by obtain ⟨b, o, e, _⟩ := hp.some (k := 0) h0; rw [e]; rfl
  refine givesE_of Try.func73 rfl Try.ntmps73 (by simp) ?_
  refine r_seq (by kernel_rfl) ?_
  refine s_val (v_assign (v := .slice _ _ _) rfl) ?_
  refine s_nil ?_
  refine c_seq ?_
  refine r_seq (by kernel_rfl) ?_
  refine s_val (v_move (v := .slice _ _ _) rfl) ?_
  refine s_val (v_eqNil (m := 6) (by kernel_rfl) rfl rfl) ?_
  refine s_nil ?_
  refine c_condFh rfl rfl hnn ?_
  refine c_skip ?_
  refine n_then ?_
  refine r_seq (by kernel_rfl) ?_
  refine s_build0 (e := 36) (m := 6) (by_ := 48) (by kernel_rfl) (fun b5 => ?_)
  refine s_val (v_move (v := .slice _ _ _) rfl) ?_
  refine s_appendCopy0 (by kernel_rfl) rfl rfl rfl hp hb h0 (fun b7 c7 cs7 hc7 hs7 hcs7 => ?_)
  refine s_val (v_assign (v := .slice _ _ _) rfl) ?_
  refine s_nil ?_
  refine c_ret ?_
  refine n_doneE (E := [_]) (L := [_]) rfl (by decide) ?_
  exact ⟨_, c7, rfl, hp.1, hc7, .inr ⟨b7, _, cs7, rfl, rfl, hs7, hcs7⟩⟩

theorem g_Settle (h : H) (ps : List PayS) (n : Int) (w : World) (hp : PaysIn (At w) h.pa h.pl ps) (hb : h.pl * 48 ≤ 281474976710656) (hlc : h.pl ≤ h.pc) : GivesF Try.prog 38 [.agg h.cells, I n] w (HouseF h ps (settleC h.core ps n) (settleP ps n)) := by
  refine givesF_of Try.func38 rfl Try.ntmps38 (by simp) ?_
  refine r_seq (by kernel_rfl) ?_
  refine s_box (v := .agg _) rfl (fun b2 => ?_)
  refine s_alloc (z := .agg zeroH.cells) (by kernel_rfl) (fun b4 => ?_)
  refine s_nil ?_
  refine c_seq ?_
  refine r_seq (by kernel_rfl) ?_
  refine s_val (v_move (v := .int .i64 _) rfl) ?_
  refine s_val (v_lss (k := .i64) rfl rfl) ?_
  refine s_val (v_move (v := .bool _) rfl) ?_
  refine s_split (s := 8) rfl (fun h8 => ?_) (fun h8 => ?_)
  · refine s_pass rfl rfl h8 ?_
    refine s_pass rfl rfl h8 ?_
    refine s_pass rfl rfl h8 ?_
    refine s_pass rfl rfl h8 ?_
    refine s_pass rfl rfl h8 ?_
    refine s_val (v_pickT (v := .bool _) rfl h8 rfl) ?_
    refine s_val (v_move (v := .bool _) rfl) ?_
    refine s_pass (g := true) rfl rfl rfl ?_
    refine s_pass (g := true) rfl rfl rfl ?_
    refine s_pass (g := true) rfl rfl rfl ?_
    refine s_pass (g := true) rfl rfl rfl ?_
    refine s_pass (g := true) rfl rfl rfl ?_
    refine s_pass (g := true) rfl rfl rfl ?_
    refine s_pass (g := true) rfl rfl rfl ?_
    refine s_val (v_pickT (v := .bool _) rfl rfl rfl) ?_
    refine s_nil ?_
    refine c_condTh rfl rfl rfl ?_
    refine r_seq (by kernel_rfl) ?_
    refine s_val (v_loadA (m := 42) (by kernel_rfl) rfl (.there .here) (H.size _)) ?_
    refine s_storeA (m := 42) (by kernel_rfl) rfl rfl .here (H.size _) (H.size _) (H.all1 _) ?_
    refine s_nil ?_
    refine c_ret ?_
    refine n_ret ?_
    refine n_doneCF (m := 42) rfl (by decide) rfl (by kernel_rfl) .here (H.size _) (fun w hw => ⟨h, rfl, ?_, hlc, .inl ⟨rfl, rfl, ?_⟩⟩)
    · have es : settles ps n = none := settles_out (by have := of_decide_eq_true h8; omega)
      simp only [settleC, es]
    · have es : settles ps n = none := settles_out (by have := of_decide_eq_true h8; omega)
      simp only [settleP, es]
  refine s_want rfl rfl h8 ?_
  refine s_val (v_move (v := .int .i64 _) rfl) ?_
  refine s_want rfl rfl h8 ?_
  refine s_val (v_field (fo := 40) (by kernel_rfl) rfl) ?_
  refine s_want rfl rfl h8 ?_
  refine s_val (v_load1 (v := .slice _ _ _) (by kernel_rfl) rfl (.there .here) (H.at_pays _)) ?_
  refine s_want rfl rfl h8 ?_
  refine s_val (v_lenS (T := 27) (m := 6) (by kernel_rfl) rfl rfl) ?_
  refine s_want rfl rfl h8 ?_
  refine s_val (v_geq (k := .i64) rfl rfl) ?_
  refine s_val (v_pickF (v := .bool _) rfl h8 rfl) ?_
  refine s_val (v_move (v := .bool _) rfl) ?_
  refine s_split (s := 15) rfl (fun h15 => ?_) (fun h15 => ?_)
  · refine s_pass rfl rfl h15 ?_
    refine s_pass rfl rfl h15 ?_
    refine s_pass rfl rfl h15 ?_
    refine s_pass rfl rfl h15 ?_
    refine s_pass rfl rfl h15 ?_
    refine s_pass rfl rfl h15 ?_
    refine s_pass rfl rfl h15 ?_
    refine s_val (v_pickT (v := .bool _) rfl h15 rfl) ?_
    refine s_nil ?_
    refine c_condTh rfl rfl rfl ?_
    refine r_seq (by kernel_rfl) ?_
    refine s_val (v_loadA (m := 42) (by kernel_rfl) rfl (.there .here) (H.size _)) ?_
    refine s_storeA (m := 42) (by kernel_rfl) rfl rfl .here (H.size _) (H.size _) (H.all1 _) ?_
    refine s_nil ?_
    refine c_ret ?_
    refine n_ret ?_
    refine n_doneCF (m := 42) rfl (by decide) rfl (by kernel_rfl) .here (H.size _) (fun w hw => ⟨h, rfl, ?_, hlc, .inl ⟨rfl, rfl, ?_⟩⟩)
    · have es : settles ps n = none := settles_out (by have := of_decide_eq_true h15; have := hp.1; omega)
      simp only [settleC, es]
    · have es : settles ps n = none := settles_out (by have := of_decide_eq_true h15; have := hp.1; omega)
      simp only [settleP, es]
  have hn0 := of_decide_eq_false h8
  have hn1 := of_decide_eq_false h15
  replace hn0 : 0 ≤ n := by omega
  obtain ⟨p, hpn, hd, ht⟩ := hp.get (k := n.toNat) (by omega)
  obtain ⟨b, o, hpa, hc⟩ := hp.some (k := n.toNat) (by omega)
  refine s_want rfl rfl h15 ?_
  refine s_val (v_field (fo := 40) (by kernel_rfl) rfl) ?_
  refine s_want rfl rfl h15 ?_
  refine s_val (v_load1 (v := .slice _ _ _) (by kernel_rfl) rfl (.there .here) (H.at_pays _)) ?_
  refine s_want rfl rfl h15 ?_
  refine s_val (v_move (v := .int .i64 _) rfl) ?_
  refine s_want rfl rfl h15 ?_
  refine s_val (v_idxS (size := 6) (k := .i64) (by kernel_rfl) (congrArg (fun a => Value.slice a h.pl h.pc) hpa) rfl ⟨by omega, by omega⟩) ?_
  refine s_want rfl rfl h15 ?_
  refine s_val (v_field (fo := 4) (by kernel_rfl) rfl) ?_
  refine s_want rfl rfl h15 ?_
  refine s_val (v_load1o (by kernel_rfl) rfl (hc _ p hpn 4 _ rfl)) ?_
  refine s_want rfl rfl h15 ?_
  refine s_val (v_neq (k := .i64) rfl rfl) ?_
  refine s_val (v_pickF (v := .bool _) rfl h15 rfl) ?_
  refine s_nil ?_
  refine c_condN rfl rfl (fun h23 => ?_) (fun h23 => ?_)
  · refine r_seq (by kernel_rfl) ?_
    refine s_val (v_loadA (m := 42) (by kernel_rfl) rfl (.there .here) (H.size _)) ?_
    refine s_storeA (m := 42) (by kernel_rfl) rfl rfl .here (H.size _) (H.size _) (H.all1 _) ?_
    refine s_nil ?_
    refine c_ret ?_
    refine n_ret ?_
    refine n_doneCF (m := 42) rfl (by decide) rfl (by kernel_rfl) .here (H.size _) (fun w hw => ⟨h, rfl, ?_, hlc, .inl ⟨rfl, rfl, ?_⟩⟩)
    · have es : settles ps n = none := settles_not hpn (of_decide_eq_false h23)
      simp only [settleC, es]
    · have es : settles ps n = none := settles_not hpn (of_decide_eq_false h23)
      simp only [settleP, es]
  refine c_skip ?_
  refine n_then ?_
  refine r_seq (by kernel_rfl) ?_
  refine s_val (v_field (fo := 40) (by kernel_rfl) rfl) ?_
  refine s_val (v_load1 (v := .slice _ _ _) (by kernel_rfl) rfl (.there .here) (H.at_pays _)) ?_
  refine s_val (v_move (v := .int .i64 _) rfl) ?_
  refine s_val (v_idxS (size := 6) (k := .i64) (by kernel_rfl) (congrArg (fun a => Value.slice a h.pl h.pc) hpa) rfl ⟨by omega, by omega⟩) ?_
  refine s_val (v_loadNo (cs := p.cells) (m := 6) (by kernel_rfl) rfl rfl (hc _ p hpn)) ?_
  refine s_alloc (z := zeroOf Try.prog 36) (by kernel_rfl) (fun b5 => ?_)
  refine s_storeA (m := 6) (by kernel_rfl) rfl rfl .here (by kernel_rfl) rfl (PayS.all1 _) ?_
  refine s_nil ?_
  refine r_seq (by kernel_rfl) ?_
  refine s_val (v_loadA (m := 42) (by kernel_rfl) rfl (.there (.there .here)) (H.size _)) ?_
  refine s_val (v_field (fo := 0) (by kernel_rfl) rfl) ?_
  refine s_val (v_load1 (v := .int .i64 _) (by kernel_rfl) rfl .here rfl) ?_
  refine s_val (v_field (fo := 1) (by kernel_rfl) rfl) ?_
  refine s_val (v_load1 (v := .int .i64 _) (by kernel_rfl) rfl .here rfl) ?_
  refine s_val (v_field (fo := 2) (by kernel_rfl) rfl) ?_
  refine s_val (v_load1 (v := .int .i64 _) (by kernel_rfl) rfl .here rfl) ?_
  refine s_call (by kernel_rfl) (fun w hw => g_Move _ _ _ _ w) ?_
  refine s_storeA (m := 42) (by kernel_rfl) rfl rfl (.there (.there .here)) (H.size _) (H.size _) (H.all1 _) ?_
  refine s_nil ?_
  refine r_seq (by kernel_rfl) ?_
  refine s_val (v_field (fo := 40) (by kernel_rfl) rfl) ?_
  refine s_val (v_load1 (v := .slice _ _ _) (by kernel_rfl) rfl (.there (.there .here)) (H.at_pays _)) ?_
  refine s_callE (by kernel_rfl) (fun w hw => g_Clone _ _ _ ps w (by rw [move_pa, move_pl]; exact hp.at hw) (by rw [move_pl]; exact hb) (by rw [move_pl]; omega)) (fun v40 E40 hR40 => ?_)
  obtain ⟨a40, c40, rfl, hpe40⟩ := hR40
  obtain ⟨b40, t40, cs40, rfl, rfl, hsz40, hcs40⟩ := hpe40.some (by rw [move_pl]; omega)
  have hle40 := hpe40.2.1
  refine s_val (v_field (fo := 40) (by kernel_rfl) rfl) ?_
  refine s_store1 (v := .slice _ _ _) (by kernel_rfl) rfl rfl (.there (.there (.there .here))) (H.set_pays _) rfl ?_
  refine s_nil ?_
  refine r_seq (by kernel_rfl) ?_
  refine s_val (v_field (fo := 40) (by kernel_rfl) rfl) ?_
  refine s_val (v_load1 (v := .slice _ _ _) (by kernel_rfl) rfl (.there (.there (.there .here))) (H.at_pays _)) ?_
  refine s_val (v_move (v := .int .i64 _) rfl) ?_
  refine s_val (v_idxS (size := 6) (k := .i64) (by kernel_rfl) rfl rfl ⟨by omega, by rw [move_pl]; omega⟩) ?_
  refine s_val (v_field (fo := 4) (by kernel_rfl) rfl) ?_
  refine s_store1 (v := .int .i64 _) (by kernel_rfl) rfl rfl .here ⟨by rw [hsz40]; rw [move_pl] at hle40; omega, rfl⟩ rfl ?_
  refine s_nil ?_
  refine r_seq (by kernel_rfl) ?_
  refine s_val (v_loadA (m := 42) (by kernel_rfl) rfl (.there (.there (.there .here))) (H.size _)) ?_
  refine s_storeA (m := 42) (by kernel_rfl) rfl rfl (.there (.there .here)) (H.size _) (H.size _) (H.all1 _) ?_
  refine s_nil ?_
  refine c_ret ?_
  refine n_doneCF (m := 42) rfl (by decide) rfl (by kernel_rfl) (.there (.there .here)) (H.size _) (fun w hw => ?_)
  have es := settles_of hn0 hpn (of_decide_eq_true h23)
  refine ⟨_, rfl, ?_, hle40, .inr ?_⟩
  · simp only [settleC, es]; exact core_move _ _ _ _
  · simp only [settleP, es]
    exact own_pays hw .here (by rw [List.length_set, hp.1, move_pl]) (hcs40.settled hpn)

end Go.Proofs.Ytmkboljfbmlebaa
/- What the law QueueRests goes through, turn by turn. No condition. -/
namespace Go.Proofs.Ytmkboljfbmlebaa
open Go.RowKit
set_option linter.unusedSimpArgs false
set_option linter.unusedVariables false

structure KF where
  k : Nat
  F : Addr → Value → Prop
theorem rest_may {c : H} {ps : List PayS} {b i : Int} {r : List Int} {p : PayS} (hn : firstM c ps b = none) (hq : queueM ps b = i :: r) (hp : ps[i.toNat]? = some p) : maySendM c b p.dst p.amt = false := by
  cases hm : maySendM c b p.dst p.amt
  · rfl
  · rw [firstM_yes hq hp hm] at hn; cases hn
theorem mayM_core (h : H) (a b n : Int) : mayM h.core a b n = mayM h a b n := rfl
theorem may_of_core {h : H} (g : GoodH h.core) (a b n : Int) : mayM h a b n = maySendM h.core a b n := (mayM_core h a b n).symm.trans (may_eq g a b n)
/-- one payment after the other, as the law does them again -/
structure RG where
  k : Nat
  F : Addr → Value → Prop
  y : H
  ps : List PayS
structure RgOk (F0 : Addr → Value → Prop) (S : QS) (pl : Nat) (t : RG) : Prop where
  more : More F0 t.F
  pays : PaysIn t.F t.y.pa t.y.pl t.ps
  lc : t.y.pl ≤ t.y.pc
  len : t.y.pl = pl
  chain : Chain t.y.core t.ps (S.xs.drop t.k)
  endC : chainC t.y.core t.ps (S.xs.drop t.k) = S.c
  endP : chainP t.ps (S.xs.drop t.k) = S.ps
  room : Room t.k t.y.core
  good : GoodPs t.ps
  le : t.k ≤ S.xs.length
  seqs : SeqsApart t.ps
theorem RgOk.step {F0 : Addr → Value → Prop} {S : QS} {pl : Nat} {t : RG} (o : RgOk F0 S pl t) (hl : S.xs.length ≤ 24) {n : Int} (hn : S.xs[t.k]? = some n) :
    ∃ p r, 0 ≤ n ∧ n < pl ∧ t.ps[n.toNat]? = some p ∧ settles t.ps n = some p ∧ queueM t.ps p.src = n :: r ∧ mayM t.y p.src p.dst p.amt = true ∧ S.xs.drop t.k = n :: S.xs.drop (t.k + 1) := by
  have hk : t.k < S.xs.length := (List.getElem?_eq_some_iff.1 hn).1
  have hd : S.xs.drop t.k = n :: S.xs.drop (t.k + 1) := by rw [List.drop_eq_getElem_cons hk]; congr 1; exact (List.getElem?_eq_some_iff.1 hn).2
  have hc := o.chain
  rw [hd] at hc
  obtain ⟨⟨b, _, hf⟩, _⟩ := hc
  obtain ⟨p, r, h1, h2, h3, h4⟩ := firstM_spec hf
  obtain ⟨s0, s1, _⟩ := settles_spec h2
  have hlt := (List.getElem?_eq_some_iff.1 s1).1
  have e1 := o.pays.1
  have e2 := o.len
  refine ⟨p, r, s0, by omega, s1, h2, by rw [h3]; exact h1, ?_, hd⟩
  rw [may_of_core (o.room.good (by have := o.le; omega)), h3]; exact h4
theorem RgOk.next {F0 F' : Addr → Value → Prop} {S : QS} {pl : Nat} {t : RG} (o : RgOk F0 S pl t) (hl : S.xs.length ≤ 24) {n : Int} {p : PayS} (hd : S.xs.drop t.k = n :: S.xs.drop (t.k + 1)) (hs : settles t.ps n = some p) (hF : More t.F F') {h' : H} (hc : h'.core = settleC t.y.core t.ps n) (hlc : h'.pl ≤ h'.pc) (hp : PaysIn F' h'.pa h'.pl (settleP t.ps n)) :
    RgOk F0 S pl ⟨t.k + 1, F', h', settleP t.ps n⟩ := by
  have c1 := o.chain
  have c2 := o.endC
  have c3 := o.endP
  rw [hd] at c1 c2 c3
  have hk : t.k < S.xs.length := by
    rcases Nat.lt_or_ge t.k S.xs.length with h | h
    · exact h
    · rw [List.drop_eq_nil_of_le h] at hd; cases hd
  refine ⟨fun a v h => hF a v (o.more a v h), hp, hlc, ?_, ?_, ?_, c3, ?_, settleP_good o.good n, by simp only; omega, o.seqs.settle n⟩
  · simp only; rw [← hp.1, settleP_len, o.pays.1, o.len]
  · simp only; rw [hc]; exact c1.2
  · simp only; rw [hc]; exact c2
  · simp only
    rw [hc]
    have e : settleC t.y.core t.ps n = moveM t.y.core p.src p.dst p.amt := by simp only [settleC, hs]
    rw [e]
    have := o.room.move (by omega) (by omega) (pay_transfer (o.good p (List.mem_of_getElem? (settles_spec hs).2.1)))
    have e2 : ((t.k + 1 : Nat) : Int) = (t.k : Int) + 1 := by omega
    rw [e2]; exact this
theorem RgOk.fin {F0 : Addr → Value → Prop} {S : QS} {pl : Nat} {t : RG} (o : RgOk F0 S pl t) (hk : ¬ (t.k : Int) < S.xs.length) : t.y.core = S.c ∧ t.ps = S.ps := by
  have c2 := o.endC
  have c3 := o.endP
  rw [List.drop_eq_nil_of_le (by omega)] at c2 c3
  exact ⟨c2, c3⟩
theorem rg_start {w : World} {F : Addr → Value → Prop} {h : H} {ps : List PayS} (hg : goodB h.core ps = true) (hr : roomyB h.core = true) (hp : PaysIn F h.pa h.pl ps) (hlc : h.pl ≤ h.pc) : RgOk F (sweepM h.core ps) h.pl ⟨0, F, h, ps⟩ := by
  obtain ⟨c1, c2, c3⟩ := sweepM_goes hg
  exact ⟨fun _ _ h => h, hp, hlc, rfl, c1, c2.symm, c3.symm, room_of (good_of hg) hr, (good_pays hg).1, Nat.zero_le _, (good_pays hg).2.1⟩
theorem core_acc {h k : H} (hc : h.core = k.core) : accL h.has h.cred = accL k.has k.cred ∧ matL h.sent = matL k.sent := by
  have e1 : h.has = k.has := show h.core.has = k.core.has by rw [hc]
  have e2 : h.cred = k.cred := show h.core.cred = k.core.cred by rw [hc]
  have e3 : h.sent = k.sent := show h.core.sent = k.core.sent by rw [hc]
  rw [e1, e2, e3]; exact ⟨rfl, rfl⟩
theorem sum_core (h : H) : sumM h.core = sumM h := rfl
end Go.Proofs.Ytmkboljfbmlebaa
/- What may be done together: of two such the more of each bank may be done too, and so there is a most. No condition. -/
namespace Go.Proofs.Ytmkboljfbmlebaa
open Go.RowKit
set_option linter.unusedSimpArgs false
set_option linter.unusedVariables false

theorem a4_true {p : Int → Bool} : a4 p = true ↔ ∀ i : Int, 0 ≤ i ∧ i < 4 → p i = true := by
  simp only [a4, Bool.and_eq_true]
  constructor
  · rintro ⟨⟨⟨h0, h1⟩, h2⟩, h3⟩ i ⟨a, b⟩
    have : i = 0 ∨ i = 1 ∨ i = 2 ∨ i = 3 := by omega
    rcases this with rfl | rfl | rfl | rfl <;> assumption
  · intro h
    exact ⟨⟨⟨h 0 (by omega), h 1 (by omega)⟩, h 2 (by omega)⟩, h 3 (by omega)⟩
/-- the first payments of a bank, so many -/
def firsts (ps : List PayS) (n : Int → Int) (b : Int) : List Int := (queueM ps b).take (n b).toNat
def inS (ps : List PayS) (n : Int → Int) (d : Int) : Int := toS ps d (firsts ps n 0) + toS ps d (firsts ps n 1) + toS ps d (firsts ps n 2) + toS ps d (firsts ps n 3)
theorem queue_goodL {ps : List PayS} (hg : GoodPs ps) (b : Int) : GoodL ps b (queueM ps b) := fun i hi => by
  obtain ⟨_, p, hp, _, hs⟩ := queueM_mine hi
  exact ⟨p, hp, by rw [← hs]; exact pay_transfer (hg p (List.mem_of_getElem? hp))⟩
theorem GoodL.take {ps : List PayS} {b : Int} {xs : List Int} (h : GoodL ps b xs) (k : Nat) : GoodL ps b (xs.take k) := fun i hi => h i (List.mem_of_mem_take hi)
theorem queueM_len (ps : List PayS) (b : Int) : (queueM ps b).length ≤ ps.length := queueTo_len ps b ps.length
theorem toS_self {ps : List PayS} {b : Int} : ∀ (xs : List Int), GoodL ps b xs → toS ps b xs = 0
  | [], _ => rfl
  | i :: r, h => by
    obtain ⟨p, hp, ht⟩ := h i (by simp)
    have hne : ¬ p.dst = b := fun e => (transfer_spec ht).2.2.1 e.symm
    simp only [toS, toOf, hp, if_neg hne]
    rw [toS_self r (fun j hj => h j (by simp [hj]))]
    rfl
structure StandsAt (h : H) (ps : List PayS) (n : Int → Int) (x : H) : Prop where
  has : ∀ i : Int, 0 ≤ i ∧ i < 4 → x.has i = h.has i - outS ps (firsts ps n i) + inS ps n i
  sent : ∀ i j : Int, 0 ≤ i ∧ i < 4 → 0 ≤ j ∧ j < 4 → x.sent i j = h.sent i j + toS ps j (firsts ps n i)
  cred : x.cred = h.cred
  lim : x.lim = h.lim
  near : Near 96 x
theorem moves_spec {h : H} {ps : List PayS} (hg : goodB h ps = true) (n : Int → Int) : StandsAt h ps n (movesTo h ps n 4) := by
  obtain ⟨g1, _, g3⟩ := good_pays hg
  have gl : ∀ b : Int, GoodL ps b (firsts ps n b) := fun b => (queue_goodL g1 b).take _
  have ll : ∀ b : Int, (firsts ps n b).length ≤ 24 := fun b => by
    have := queueM_len ps b
    unfold firsts
    rw [List.length_take]; omega
  have h0 := moveQ_spec ps 0 (firsts ps n 0) h 0 (gl 0) (good_of hg).near (by omega) (by have := ll 0; omega)
  have e1 : movesTo h ps n 1 = moveQ ps 0 h (firsts ps n 0) := rfl
  rw [← e1] at h0
  obtain ⟨a1, a2, a3, a4, a5⟩ := h0
  have h1 := moveQ_spec ps 1 (firsts ps n 1) _ _ (gl 1) a5 (by omega) (by have := ll 0; have := ll 1; omega)
  have e2 : movesTo h ps n 2 = moveQ ps 1 (movesTo h ps n 1) (firsts ps n 1) := rfl
  rw [← e2] at h1
  obtain ⟨b1, b2, b3, b4, b5⟩ := h1
  have h2 := moveQ_spec ps 2 (firsts ps n 2) _ _ (gl 2) b5 (by omega) (by have := ll 0; have := ll 1; have := ll 2; omega)
  have e3 : movesTo h ps n 3 = moveQ ps 2 (movesTo h ps n 2) (firsts ps n 2) := rfl
  rw [← e3] at h2
  obtain ⟨c1, c2, c3, c4, c5⟩ := h2
  have h3 := moveQ_spec ps 3 (firsts ps n 3) _ _ (gl 3) c5 (by omega) (by have := ll 0; have := ll 1; have := ll 2; have := ll 3; omega)
  have e4 : movesTo h ps n 4 = moveQ ps 3 (movesTo h ps n 3) (firsts ps n 3) := rfl
  rw [← e4] at h3
  obtain ⟨d1, d2, d3, d4, d5⟩ := h3
  refine ⟨fun i hi => ?_, fun i j hi hj => ?_, by rw [d3, c3, b3, a3], by rw [d4, c4, b4, a4], ⟨fun i hi => ?_, fun i j hi hj => ?_⟩⟩
  · rw [d1 i hi, c1 i hi, b1 i hi, a1 i hi]
    unfold inS
    have : i = 0 ∨ i = 1 ∨ i = 2 ∨ i = 3 := by omega
    rcases this with rfl | rfl | rfl | rfl <;> simp <;> omega
  · rw [d2 i j hi hj, c2 i j hi hj, b2 i j hi hj, a2 i j hi hj]
    have : i = 0 ∨ i = 1 ∨ i = 2 ∨ i = 3 := by omega
    rcases this with rfl | rfl | rfl | rfl <;> simp
  · have := d5.has i hi
    have := ll 0; have := ll 1; have := ll 2; have := ll 3
    omega
  · have := d5.sent i j hi hj
    have := ll 0; have := ll 1; have := ll 2; have := ll 3
    omega
theorem ok_iff {x : H} (hn : Near 96 x) (hc : ∀ i : Int, 0 ≤ i ∧ i < 4 → 0 ≤ x.cred i ∧ x.cred i ≤ 1000000) {b : Int} (hb : 0 ≤ b ∧ b < 4) :
    okBank x b = true ↔ 0 ≤ x.has b + x.cred b ∧ ∀ t : Int, 0 ≤ t ∧ t < 4 → 0 ≤ x.lim b t → x.sent b t - x.sent t b ≤ x.lim b t := by
  have h1 := hn.has b hb
  have h2 := hc b hb
  unfold okBank
  rw [Bool.and_eq_true, a4_true, wr_in (by omega) (by omega)]
  simp only [Bool.not_eq_true', decide_eq_false_iff_not, Bool.and_eq_false_iff]
  constructor
  · rintro ⟨e1, e2⟩
    refine ⟨by omega, fun t ht hl => ?_⟩
    have h3 := hn.sent b t hb ht
    have h4 := hn.sent t b ht hb
    have := e2 t ht
    rw [wr_in (by omega) (by omega)] at this
    omega
  · rintro ⟨e1, e2⟩
    refine ⟨by omega, fun t ht => ?_⟩
    have h3 := hn.sent b t hb ht
    have h4 := hn.sent t b ht hb
    rw [wr_in (by omega) (by omega)]
    have := e2 t ht
    omega
/-- what it is for so many to be possible together -/
structure Poss (h : H) (ps : List PayS) (n : Int → Int) : Prop where
  good : goodB h ps = true
  size : ∀ b : Int, 0 ≤ b ∧ b < 4 → 0 ≤ n b ∧ n b ≤ (queueM ps b).length
  left : ∀ b : Int, 0 ≤ b ∧ b < 4 → n b ≠ 0 → 0 ≤ h.has b - outS ps (firsts ps n b) + inS ps n b + h.cred b
  lim : ∀ b t : Int, 0 ≤ b ∧ b < 4 → 0 ≤ t ∧ t < 4 → n b ≠ 0 → 0 ≤ h.lim b t → h.sent b t + toS ps t (firsts ps n b) - (h.sent t b + toS ps b (firsts ps n t)) ≤ h.lim b t
theorem poss_iff {h : H} {ps : List PayS} {n : Int → Int} : togetherM h ps n = true ↔ Poss h ps n := by
  unfold togetherM
  rw [Bool.and_eq_true, Bool.and_eq_true, a4_true, a4_true]
  constructor
  · rintro ⟨⟨hg, hs⟩, ho⟩
    have st := moves_spec hg n
    have gh := good_of hg
    have key : ∀ b : Int, 0 ≤ b ∧ b < 4 → n b ≠ 0 → _ := fun b hb hn => (ok_iff st.near (fun i hi => by rw [st.cred]; exact gh.cred i hi) hb).1 (by
      have := ho b hb
      simpa [hn] using this)
    refine ⟨hg, fun b hb => within_iff.1 (hs b hb), fun b hb hn => ?_, fun b t hb ht hn hl => ?_⟩
    · have := (key b hb hn).1
      rw [st.has b hb, st.cred] at this; exact this
    · have := (key b hb hn).2 t ht
      rw [st.lim, st.sent b t hb ht, st.sent t b ht hb] at this
      exact this hl
  · rintro ⟨hg, hs, hl, hi⟩
    have st := moves_spec hg n
    have gh := good_of hg
    refine ⟨⟨hg, fun b hb => within_iff.2 (hs b hb)⟩, fun b hb => ?_⟩
    by_cases hn : n b = 0
    · simp [hn]
    · simp only [hn, decide_false, Bool.false_or]
      refine (ok_iff st.near (fun i hi => by rw [st.cred]; exact gh.cred i hi) hb).2 ⟨?_, fun t ht h0 => ?_⟩
      · rw [st.has b hb, st.cred]; exact hl b hb hn
      · rw [st.lim] at h0 ⊢
        rw [st.sent b t hb ht, st.sent t b ht hb]; exact hi b t hb ht hn h0
theorem in_mono {ps : List PayS} (hg : GoodPs ps) {n m : Int → Int} (hnm : ∀ b : Int, 0 ≤ b ∧ b < 4 → n b ≤ m b) (b d : Int) (hb : 0 ≤ b ∧ b < 4) : toS ps d (firsts ps n b) ≤ toS ps d (firsts ps m b) :=
  toS_take ps d (queueM ps b) (toOf_nonneg (queue_goodL hg b) d) _ _ (by have := hnm b hb; omega)
theorem inS_mono {ps : List PayS} (hg : GoodPs ps) {n m : Int → Int} (hnm : ∀ b : Int, 0 ≤ b ∧ b < 4 → n b ≤ m b) (d : Int) : inS ps n d ≤ inS ps m d := by
  have e0 := in_mono hg hnm 0 d (by omega)
  have e1 := in_mono hg hnm 1 d (by omega)
  have e2 := in_mono hg hnm 2 d (by omega)
  have e3 := in_mono hg hnm 3 d (by omega)
  unfold inS; omega
/-- more of the others brings no bank down -/
theorem Poss.lift {h : H} {ps : List PayS} {n m : Int → Int} (p : Poss h ps n) (hnm : ∀ b : Int, 0 ≤ b ∧ b < 4 → n b ≤ m b) {b : Int} (hb : 0 ≤ b ∧ b < 4) (he : m b = n b) (hn : n b ≠ 0) :
    0 ≤ h.has b - outS ps (firsts ps m b) + inS ps m b + h.cred b ∧ ∀ t : Int, 0 ≤ t ∧ t < 4 → 0 ≤ h.lim b t → h.sent b t + toS ps t (firsts ps m b) - (h.sent t b + toS ps b (firsts ps m t)) ≤ h.lim b t := by
  have g1 := (good_pays p.good).1
  have e : firsts ps m b = firsts ps n b := by unfold firsts; rw [he]
  rw [e]
  have e1 := p.left b hb hn
  have e2 := inS_mono g1 hnm b
  refine ⟨by omega, fun t ht hl => ?_⟩
  have e3 := p.lim b t hb ht hn hl
  have e4 := in_mono g1 hnm t b ht
  omega
def joinM (n m : Int → Int) : Int → Int := fun b => if n b < m b then m b else n b
theorem Poss.join {h : H} {ps : List PayS} {n m : Int → Int} (p : Poss h ps n) (q : Poss h ps m) : Poss h ps (joinM n m) := by
  have l1 : ∀ b : Int, 0 ≤ b ∧ b < 4 → n b ≤ joinM n m b := fun b _ => by unfold joinM; split <;> omega
  have l2 : ∀ b : Int, 0 ≤ b ∧ b < 4 → m b ≤ joinM n m b := fun b _ => by unfold joinM; split <;> omega
  have key : ∀ b : Int, 0 ≤ b ∧ b < 4 → joinM n m b ≠ 0 → _ := fun b hb hne => by
    by_cases hlt : n b < m b
    · have e : joinM n m b = m b := by simp only [joinM, if_pos hlt]
      exact q.lift l2 hb e (by rw [← e]; exact hne)
    · have e : joinM n m b = n b := by simp only [joinM, if_neg hlt]
      exact p.lift l1 hb e (by rw [← e]; exact hne)
  refine ⟨p.good, fun b hb => ?_, fun b hb hne => (key b hb hne).1, fun b t hb ht hne hl => (key b hb hne).2 t ht hl⟩
  have e1 := p.size b hb
  have e2 := q.size b hb
  unfold joinM; split <;> omega
theorem poss_zero {h : H} {ps : List PayS} (hg : goodB h ps = true) {n : Int → Int} (hn : ∀ b : Int, 0 ≤ b ∧ b < 4 → n b = 0) : Poss h ps n :=
  ⟨hg, fun b hb => by rw [hn b hb]; omega, fun b hb h => absurd (hn b hb) h, fun b t hb ht h => absurd (hn b hb) h⟩
/-- the most -/
structure IsMost (h : H) (ps : List PayS) (m : Int → Int) : Prop where
  poss : Poss h ps m
  most : ∀ n, Poss h ps n → ∀ b : Int, 0 ≤ b ∧ b < 4 → n b ≤ m b
theorem IsMost.unique {h : H} {ps : List PayS} {m m' : Int → Int} (a : IsMost h ps m) (a' : IsMost h ps m') (b : Int) (hb : 0 ≤ b ∧ b < 4) : m b = m' b := by
  have := a.most m' a'.poss b hb
  have := a'.most m a.poss b hb
  omega
/-- of one bank there is a most -/
theorem most_of_one {h : H} {ps : List PayS} (hg : goodB h ps = true) (b : Int) (hb : 0 ≤ b ∧ b < 4) : ∃ n, Poss h ps n ∧ ∀ n', Poss h ps n' → n' b ≤ n b := by
  have go : ∀ (k : Nat) (n : Int → Int), Poss h ps n → (queueM ps b).length - (n b).toNat ≤ k → ∃ n, Poss h ps n ∧ ∀ n', Poss h ps n' → n' b ≤ n b := by
    intro k
    induction k with
    | zero =>
      intro n p hk
      refine ⟨n, p, fun n' p' => ?_⟩
      have := p.size b hb
      have := p'.size b hb
      omega
    | succ k ih =>
      intro n p hk
      by_cases hex : ∃ n', Poss h ps n' ∧ n b < n' b
      · obtain ⟨n', p', hlt⟩ := hex
        have := p.size b hb
        exact ih n' p' (by omega)
      · exact ⟨n, p, fun n' p' => by
          rcases Int.lt_or_le (n b) (n' b) with h | h
          · exact absurd ⟨n', p', h⟩ hex
          · exact h⟩
  exact go _ (fun _ => 0) (poss_zero hg (fun _ _ => rfl)) (Nat.le_refl _)
theorem most_exists {h : H} {ps : List PayS} (hg : goodB h ps = true) : ∃ m, IsMost h ps m := by
  obtain ⟨n0, p0, m0⟩ := most_of_one hg 0 (by omega)
  obtain ⟨n1, p1, m1⟩ := most_of_one hg 1 (by omega)
  obtain ⟨n2, p2, m2⟩ := most_of_one hg 2 (by omega)
  obtain ⟨n3, p3, m3⟩ := most_of_one hg 3 (by omega)
  refine ⟨joinM (joinM n0 n1) (joinM n2 n3), (p0.join p1).join (p2.join p3), fun n p b hb => ?_⟩
  have : b = 0 ∨ b = 1 ∨ b = 2 ∨ b = 3 := by omega
  rcases this with rfl | rfl | rfl | rfl
  · have := m0 n p; unfold joinM; repeat' split
    all_goals omega
  · have := m1 n p; unfold joinM; repeat' split
    all_goals omega
  · have := m2 n p; unfold joinM; repeat' split
    all_goals omega
  · have := m3 n p; unfold joinM; repeat' split
    all_goals omega
noncomputable def mostM (h : H) (ps : List PayS) : Int → Int := if hg : goodB h ps = true then Classical.choose (most_exists hg) else fun _ => 0
theorem mostM_is {h : H} {ps : List PayS} (hg : goodB h ps = true) : IsMost h ps (mostM h ps) := by
  unfold mostM
  rw [dif_pos hg]
  exact Classical.choose_spec (most_exists hg)
theorem mostM_bad {h : H} {ps : List PayS} (hg : goodB h ps = false) : mostM h ps = fun _ => 0 := by
  unfold mostM
  rw [dif_neg (by rw [hg]; decide)]
theorem mostM_row {h : H} {ps : List PayS} {m : Int → Int} (a : IsMost h ps m) : rowA (mostM h ps) = rowA m := by
  have u := fun b hb => (mostM_is a.poss.good).unique a b hb
  unfold rowA
  exact sameq _ _ (fun i hi => by unfold rowC; rw [u i (by omega)])
/-- what is settled -/
noncomputable def untieXs (h : H) (ps : List PayS) : List Int := firsts ps (mostM h ps) 0 ++ firsts ps (mostM h ps) 1 ++ firsts ps (mostM h ps) 2 ++ firsts ps (mostM h ps) 3
noncomputable def untieM (h : H) (ps : List PayS) : QS := ⟨chainC h ps (untieXs h ps), chainP ps (untieXs h ps), untieXs h ps⟩
end Go.Proofs.Ytmkboljfbmlebaa
/- All sets of first payments, one after the other; what is settled together leaves each bank where it stands. No condition. -/
namespace Go.Proofs.Ytmkboljfbmlebaa
open Go.RowKit
set_option linter.unusedSimpArgs false
set_option linter.unusedVariables false

theorem firsts_congr {ps : List PayS} {n m : Int → Int} {b : Int} (h : n b = m b) : firsts ps n b = firsts ps m b := by unfold firsts; rw [h]
theorem inS_congr {ps : List PayS} {n m : Int → Int} (h : ∀ b : Int, 0 ≤ b ∧ b < 4 → n b = m b) (d : Int) : inS ps n d = inS ps m d := by
  unfold inS
  rw [firsts_congr (h 0 (by omega)), firsts_congr (h 1 (by omega)), firsts_congr (h 2 (by omega)), firsts_congr (h 3 (by omega))]
theorem Poss.congr {h : H} {ps : List PayS} {n m : Int → Int} (p : Poss h ps n) (e : ∀ b : Int, 0 ≤ b ∧ b < 4 → n b = m b) : Poss h ps m :=
  ⟨p.good, fun b hb => by rw [← e b hb]; exact p.size b hb, fun b hb hn => by
    rw [← firsts_congr (e b hb), ← inS_congr e]; exact p.left b hb (by rw [e b hb]; exact hn), fun b t hb ht hn hl => by
    rw [← firsts_congr (e b hb), ← firsts_congr (e t ht)]; exact p.lim b t hb ht (by rw [e b hb]; exact hn) hl⟩
theorem Poss.core {h : H} {ps : List PayS} {n : Int → Int} : Poss h.core ps n ↔ Poss h ps n := ⟨fun p => ⟨p.good, p.size, p.left, p.lim⟩, fun p => ⟨p.good, p.size, p.left, p.lim⟩⟩
theorem together_core (h : H) (ps : List PayS) (n : Int → Int) : togetherM h.core ps n = togetherM h ps n := by
  rw [Bool.eq_iff_iff, poss_iff, poss_iff]; exact Poss.core
theorem together_congr {h : H} {ps : List PayS} {n m : Int → Int} (e : ∀ b : Int, 0 ≤ b ∧ b < 4 → n b = m b) : togetherM h ps n = togetherM h ps m := by
  rw [Bool.eq_iff_iff, poss_iff, poss_iff]
  exact ⟨fun p => p.congr e, fun p => p.congr fun b hb => (e b hb).symm⟩
/-- comes before, the last bank counting most -/
def Bef (n' n : Int → Int) : Prop := n' 3 < n 3 ∨ (n' 3 = n 3 ∧ (n' 2 < n 2 ∨ (n' 2 = n 2 ∧ (n' 1 < n 1 ∨ (n' 1 = n 1 ∧ n' 0 < n 0)))))
def Same4 (n' n : Int → Int) : Prop := n' 0 = n 0 ∧ n' 1 = n 1 ∧ n' 2 = n 2 ∧ n' 3 = n 3
theorem Same4.all {n' n : Int → Int} (h : Same4 n' n) : ∀ b : Int, 0 ≤ b ∧ b < 4 → n' b = n b := by
  obtain ⟨h0, h1, h2, h3⟩ := h
  intro b hb
  have : b = 0 ∨ b = 1 ∨ b = 2 ∨ b = 3 := by omega
  rcases this with rfl | rfl | rfl | rfl <;> assumption
def qLen (ps : List PayS) (b : Int) : Int := (queueM ps b).length
structure Odo (h : H) (ps : List PayS) (n best : Int → Int) : Prop where
  size : ∀ b : Int, 0 ≤ b ∧ b < 4 → 0 ≤ n b ∧ n b ≤ qLen ps b
  poss : Poss h ps best
  seen : ∀ n', Poss h ps n' → Bef n' n → ∀ b : Int, 0 ≤ b ∧ b < 4 → n' b ≤ best b
theorem odo_start {h : H} {ps : List PayS} (hg : goodB h ps = true) {n best : Int → Int} (hn : ∀ b : Int, 0 ≤ b ∧ b < 4 → n b = 0) (hb : ∀ b : Int, 0 ≤ b ∧ b < 4 → best b = 0) : Odo h ps n best := by
  refine ⟨fun b hb => ?_, poss_zero hg hb, fun n' p hbef => ?_⟩
  · rw [hn b hb]; unfold qLen; omega
  · exfalso
    have e0 := p.size 0 (by omega)
    have e1 := p.size 1 (by omega)
    have e2 := p.size 2 (by omega)
    have e3 := p.size 3 (by omega)
    unfold Bef at hbef
    rw [hn 0 (by omega), hn 1 (by omega), hn 2 (by omega), hn 3 (by omega)] at hbef
    omega
/-- behind a look at one more of them -/
structure Seen (h : H) (ps : List PayS) (n best : Int → Int) : Prop where
  poss : Poss h ps best
  seen : ∀ n', Poss h ps n' → Bef n' n ∨ Same4 n' n → ∀ b : Int, 0 ≤ b ∧ b < 4 → n' b ≤ best b
theorem Odo.no {h : H} {ps : List PayS} {n best : Int → Int} (o : Odo h ps n best) (ht : togetherM h ps n = false) : Seen h ps n best :=
  ⟨o.poss, fun n' p hb => hb.elim (o.seen n' p) fun e => by
    have := (poss_iff).2 (p.congr e.all)
    rw [ht] at this; cases this⟩
theorem Odo.less {h : H} {ps : List PayS} {n best : Int → Int} (o : Odo h ps n best) (hl : ∀ b : Int, 0 ≤ b ∧ b < 4 → n b ≤ best b) : Seen h ps n best :=
  ⟨o.poss, fun n' p hb => hb.elim (o.seen n' p) fun e b hb => by rw [e.all b hb]; exact hl b hb⟩
theorem Odo.yes {h : H} {ps : List PayS} {n best best' : Int → Int} (o : Odo h ps n best) (ht : togetherM h ps n = true) (hb : ∀ b : Int, 0 ≤ b ∧ b < 4 → best' b = joinM best n b) : Seen h ps n best' := by
  have pn := poss_iff.1 ht
  refine ⟨(o.poss.join pn).congr fun b h => (hb b h).symm, fun n' p hbs b h => ?_⟩
  rw [hb b h]
  rcases hbs with hbs | e
  · have := o.seen n' p hbs b h
    unfold joinM; split <;> omega
  · rw [e.all b h]
    unfold joinM; split <;> omega
/-- the next of them: k banks were at their end -/
theorem Seen.next {h : H} {ps : List PayS} {n best n2 : Int → Int} (o : Seen h ps n best) (hs : ∀ b : Int, 0 ≤ b ∧ b < 4 → 0 ≤ n b ∧ n b ≤ qLen ps b) (k : Int) (hk : 0 ≤ k ∧ k < 4) (hlo : ∀ b : Int, 0 ≤ b → b < k → n b = qLen ps b ∧ n2 b = 0) (hat : n k ≠ qLen ps k ∧ n2 k = n k + 1) (hhi : ∀ b : Int, k < b → b < 4 → n2 b = n b) :
    Odo h ps n2 best ∧ n 0 + 25 * n 1 + 625 * n 2 + 15625 * n 3 < n2 0 + 25 * n2 1 + 625 * n2 2 + 15625 * n2 3 := by
  have hg := (good_pays o.poss.good).2.2
  have l24 : ∀ b, qLen ps b ≤ 24 := fun b => by have := queueM_len ps b; unfold qLen; omega
  have s0 := hs 0 (by omega)
  have s1 := hs 1 (by omega)
  have s2 := hs 2 (by omega)
  have s3 := hs 3 (by omega)
  have t0 := l24 0
  have t1 := l24 1
  have t2 := l24 2
  have t3 := l24 3
  have hk4 : k = 0 ∨ k = 1 ∨ k = 2 ∨ k = 3 := by omega
  rcases hk4 with rfl | rfl | rfl | rfl
  · have a0 := hat
    have b1 := hhi 1 (by omega) (by omega)
    have b2 := hhi 2 (by omega) (by omega)
    have b3 := hhi 3 (by omega) (by omega)
    refine ⟨⟨fun b hb => ?_, o.poss, fun n' p hbe => o.seen n' p ?_⟩, by omega⟩
    · have : b = 0 ∨ b = 1 ∨ b = 2 ∨ b = 3 := by omega
      rcases this with rfl | rfl | rfl | rfl <;> omega
    · have p0 := p.size 0 (by omega)
      have p1 := p.size 1 (by omega)
      have p2 := p.size 2 (by omega)
      have p3 := p.size 3 (by omega)
      unfold qLen at *
      unfold Bef Same4 at *
      omega
  · have a0 := hlo 0 (by omega) (by omega)
    have b1 := hat
    have b2 := hhi 2 (by omega) (by omega)
    have b3 := hhi 3 (by omega) (by omega)
    refine ⟨⟨fun b hb => ?_, o.poss, fun n' p hbe => o.seen n' p ?_⟩, by omega⟩
    · have : b = 0 ∨ b = 1 ∨ b = 2 ∨ b = 3 := by omega
      rcases this with rfl | rfl | rfl | rfl <;> omega
    · have p0 := p.size 0 (by omega)
      have p1 := p.size 1 (by omega)
      have p2 := p.size 2 (by omega)
      have p3 := p.size 3 (by omega)
      unfold qLen at *
      unfold Bef Same4 at *
      omega
  · have a0 := hlo 0 (by omega) (by omega)
    have b1 := hlo 1 (by omega) (by omega)
    have b2 := hat
    have b3 := hhi 3 (by omega) (by omega)
    refine ⟨⟨fun b hb => ?_, o.poss, fun n' p hbe => o.seen n' p ?_⟩, by omega⟩
    · have : b = 0 ∨ b = 1 ∨ b = 2 ∨ b = 3 := by omega
      rcases this with rfl | rfl | rfl | rfl <;> omega
    · have p0 := p.size 0 (by omega)
      have p1 := p.size 1 (by omega)
      have p2 := p.size 2 (by omega)
      have p3 := p.size 3 (by omega)
      unfold qLen at *
      unfold Bef Same4 at *
      omega
  · have a0 := hlo 0 (by omega) (by omega)
    have b1 := hlo 1 (by omega) (by omega)
    have b2 := hlo 2 (by omega) (by omega)
    have b3 := hat
    refine ⟨⟨fun b hb => ?_, o.poss, fun n' p hbe => o.seen n' p ?_⟩, by omega⟩
    · have : b = 0 ∨ b = 1 ∨ b = 2 ∨ b = 3 := by omega
      rcases this with rfl | rfl | rfl | rfl <;> omega
    · have p0 := p.size 0 (by omega)
      have p1 := p.size 1 (by omega)
      have p2 := p.size 2 (by omega)
      have p3 := p.size 3 (by omega)
      unfold qLen at *
      unfold Bef Same4 at *
      omega
/-- all were looked at -/
theorem Seen.most {h : H} {ps : List PayS} {n best : Int → Int} (o : Seen h ps n best) (he : ∀ b : Int, 0 ≤ b ∧ b < 4 → n b = qLen ps b) : IsMost h ps best := by
  refine ⟨o.poss, fun n' p => o.seen n' p ?_⟩
  have p0 := p.size 0 (by omega)
  have p1 := p.size 1 (by omega)
  have p2 := p.size 2 (by omega)
  have p3 := p.size 3 (by omega)
  have e0 := he 0 (by omega)
  have e1 := he 1 (by omega)
  have e2 := he 2 (by omega)
  have e3 := he 3 (by omega)
  unfold qLen at *
  unfold Bef Same4
  omega

/-! settled one by one, or moved all at once -/
theorem settlesOf {ps : List PayS} {n : Int} {p : PayS} (h0 : 0 ≤ n) (hp : ps[n.toNat]? = some p) (hs : p.sta = 1) : settles ps n = some p := by simp [settles, h0, hp, hs]
def moveL (ps : List PayS) (c : H) : List Int → H
  | [] => c
  | i :: r => moveL ps (match ps[i.toNat]? with | some p => moveM c p.src p.dst p.amt | none => c) r
theorem moveL_settle (ps : List PayS) (k : Int) : ∀ (xs : List Int) (c : H), moveL (settleP ps k) c xs = moveL ps c xs
  | [], _ => rfl
  | i :: r, c => by
    have e : (match (settleP ps k)[i.toNat]? with | some p => moveM c p.src p.dst p.amt | none => c) = (match ps[i.toNat]? with | some p => moveM c p.src p.dst p.amt | none => c) := by
      cases hs : settles ps k with
      | none => simp only [settleP, hs]
      | some p =>
        rw [settleP_at hs]
        by_cases hi : i.toNat = k.toNat
        · rw [if_pos hi, hi, (settles_spec hs).2.1]
        · rw [if_neg hi]
    simp only [moveL]
    rw [e, moveL_settle ps k r]
theorem chain_moves : ∀ (xs : List Int) (c : H) (ps : List PayS), xs.Nodup → (∀ i ∈ xs, ∃ p, settles ps i = some p) → chainC c ps xs = moveL ps c xs
  | [], _, _, _, _ => rfl
  | i :: r, c, ps, hn, hq => by
    obtain ⟨h1, h2⟩ := List.nodup_cons.1 hn
    obtain ⟨p, hp⟩ := hq i (by simp)
    obtain ⟨i0, hpi, _⟩ := settles_spec hp
    simp only [chainC, moveL, hpi]
    rw [chain_moves r _ _ h2 (fun j hj => ?_), moveL_settle]
    · simp only [settleC, hp]
    · obtain ⟨q, hq'⟩ := hq j (by simp [hj])
      obtain ⟨j0, hqj, hs⟩ := settles_spec hq'
      have hne : j.toNat ≠ i.toNat := fun e => h1 (by have : j = i := by omega
                                                      rw [← this]; exact hj)
      exact ⟨q, settlesOf j0 (by rw [settleP_at hp, if_neg hne]; exact hqj) hs⟩
theorem moveL_append (ps : List PayS) : ∀ (xs ys : List Int) (c : H), moveL ps c (xs ++ ys) = moveL ps (moveL ps c xs) ys
  | [], _, _ => rfl
  | i :: r, ys, c => by simp only [List.cons_append, moveL]; rw [moveL_append ps r]
theorem moveL_queue {ps : List PayS} {b : Int} : ∀ (xs : List Int) (c : H), (∀ i ∈ xs, Mine ps b i) → moveL ps c xs = moveQ ps b c xs
  | [], _, _ => rfl
  | i :: r, c, h => by
    obtain ⟨_, p, hp, _, hs⟩ := h i (by simp)
    simp only [moveL, moveQ, hp]
    rw [moveL_queue r _ (fun j hj => h j (by simp [hj])), hs]
theorem firsts_mine {ps : List PayS} {n : Int → Int} {b i : Int} (h : i ∈ firsts ps n b) : Mine ps b i := queueM_mine (List.mem_of_mem_take h)
theorem Mine.same {ps : List PayS} {a b i : Int} (h : Mine ps a i) (h' : Mine ps b i) : a = b := by
  obtain ⟨_, p, hp, _, h1⟩ := h
  obtain ⟨_, q, hq, _, h2⟩ := h'
  rw [hp] at hq; simp at hq; subst hq
  omega
def allFirsts (ps : List PayS) (n : Int → Int) : List Int := firsts ps n 0 ++ firsts ps n 1 ++ firsts ps n 2 ++ firsts ps n 3
theorem firsts_nodup (ps : List PayS) (n : Int → Int) (b : Int) : (firsts ps n b).Nodup := (List.take_sublist _ _).nodup (queueM_nodup ps b)
theorem allFirsts_nodup (ps : List PayS) (n : Int → Int) : (allFirsts ps n).Nodup := by
  unfold allFirsts
  have ne : ∀ {a b i j : Int}, a ≠ b → i ∈ firsts ps n a → j ∈ firsts ps n b → i ≠ j := fun hab hi hj e => hab (by
    subst e; exact (firsts_mine hi).same (firsts_mine hj))
  simp only [List.nodup_append, List.mem_append]
  refine ⟨⟨⟨firsts_nodup _ _ _, firsts_nodup _ _ _, fun a ha b hb => ne (by omega) ha hb⟩, firsts_nodup _ _ _, ?_⟩, firsts_nodup _ _ _, ?_⟩
  · rintro a (ha | ha) b hb
    · exact ne (by omega) ha hb
    · exact ne (by omega) ha hb
  · rintro a ((ha | ha) | ha) b hb
    · exact ne (by omega) ha hb
    · exact ne (by omega) ha hb
    · exact ne (by omega) ha hb
theorem allFirsts_settles {ps : List PayS} {n : Int → Int} {i : Int} (h : i ∈ allFirsts ps n) : ∃ p, settles ps i = some p := by
  unfold allFirsts at h
  simp only [List.mem_append] at h
  have : ∃ b, i ∈ firsts ps n b := by
    rcases h with ((h | h) | h) | h
    · exact ⟨_, h⟩
    · exact ⟨_, h⟩
    · exact ⟨_, h⟩
    · exact ⟨_, h⟩
  obtain ⟨b, hb⟩ := this
  obtain ⟨p, hp, _⟩ := (firsts_mine hb).settles
  exact ⟨p, hp⟩
theorem untie_moves (h : H) (ps : List PayS) (n : Int → Int) : chainC h ps (allFirsts ps n) = movesTo h ps n 4 := by
  rw [chain_moves _ _ _ (allFirsts_nodup ps n) (fun i hi => allFirsts_settles hi)]
  unfold allFirsts
  rw [moveL_append, moveL_append, moveL_append, moveL_queue _ _ (fun i hi => firsts_mine hi), moveL_queue _ _ (fun i hi => firsts_mine hi), moveL_queue _ _ (fun i hi => firsts_mine hi), moveL_queue _ _ (fun i hi => firsts_mine hi)]
  rfl
theorem outS_toS {ps : List PayS} {b : Int} : ∀ (xs : List Int), GoodL ps b xs → outS ps xs = toS ps 0 xs + toS ps 1 xs + toS ps 2 xs + toS ps 3 xs
  | [], _ => rfl
  | i :: r, h => by
    obtain ⟨p, hp, ht⟩ := h i (by simp)
    have hb := (transfer_spec ht).2.1
    simp only [outS, toS, toOf, amtOf, hp]
    rw [outS_toS r (fun j hj => h j (by simp [hj]))]
    have : p.dst = 0 ∨ p.dst = 1 ∨ p.dst = 2 ∨ p.dst = 3 := by omega
    rcases this with e | e | e | e <;> simp only [e] <;> simp <;> omega
theorem stands_sum {h x : H} {ps : List PayS} {n : Int → Int} (hg : GoodPs ps) (gh : GoodH h) (s : StandsAt h ps n x) : sumM x = sumM h := by
  have a0 := s.has 0 (by omega)
  have a1 := s.has 1 (by omega)
  have a2 := s.has 2 (by omega)
  have a3 := s.has 3 (by omega)
  have b0 := outS_toS _ ((queue_goodL hg 0).take (n 0).toNat)
  have b1 := outS_toS _ ((queue_goodL hg 1).take (n 1).toNat)
  have b2 := outS_toS _ ((queue_goodL hg 2).take (n 2).toNat)
  have b3 := outS_toS _ ((queue_goodL hg 3).take (n 3).toNat)
  have c0 := s.near.has 0 (by omega)
  have c1 := s.near.has 1 (by omega)
  have c2 := s.near.has 2 (by omega)
  have c3 := s.near.has 3 (by omega)
  have d0 := gh.has 0 (by omega)
  have d1 := gh.has 1 (by omega)
  have d2 := gh.has 2 (by omega)
  have d3 := gh.has 3 (by omega)
  have e1 : sumM x = x.has 0 + x.has 1 + x.has 2 + x.has 3 := by
    unfold sumM
    rw [wr_in (a := 0 + x.has 0) (by omega) (by omega), wr_in (a := 0 + x.has 0 + x.has 1) (by omega) (by omega), wr_in (a := 0 + x.has 0 + x.has 1 + x.has 2) (by omega) (by omega), wr_in (by omega) (by omega)]
    omega
  have e2 : sumM h = h.has 0 + h.has 1 + h.has 2 + h.has 3 := by
    unfold sumM
    rw [wr_in (a := 0 + h.has 0) (by omega) (by omega), wr_in (a := 0 + h.has 0 + h.has 1) (by omega) (by omega), wr_in (a := 0 + h.has 0 + h.has 1 + h.has 2) (by omega) (by omega), wr_in (by omega) (by omega)]
    omega
  rw [e1, e2, a0, a1, a2, a3]
  unfold inS firsts at *
  omega
end Go.Proofs.Ytmkboljfbmlebaa
/- Rows of four numbers that are written, the greater of two, and what the document's side of the knot goes through. No condition. -/
namespace Go.Proofs.Ytmkboljfbmlebaa
open Go.RowKit
set_option linter.unusedSimpArgs false
set_option linter.unusedVariables false

theorem rowA_set (r : Int → Int) {i : Int} {v : Int} (hi : 0 ≤ i ∧ i < 4) : 0 + i.toNat * 1 < (rowA r).size ∧ (rowA r).setIfInBounds (0 + i.toNat * 1) (I v) = rowA (up1 r i v) := by
  refine ⟨by rw [rowA_size]; omega, ?_⟩
  unfold rowA
  exact setq _ _ (fun j hj => by
    unfold rowC up1
    by_cases e : (j : Int) = i
    · rw [if_pos e, if_pos (by omega)]
    · rw [if_neg e, if_neg (by omega)])
theorem rowA_congr {r s : Int → Int} (h : ∀ b : Int, 0 ≤ b ∧ b < 4 → r b = s b) : rowA r = rowA s := by
  unfold rowA
  exact sameq _ _ (fun i hi => by unfold rowC; rw [h i (by omega)])
def maxI (a b : Int) : Int := if a < b then b else a
section
variable {P : Program} {f : Nat → Value} {C : World → Prop} {dst : Option Nat} {ty : TypeId} {pos : String} {af : Array Edge} {gd : Option (Nat × Bool)}
theorem v_max {x y : Operand} {ats : Array TypeId} {a b : Int} (hx : ev f x = I a) (hy : ev f y = I b) : Val P f C ⟨dst, .call ⟨.builtin .max, #[x, y], ats⟩, ty, pos, af, gd⟩ (I (maxI a b)) :=
  ⟨fun w _ => by simp [execOp, resolve, invoke, builtin, hx, hy, Builtin.max_, Builtin.max2, maxI]⟩
end
/-! together -/
theorem moveQ_take {ps : List PayS} {b : Int} {x : H} {j : Nat} {i : Int} {p : PayS} (hi : (queueM ps b)[j]? = some i) (hp : ps[i.toNat]? = some p) : moveQ ps b x ((queueM ps b).take (j + 1)) = moveM (moveQ ps b x ((queueM ps b).take j)) b p.dst p.amt := by
  rw [List.take_add_one, hi]
  show moveQ ps b x (_ ++ [i]) = _
  rw [moveQ_snoc, hp]
theorem tog_house {h : H} {ps : List PayS} {n : Int → Int} (hg : goodB h ps = false) : togetherM h ps n = false := by simp [togetherM, hg]
theorem tog_size {h : H} {ps : List PayS} {n : Int → Int} {b : Int} (hb : 0 ≤ b ∧ b < 4) (hs : withinB (n b) 0 (queueM ps b).length = false) : togetherM h ps n = false := by
  cases ht : togetherM h ps n
  · rfl
  · have := (poss_iff.1 ht).size b hb
    rw [within_iff.2 this] at hs; cases hs
theorem tog_ok {h : H} {ps : List PayS} {n : Int → Int} {b : Int} (hb : 0 ≤ b ∧ b < 4) (hn : ¬ n b = 0) (ho : okBank (movesTo h ps n 4) b = false) : togetherM h ps n = false := by
  cases ht : togetherM h ps n
  · rfl
  · unfold togetherM at ht
    simp only [Bool.and_eq_true, a4_true] at ht
    have := ht.2 b hb
    simp [hn, ho] at this
theorem ok_left {x : H} {b : Int} (h : wr (x.has b + x.cred b) < 0) : okBank x b = false := by simp [okBank, h]
theorem ok_lim {x : H} {b t : Int} (ht : 0 ≤ t ∧ t < 4) (h0 : 0 ≤ x.lim b t) (h : x.lim b t < wr (x.sent b t - x.sent t b)) : okBank x b = false := by
  cases ho : okBank x b
  · rfl
  · unfold okBank at ho
    simp only [Bool.and_eq_true, a4_true] at ho
    have := ho.2 t ht
    simp [h0, h] at this
theorem ok_all {x : H} {b : Int} (hl : ¬ wr (x.has b + x.cred b) < 0) (h : ∀ t : Int, 0 ≤ t ∧ t < 4 → ¬ (0 ≤ x.lim b t ∧ x.lim b t < wr (x.sent b t - x.sent t b))) : okBank x b = true := by
  unfold okBank
  rw [Bool.and_eq_true, a4_true]
  refine ⟨by simp; omega, fun t ht => ?_⟩
  have := h t ht
  simp only [Bool.not_eq_true', Bool.and_eq_false_iff, decide_eq_false_iff_not]
  omega
theorem tog_all {h : H} {ps : List PayS} {n : Int → Int} (hg : goodB h ps = true) (hs : ∀ b : Int, 0 ≤ b ∧ b < 4 → withinB (n b) 0 (queueM ps b).length = true) (ho : ∀ b : Int, 0 ≤ b ∧ b < 4 → n b = 0 ∨ okBank (movesTo h ps n 4) b = true) : togetherM h ps n = true := by
  unfold togetherM
  rw [Bool.and_eq_true, Bool.and_eq_true, a4_true, a4_true]
  refine ⟨⟨hg, hs⟩, fun b hb => ?_⟩
  rcases ho b hb with e | e <;> simp [e]
/-! the most -/
def sizeTo (ps : List PayS) (k : Nat) : Int → Int := fun b => if b < k then qLen ps b else 0
theorem size_step (ps : List PayS) {k : Nat} (hk : k < 4) : rowA (up1 (sizeTo ps k) k (queueM ps k).length) = rowA (sizeTo ps (k + 1)) := rowA_congr fun b hb => by
  unfold up1 sizeTo qLen
  by_cases e : b = k
  · subst e; rw [if_pos rfl, if_pos (by omega)]
  · rw [if_neg e]
    by_cases h : b < k
    · rw [if_pos h, if_pos (by omega)]
    · rw [if_neg h, if_neg (by omega)]
theorem size_all (ps : List PayS) : rowA (sizeTo ps 4) = rowA (qLen ps) := rowA_congr fun b hb => by unfold sizeTo; rw [if_pos (by omega)]
def moreTo (best n : Int → Int) : Nat → Bool
  | 0 => false
  | m + 1 => moreTo best n m || decide (best m < n m)
theorem more_none {best n : Int → Int} (h : moreTo best n 4 = false) : ∀ b : Int, 0 ≤ b ∧ b < 4 → n b ≤ best b := by
  simp only [moreTo, Bool.or_eq_false_iff, decide_eq_false_iff_not, Bool.false_or] at h
  intro b hb
  have : b = 0 ∨ b = 1 ∨ b = 2 ∨ b = 3 := by omega
  obtain ⟨⟨⟨h0, h1⟩, h2⟩, h3⟩ := h
  rcases this with rfl | rfl | rfl | rfl
  · simp at h0; omega
  · simp at h1; omega
  · simp at h2; omega
  · simp at h3; omega
structure MG where
  F : Addr → Value → Prop
  n : Int → Int
  best : Int → Int
def rank (n : Int → Int) : Nat := (390625 - (n 0 + 25 * n 1 + 625 * n 2 + 15625 * n 3)).toNat
theorem rank_less {ps : List PayS} {n n2 : Int → Int} (hl : ps.length ≤ 24) (hs : ∀ b : Int, 0 ≤ b ∧ b < 4 → 0 ≤ n b ∧ n b ≤ qLen ps b) (h : n 0 + 25 * n 1 + 625 * n 2 + 15625 * n 3 < n2 0 + 25 * n2 1 + 625 * n2 2 + 15625 * n2 3) : rank n2 < rank n := by
  have l24 : ∀ b, qLen ps b ≤ 24 := fun b => by have := queueM_len ps b; unfold qLen; omega
  have s0 := hs 0 (by omega)
  have s1 := hs 1 (by omega)
  have s2 := hs 2 (by omega)
  have s3 := hs 3 (by omega)
  have t0 := l24 0
  have t1 := l24 1
  have t2 := l24 2
  have t3 := l24 3
  unfold rank
  omega
/-! settled together -/
theorem chain_snoc : ∀ (xs : List Int) (c : H) (ps : List PayS) (i : Int), chainC c ps (xs ++ [i]) = settleC (chainC c ps xs) (chainP ps xs) i ∧ chainP ps (xs ++ [i]) = settleP (chainP ps xs) i
  | [], _, _, _ => ⟨rfl, rfl⟩
  | j :: r, c, ps, i => by
    simp only [List.cons_append, chainC, chainP]
    exact chain_snoc r _ _ i
theorem settles_other {ps : List PayS} {i k : Int} {p : PayS} (h : settles ps i = some p) (hk : 0 ≤ k) (hne : i ≠ k) : settles (settleP ps k) i = some p := by
  obtain ⟨i0, hp, hs⟩ := settles_spec h
  cases hk' : settles ps k with
  | none => simp only [settleP, hk']; exact h
  | some q => exact settlesOf i0 (by rw [settleP_at hk', if_neg (by omega)]; exact hp) hs
theorem chain_settles : ∀ (xs : List Int) {ps : List PayS} {i : Int} {p : PayS}, settles ps i = some p → (∀ k ∈ xs, 0 ≤ k) → i ∉ xs → settles (chainP ps xs) i = some p
  | [], _, _, _, h, _, _ => h
  | k :: r, ps, i, p, h, h0, hn => by
    simp only [List.mem_cons, not_or] at hn
    exact chain_settles r (settles_other h (h0 k (by simp)) hn.1) (fun j hj => h0 j (by simp [hj])) hn.2
/-- of the banks below b all that is to be settled -/
def upTo (ps : List PayS) (m : Int → Int) : Nat → List Int
  | 0 => []
  | b + 1 => upTo ps m b ++ firsts ps m b
theorem upTo_all (ps : List PayS) (m : Int → Int) : upTo ps m 4 = allFirsts ps m := by simp [upTo, allFirsts]
theorem upTo_mine {ps : List PayS} {m : Int → Int} : ∀ {b : Nat} {i : Int}, i ∈ upTo ps m b → ∃ a : Nat, a < b ∧ Mine ps a i
  | 0, i, h => by simp [upTo] at h
  | b + 1, i, h => by
    rcases List.mem_append.1 h with h | h
    · obtain ⟨a, ha, hm⟩ := upTo_mine h; exact ⟨a, by omega, hm⟩
    · exact ⟨b, by omega, firsts_mine h⟩
/-- what has been settled when bank b's first j payments have been looked at -/
def unXs (ps : List PayS) (m : Int → Int) (b j : Nat) : List Int := upTo ps m b ++ (firsts ps m b).take j
theorem un_none (ps : List PayS) (m : Int → Int) (b : Nat) : unXs ps m b 0 = upTo ps m b := by simp [unXs]
theorem un_end {ps : List PayS} {m : Int → Int} {b j : Nat} (h : (queueM ps b).length ≤ j) : unXs ps m b j = upTo ps m (b + 1) := by
  unfold unXs
  rw [List.take_of_length_le (by unfold firsts; rw [List.length_take]; omega)]
  rfl
theorem un_yes {ps : List PayS} {m : Int → Int} {b j : Nat} {i : Int} (hi : (queueM ps b)[j]? = some i) (hj : (j : Int) < m b) : unXs ps m b (j + 1) = unXs ps m b j ++ [i] := by
  unfold unXs
  have : (firsts ps m b)[j]? = some i := by unfold firsts; rw [List.getElem?_take, if_pos (by omega)]; exact hi
  rw [List.take_add_one, this, List.append_assoc]
  rfl
theorem un_no {ps : List PayS} {m : Int → Int} {b j : Nat} (hj : ¬ (j : Int) < m b) : unXs ps m b (j + 1) = unXs ps m b j := by
  unfold unXs
  have hl : (firsts ps m b).length ≤ j := by unfold firsts; rw [List.length_take]; omega
  rw [List.take_of_length_le hl, List.take_of_length_le (by omega)]
theorem un_settles {ps : List PayS} {m : Int → Int} {b j : Nat} {i : Int} (hi : (queueM ps b)[j]? = some i) : ∃ p, settles (chainP ps (unXs ps m b j)) i = some p ∧ settles ps i = some p := by
  have hm := queueM_mine (List.mem_of_getElem? hi)
  obtain ⟨p, hp, _⟩ := hm.settles
  refine ⟨p, chain_settles _ hp (fun k hk => ?_) (fun hin => ?_), hp⟩
  · rcases List.mem_append.1 hk with hk | hk
    · obtain ⟨a, _, ha⟩ := upTo_mine hk; exact ha.1
    · exact (firsts_mine (List.mem_of_mem_take hk)).1
  · rcases List.mem_append.1 hin with hk | hk
    · obtain ⟨a, hab, ha⟩ := upTo_mine hk
      have := ha.same hm
      omega
    · have h1 : i ∈ (queueM ps b).take j := by
        have : (firsts ps m b).take j = ((queueM ps b).take j).take (m b).toNat := by unfold firsts; rw [List.take_take, List.take_take, Nat.min_comm]
        rw [this] at hk
        exact List.mem_of_mem_take hk
      obtain ⟨k, hk1, hk2⟩ := List.getElem_of_mem h1
      rw [List.length_take] at hk1
      rw [List.getElem_take] at hk2
      obtain ⟨hj, hj2⟩ := List.getElem?_eq_some_iff.1 hi
      have := (List.getElem_inj (queueM_nodup ps b)).1 (hk2.trans hj2.symm)
      omega
structure UnOk (w : World) (h0 : H) (ps0 : List PayS) (e : Nat) (xs : List Int) (t : SwG) : Prop where
  sw : SwOk w h0 ps0 e t
  eq : t.xs = xs
  c : t.h.core = chainC h0.core ps0 xs
  p : t.ps = chainP ps0 xs
  more : More (At w) t.F
theorem UnOk.learn {w : World} {h0 : H} {ps0 : List PayS} {e : Nat} {xs : List Int} {t : SwG} (o : UnOk w h0 ps0 e xs t) {F' : Addr → Value → Prop} (hF : More t.F F') (b d : Nat) : UnOk w h0 ps0 e xs ⟨F', t.h, t.ps, t.xs, t.v, t.E, b, d⟩ :=
  ⟨o.sw.learn hF b d, o.eq, o.c, o.p, fun a v h => hF a v (o.more a v h)⟩
theorem UnOk.go {w : World} {h0 : H} {ps0 : List PayS} {e : Nat} {xs : List Int} {t : SwG} (o : UnOk w h0 ps0 e xs t) {F' : Addr → Value → Prop} (hF : More t.F F') {i : Int} {p : PayS} (hs : settles t.ps i = some p) {h' : H} (hco : h'.core = settleC t.h.core t.ps i) (hlc : h'.pl ≤ h'.pc)
    (ho : (h'.pa = t.h.pa ∧ h'.pl = t.h.pl ∧ settleP t.ps i = t.ps) ∨ PaysIn (Young w F') h'.pa h'.pl (settleP t.ps i)) {v' : Value} {E' : List (Nat × Obj)} (hl : ListE e 1 v' (t.xs.length + 1) (t.xs.map I ++ [I i]) E') (b d : Nat) :
    UnOk w h0 ps0 e (xs ++ [i]) ⟨F', h', settleP t.ps i, t.xs ++ [i], v', E', b, d⟩ := by
  obtain ⟨c1, c2⟩ := chain_snoc xs h0.core ps0 i
  exact ⟨o.sw.go hF hs hlc ho hl b d, by simp only; rw [o.eq], by simp only; rw [hco, o.c, o.p, c1], by simp only; rw [o.p, c2], fun a v h => hF a v (o.more a v h)⟩
end Go.Proofs.Ytmkboljfbmlebaa
