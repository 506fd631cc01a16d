/- What queueRests_holds stands on, part 10: each part says what it proves. No condition beside those that it names. -/
import Derived.Test.YtmkboljfbmlebaaPL49
import Derived.Shelf.SlSortCmp.NoneTotal
import Derived.Ground.SlsfProg
import Derived.Test.YtmkboljfbmlebaaProg
/- The shelf holds for the sort of this program: its functions and types are those that the shelf was proved of. No condition. -/
namespace Go.Proofs
open Go.Shelf
def Try.sortL_ren : Go.Shelf.Ren := ⟨fun | 6 => 70 | 15 => 83 | 14 => 82 | 28 => 98 | 29 => 99 | 20 => 90 | 21 => 91 | 22 => 92 | 23 => 93 | 24 => 94 | 25 => 95 | 26 => 96 | 27 => 97 | 46 => 103 | 47 => 104 | 48 => 105 | 49 => 106 | 50 => 107 | 57 => 109 | n => n, fun | 22 => 43 | 24 => 3 | 25 => 77 | 3 => 3 | 39 => 96 | 0 => 0 | 53 => 111 | 55 => 113 | 4 => 4 | 46 => 105 | 45 => 104 | 50 => 82 | 5 => 5 | 9 => 9 | 66 => 116 | 70 => 120 | 76 => 122 | 77 => 123 | n => n, fun | n => n⟩
theorem Try.sortL : Go.Proofs.SlLaysF.n6 Try.prog Try.sortL_ren := {
  mixed := by kernel_rfl
  f6 := ⟨Try.f70.name, by decide, Try.func70.trans (congrArg some (by kernel_rfl))⟩
  f14 := ⟨Try.f82.name, by decide, Try.func82.trans (congrArg some (by kernel_rfl))⟩
  f15 := Try.func83.trans (congrArg some (by kernel_rfl))
  f20 := ⟨Try.f90.name, by decide, Try.func90.trans (congrArg some (by kernel_rfl))⟩
  f21 := ⟨Try.f91.name, by decide, Try.func91.trans (congrArg some (by kernel_rfl))⟩
  f22 := ⟨Try.f92.name, by decide, Try.func92.trans (congrArg some (by kernel_rfl))⟩
  f23 := ⟨Try.f93.name, by decide, Try.func93.trans (congrArg some (by kernel_rfl))⟩
  f24 := ⟨Try.f94.name, by decide, Try.func94.trans (congrArg some (by kernel_rfl))⟩
  f25 := ⟨Try.f95.name, by decide, Try.func95.trans (congrArg some (by kernel_rfl))⟩
  f26 := ⟨Try.f96.name, by decide, Try.func96.trans (congrArg some (by kernel_rfl))⟩
  f27 := ⟨Try.f97.name, by decide, Try.func97.trans (congrArg some (by kernel_rfl))⟩
  f28 := Try.func98.trans (congrArg some (by kernel_rfl))
  f29 := Try.func99.trans (congrArg some (by kernel_rfl))
  f46 := ⟨Try.f103.name, by decide, Try.func103.trans (congrArg some (by kernel_rfl))⟩
  f47 := Try.func104.trans (congrArg some (by kernel_rfl))
  f48 := Try.func105.trans (congrArg some (by kernel_rfl))
  f49 := ⟨Try.f106.name, by decide, Try.func106.trans (congrArg some (by kernel_rfl))⟩
  f50 := ⟨Try.f107.name, by decide, Try.func107.trans (congrArg some (by kernel_rfl))⟩
  f57 := ⟨Try.f109.name, by decide, Try.func109.trans (congrArg some (by kernel_rfl))⟩
  t0 := Try.underlying0
  a0 := Try.isAgg0
  z0 := Try.sizeOf0
  v0 := Try.zeroValue0
  t3 := Try.underlying3
  a3 := Try.isAgg3
  z3 := Try.sizeOf3
  v3 := Try.zeroValue3
  t4 := Try.underlying4
  a4 := Try.isAgg4
  z4 := Try.sizeOf4
  v4 := Try.zeroValue4
  t5 := Try.underlying5
  a5 := Try.isAgg5
  z5 := Try.sizeOf5
  v5 := Try.zeroValue5
  t9 := Try.underlying9
  a9 := Try.isAgg9
  z9 := Try.sizeOf9
  v9 := Try.zeroValue9
  t22 := Try.underlying43
  a22 := Try.isAgg43
  z22 := Try.sizeOf43
  v22 := Try.zeroValue43
  a24 := Try.isAgg3
  z24 := Try.sizeOf3
  t25 := Try.underlying77
  a25 := Try.isAgg77
  z25 := Try.sizeOf77
  v25 := Try.zeroValue77
  t39 := Try.underlying96
  a39 := Try.isAgg96
  z39 := Try.sizeOf96
  v39 := Try.zeroValue96
  t45 := Try.underlying104
  a45 := Try.isAgg104
  z45 := Try.sizeOf104
  v45 := Try.zeroValue104
  t46 := Try.underlying105
  a46 := Try.isAgg105
  z46 := Try.sizeOf105
  v46 := Try.zeroValue105
  t50 := Try.underlying82
  a50 := Try.isAgg82
  z50 := Try.sizeOf82
  v50 := Try.zeroValue82
  t53 := Try.underlying111
  a53 := Try.isAgg111
  z53 := Try.sizeOf111
  v53 := Try.zeroValue111
  t55 := Try.underlying113
  a55 := Try.isAgg113
  z55 := Try.sizeOf113
  v55 := Try.zeroValue113
  t66 := Try.underlying116
  a66 := Try.isAgg116
  z66 := Try.sizeOf116
  v66 := Try.zeroValue116
  t70 := Try.underlying120
  a70 := Try.isAgg120
  z70 := Try.sizeOf120
  v70 := Try.zeroValue120
  t76 := Try.underlying122
  a76 := Try.isAgg122
  z76 := Try.sizeOf122
  v76 := Try.zeroValue122
  t77 := Try.underlying123
  a77 := Try.isAgg123
  z77 := Try.sizeOf123
  v77 := Try.zeroValue123 }
end Go.Proofs
/- The library's sort at a list of the call's own: its numbers in the order of the payments that they name. No condition. -/
namespace Go.Proofs.Ytmkboljfbmlebaa
open Go.RowKit
set_option linter.unusedSimpArgs false
set_option linter.unusedVariables false

/-- a place of a payment -/
abbrev Pl (ps : List PayS) : Type := { i : Int // 0 ≤ i ∧ i.toNat < ps.length }
def Pl.pay {ps : List PayS} (x : Pl ps) : PayS := ps[x.1.toNat]'x.2.2
def Pl.enc {ps : List PayS} (x : Pl ps) : Value := I x.1
def Pl.cf {ps : List PayS} (x y : Pl ps) : Int := cmpP x.pay y.pay
theorem Pl.lt {ps : List PayS} (x y : Pl ps) : ltOf (Pl.cf (ps := ps)) x y = true ↔ payLt x.pay y.pay := by
  unfold ltOf Pl.cf
  rw [decide_eq_true_iff, cmpP_neg]
theorem Pl.swo (ps : List PayS) : Sort.SWO (ltOf (Pl.cf (ps := ps))) where
  irrefl x := by
    cases h : ltOf (Pl.cf (ps := ps)) x x
    · rfl
    · exact absurd ((Pl.lt x x).1 h) (payLt_irrefl _)
  trans x y z h1 h2 := (Pl.lt x z).2 (payLt_trans ((Pl.lt x y).1 h1) ((Pl.lt y z).1 h2))
  ntrans x y z h1 h2 := by
    cases h : ltOf (Pl.cf (ps := ps)) x z
    · rfl
    · exact absurd ((Pl.lt x z).1 h) (not_payLt_trans (fun e => by rw [(Pl.lt y z).2 e] at h2; cases h2) (fun e => by rw [(Pl.lt x y).2 e] at h1; cases h1))
section
variable {w0 w : World} {F : Addr → Value → Prop} {L : List (Nat × Obj)} {g e : Nat} {cur : Array Value}
theorem has_sort {α : Type} [Inhabited α] (enc : α → Value) (hw : Has w0 F ((g, .cells cur e (0, 0)) :: L) w) (m : Nat) (dk : Array α) (os : Array Obj) : Has w0 F ((g, .cells (Sort.putCells enc 0 dk cur) e (0, 0)) :: L) (sortWorld enc w g 0 m dk os) := by
  have hg : w.heap[g]? = some (.cells cur e (0, 0)) := hw.look .here
  have h1 : Has w0 F ((g, .cells (Sort.putCells enc 0 dk cur) e (0, 0)) :: L) (Sort.putRow enc (Sort.ahead w m) g 0 dk) := by
    refine hw.turn .here rfl rfl rfl (by simp [Sort.putRow, Sort.mapBlock, Sort.ahead]) ?_ (fun k hk => ?_) (Nat.le_add_right _ _)
    · show (w.heap.modify g _)[g]? = _
      rw [Array.getElem?_modify, if_pos rfl, hg]
      rfl
    · show (w.heap.modify g _)[k]? = _
      rw [Array.getElem?_modify, if_neg (Ne.symm hk)]
  exact h1.below (grow_bel _ 0 os)
end
section
variable {ops : Array Oper} {K : (Nat → Value) → World → Prop} {rest : List Oper} {f : Nat → Value} {d : Nat} {ty : TypeId} {pos : String} {af : Array Edge} {w0 : World} {F : Addr → Value → Prop} {E L : List (Nat × Obj)}
theorem s_sort {x y : Operand} {ats : Array TypeId} {cl e : Nat} {cb : List Value} {v : Value} {ws : List Int} {ps : List PayS} (hx : ev f x = v) (hy : ev f y = .func (.func cl) #[] cb.toArray) (eg : ∀ args w, (callFunc cl args).run Try.prog w = .ok (.enter cl args) w)
    (hE : ListE e 1 v ws.length (ws.map I) E) (hin : ∀ i ∈ ws, 0 ≤ i ∧ i.toNat < ps.length) (hlen : ws.length < 4611686018427387904)
    (hcmp : ∀ W, Has w0 F L W → ∀ (i j : Int) (p q : PayS), 0 ≤ i → 0 ≤ j → ps[i.toNat]? = some p → ps[j.toNat]? = some q → Gives Try.prog cl (I i :: I j :: cb) W (I (cmpP p q)))
    (kk : ∀ (E' : List (Nat × Obj)) (ws' : List Int), ListE e 1 v ws'.length (ws'.map I) E' → ws'.Perm ws → ws'.Pairwise (fun i j => ¬ lessK ps j i) → sC Try.prog ops K rest (upd f d (.tuple #[])) (Has w0 F (E' ++ L))) :
    sC Try.prog ops K (⟨some d, .call ⟨.value (.func 70), #[x, y], ats⟩, ty, pos, af, none⟩ :: rest) f (Has w0 F (E ++ L)) := by
  intro w hw
  unfold sw
  rw [if_pos wanted_free]
  unfold opk
  have hrc := run_call (P := Try.prog) (f := f) (k := 70) (xs := [x, y]) (ats := ats) (dst := some d) (ty := ty) (pos := pos) (af := af) (gd := none) (by kernel_rfl) w
  rw [hrc]
  show Calls Try.prog 70 #[ev f x, ev f y] w _
  rw [hx, hy]
  by_cases hws : ws = []
  · subst hws
    obtain ⟨a, c, rfl⟩ := hE.shape
    have hS := AnyF.slices_SortFunc_none (P := Try.prog) (ρ := Try.sortL_ren) { Try.sortL with } a c (.func (.func cl) #[] cb.toArray) w
    change Calls Try.prog 70 _ _ _ at hS
    refine hS.mono fun e' w' ⟨he, hw'⟩ => ⟨_, he, ?_⟩
    subst hw'
    exact kk E [] hE (List.Perm.refl _) List.Pairwise.nil _ hw
  · rcases hE.2 with ⟨_, h0, _⟩ | ⟨g, cap, cur, rfl, rfl, hnc, hcm, hcs, htake⟩
    · exact absurd (List.eq_nil_of_length_eq_zero h0) hws
    · obtain ⟨i0, r0, rfl⟩ : ∃ i r, ws = i :: r := by
        cases ws with
        | nil => exact absurd rfl hws
        | cons i r => exact ⟨i, r, rfl⟩
      generalize hwsd : i0 :: r0 = ws at *
      haveI : Inhabited (Pl ps) := ⟨⟨i0, hin i0 (by rw [← hwsd]; simp)⟩⟩
      have hw1 : Has w0 F ((g, .cells cur e (0, 0)) :: L) w := hw
      have hg : w.heap[g]? = some (.cells cur e (0, 0)) := hw1.look .here
      obtain ⟨D, hD⟩ : ∃ D : List (Pl ps), D.map (·.1) = ws := ⟨ws.attach.map fun i => ⟨i.1, hin i.1 i.2⟩, by simp⟩
      have hDl : D.length = ws.length := by rw [← hD]; simp
      have hcell : ∀ j, j < D.length → cur[j]? = some (I (D[j]!).1) := fun j hj => by
        have h1 : (ws.map I)[j]? = some (I (D[j]!).1) := by
          rw [← hD]
          simp [hj]
        rw [← htake, List.getElem?_take] at h1
        split at h1
        · simpa using h1
        · cases h1
      have hH : Sort.Holds (Pl.enc (ps := ps)) w g 0 D.toArray := fun j hj => by
        have hj' : j < D.length := by simpa using hj
        refine ⟨?_, ?_⟩
        · rw [Nat.zero_add, cell_of_row w g j cur e (0, 0) hg, hcell j hj']
          simp [Pl.enc, hj']
        · simp [World.frozen?, hg]
      have hc1 : CmpLays1 Try.prog cl cb.toArray (Pl.enc (ps := ps)) Pl.cf g 0 D.toArray.size w := fun m os dk hs x' y' => by
        have hW := (has_sort (Pl.enc (ps := ps)) hw1 m dk os).tail
        have h2 := (hcmp _ hW x'.1 y'.1 x'.pay y'.pay x'.2.1 y'.2.1 (List.getElem?_eq_getElem x'.2.2) (List.getElem?_eq_getElem y'.2.2)).out
        have e1 : (I x'.1 :: I y'.1 :: cb).toArray = #[Pl.enc x', Pl.enc y'] ++ cb.toArray := by simp [Pl.enc]
        rw [e1] at h2
        exact h2.mono fun e' w' ⟨he, hb⟩ => ⟨he, hb.grown⟩
      have hS := Any.slices_SortFunc Try.sortL (Pl.enc (ps := ps)) (fun _ => rfl) Pl.cf (Pl.swo ps) cl cb.toArray g 0 cap D.toArray w eg hc1 hH (Array.getElem?_eq_some_iff.1 hg).1 (by simpa [hDl] using hlen)
      change Calls Try.prog 70 _ _ _ at hS
      rw [show D.toArray.size = ws.length by simp [hDl]] at hS
      refine hS.mono fun e' w' ⟨he, d', n', os, hp, hso, hw'⟩ => ⟨_, he, ?_⟩
      subst hw'
      obtain ⟨hp1, _, hp3⟩ := hp
      have hd'l : d'.size = ws.length := by rw [hp1]; simp [hDl]
      have hx1 : d'.extract 0 ws.length = d' := by rw [← hd'l]; simp
      have hx2 : D.toArray.extract 0 ws.length = D.toArray := by rw [← hDl]; simp
      rw [hx1, hx2] at hp3
      have hperm : (d'.toList.map (·.1)).Perm ws := by rw [← hD]; exact (hp3.map _)
      refine kk [(g, .cells (Sort.putCells (Pl.enc (ps := ps)) 0 d' cur) e (0, 0))] (d'.toList.map (·.1)) ?_ hperm ?_ _ (has_sort (Pl.enc (ps := ps)) hw1 n' d' os)
      · refine ⟨by simp, .inr ⟨g, cap, _, by simp [hd'l], rfl, by simpa [hd'l] using hnc, hcm, by simp [Sort.putCells, hcs], ?_⟩⟩
        apply List.ext_getElem?
        intro j
        rw [List.getElem?_take]
        have hle : ws.length ≤ cur.size := by rw [hcs]; omega
        by_cases hj : j < ws.length
        · rw [if_pos (by simpa [hd'l] using hj)]
          have hjc : j < cur.size := by omega
          have hjd : j < d'.size := by omega
          simp [Sort.putCells, hjc, hjd, Pl.enc]
        · rw [if_neg (by simpa [hd'l] using hj)]
          symm
          simp [hd'l]; omega
      · rw [List.pairwise_map, List.pairwise_iff_getElem]
        intro i j hi hj hij hl
        have hi' : i < d'.size := by simpa using hi
        have hj' : j < d'.size := by simpa using hj
        have h3 := hso i j (Nat.zero_le _) hij (by omega)
        rw [getElem!_pos d' j hj', getElem!_pos d' i hi'] at h3
        obtain ⟨p, q, h4, h5, h6⟩ := hl
        have h7 : d'[j].pay = p := by
          have := List.getElem?_eq_getElem d'[j].2.2
          simp only [Array.getElem_toList] at h4
          rw [this] at h4; simpa [Pl.pay] using h4
        have h8 : d'[i].pay = q := by
          have := List.getElem?_eq_getElem d'[i].2.2
          simp only [Array.getElem_toList] at h5
          rw [this] at h5; simpa [Pl.pay] using h5
        rw [(Pl.lt d'[j] d'[i]).2 (by rw [h7, h8]; exact h6)] at h3
        cases h3
end
end Go.Proofs.Ytmkboljfbmlebaa
/- Contracts of the queues and of settling. Condition: the payments lie in memory that is known. -/
namespace Go.Proofs.Ytmkboljfbmlebaa
open Go.RowKit
set_option linter.unusedSimpArgs false
set_option linter.unusedVariables false
set_option maxRecDepth 100000
attribute [local irreducible] cC sC nC rC qw

theorem g_Of (h : H) (ps : List PayS) (bank : Int) (w : World) (hp : PaysIn (At w) h.pa h.pl ps) (hb : h.pl * 48 ≤ 281474976710656) (hlc : h.pl ≤ h.pc) (hsa : SeqsApart ps) (hbk : (0 ≤ bank ∧ bank < 4) ∨ GoodPs ps) : GivesE Try.prog 36 [.agg h.cells, I bank] w (fun v E => ListE 3 1 v (queueM ps bank).length ((queueM ps bank).map I) E) := by
  refine givesE_of Try.func36 rfl Try.ntmps36 (by simp) ?_
  refine r_seq (by kernel_rfl) ?_
  refine s_box (v := .agg _) rfl (fun b2 => ?_)
  refine s_val (v_assign (v := .slice _ _ _) rfl) ?_
  refine s_nil ?_
  refine c_seq ?_
  refine r_seq (by kernel_rfl) ?_
  refine s_val (v_move (v := .int .i64 _) rfl) ?_
  refine s_val (v_lss (k := .i64) rfl rfl) ?_
  refine s_val (v_move (v := .bool _) rfl) ?_
  refine s_split (s := 10) rfl (fun h10 => ?_) (fun h10 => ?_)
  · refine s_pass rfl rfl h10 ?_
    refine s_pass rfl rfl h10 ?_
    refine s_val (v_pickT (v := .bool _) rfl h10 rfl) ?_
    refine s_nil ?_
    refine c_condTh rfl rfl rfl ?_
    refine r_seq (by kernel_rfl) ?_
    refine s_val (v_assign (v := .slice _ _ _) rfl) ?_
    refine s_nil ?_
    refine c_ret ?_
    refine n_ret ?_
    have hnb : ¬ (0 ≤ bank ∧ bank < 4) := by have := of_decide_eq_true h10; omega
    refine n_doneE (E := []) (L := [_]) rfl (by decide) ?_
    show ListE _ _ (.slice none 0 0) _ _ []
    rw [wait_none hnb (hbk.resolve_left hnb)]
    exact listE_nil _ _
  refine s_want rfl rfl h10 ?_
  refine s_val (v_move (v := .int .i64 _) rfl) ?_
  refine s_want rfl rfl h10 ?_
  refine s_val (v_geq (k := .i64) rfl rfl) ?_
  refine s_val (v_pickF (v := .bool _) rfl h10 rfl) ?_
  refine s_nil ?_
  refine c_cond rfl rfl (fun h13 => ?_) (fun h13 => ?_)
  · refine r_seq (by kernel_rfl) ?_
    refine s_val (v_assign (v := .slice _ _ _) rfl) ?_
    refine s_nil ?_
    refine c_ret ?_
    refine n_ret ?_
    have hnb : ¬ (0 ≤ bank ∧ bank < 4) := by have := of_decide_eq_true h13; omega
    refine n_doneE (E := []) (L := [_]) rfl (by decide) ?_
    show ListE _ _ (.slice none 0 0) _ _ []
    rw [wait_none hnb (hbk.resolve_left hnb)]
    exact listE_nil _ _
  refine c_skip ?_
  refine n_then ?_
  refine r_seq (by kernel_rfl) ?_
  refine s_val (v_assign (v := .slice _ _ _) rfl) ?_
  refine s_nil ?_
  refine c_seq ?_
  refine r_seq (by kernel_rfl) ?_
  refine s_val (v_field (fo := 40) (by kernel_rfl) rfl) ?_
  refine s_val (v_load1 (v := .slice _ _ _) (by kernel_rfl) rfl .here (H.at_pays _)) ?_
  refine s_val (v_lenS (T := 27) (m := 6) (by kernel_rfl) rfl rfl) ?_
  refine s_val (v_move (v := .int .i64 _) rfl) ?_
  refine s_nil ?_
  refine c_block ?_
  refine c_loop (σ := Nat × Value × List (Nat × Obj)) (fun ((k, v, E) : Nat × Value × List (Nat × Obj)) f => ∃ g, (k ≤ h.pl ∧ ListE 3 1 v (waitTo ps bank k).length ((waitTo ps bank k).map I) E) ∧ f = (upd (upd (upd (upd (upd (upd g 1 (I bank)) 2 (.pointer (some ⟨b2, 0, none⟩))) 5 (v)) 15 (.slice h.pa h.pl h.pc)) 16 (I h.pl)) 17 (I k))) (fun ((k, v, E) : Nat × Value × List (Nat × Obj)) => Has w (At w) (E ++ [(b2, .cells h.cells 29)])) (fun ((k, v, E) : Nat × Value × List (Nat × Obj)) => h.pl - k) (0, .slice none 0 0, []) ⟨_, ⟨Nat.zero_le _, listE_nil _ _⟩, live6 rfl rfl rfl rfl rfl rfl⟩ (fun w hw => hw) ?_
  rintro ⟨k, v, E⟩ _ ⟨g, ⟨hkl, hE⟩, rfl⟩
  refine r_seq (by kernel_rfl) ?_
  refine s_val (v_lss (k := .i64) rfl rfl) ?_
  refine s_nil ?_
  refine c_seq ?_
  refine c_condR rfl rfl (fun h18 => ?_) (fun h18 => ?_)
  · obtain rfl : k = h.pl := by have := of_decide_eq_false h18; omega
    refine c_exit ?_
    refine n_exit ?_
    refine n_exit ?_
    refine n_bhere ?_
    refine n_then ?_
    refine r_seq (by kernel_rfl) ?_
    refine s_val (v_move (v := _) rfl) ?_
    refine s_val (v_makeFunc (vs := [.pointer (some ⟨b2, 0, none⟩)]) rfl) ?_
    refine s_sort (ps := ps) rfl rfl (enters_of Try.func71 (by kernel_rfl) rfl) hE (fun i hi => by have := ((wait_spec ps bank h.pl).2 i).1 hi; exact this.1.lt) (by have := wait_len ps bank h.pl; omega) (fun W hW i j p q hi hj hpi hpj => g_Of1 h ps b2 i j p q W (hp.at hW) ((cell_has hW .here).trans (H.at_pays h)) hi hj hpi hpj) (fun E38 ws38 hE38 hpm38 hso38 => ?_)
    have hq38 : ws38 = queueM ps bank := sorted_queue hsa (by rw [hp.1]; exact hpm38) hso38
    refine s_nil ?_
    refine r_seq (by kernel_rfl) ?_
    refine s_val (v_move (v := _) rfl) ?_
    refine s_val (v_assign (v := _) rfl) ?_
    refine s_nil ?_
    refine c_ret ?_
    refine n_doneE rfl (by decide) ?_
    show ListE _ _ v _ _ E38
    rw [← hq38]
    exact hE38
  have hk0 := of_decide_eq_true h18
  obtain ⟨p, hpm, hd, ht⟩ := hp.get (k := k) (by omega)
  obtain ⟨b, o, hpa, hc⟩ := hp.some (k := k) (by omega)
  have hst0 := wait_step (bank := bank) hpm
  have hwl := wait_len ps bank k
  refine c_skip ?_
  refine n_then ?_
  refine c_seq ?_
  refine c_block ?_
  refine r_seq (by kernel_rfl) ?_
  refine s_val (v_move (v := .int .i64 _) rfl) ?_
  refine s_val (v_idxS (size := 6) (k := .i64) (by kernel_rfl) (congrArg (fun a => Value.slice a h.pl h.pc) hpa) rfl ⟨by omega, by omega⟩) ?_
  refine s_val (v_loadNo (cs := p.cells) (m := 6) (by kernel_rfl) rfl rfl (hc k p hpm)) ?_
  refine s_alloc (z := zeroOf Try.prog 36) (by kernel_rfl) (fun b7 => ?_)
  refine s_val (v_assign (v := .int .i64 _) rfl) ?_
  refine s_storeA (m := 6) (by kernel_rfl) rfl rfl .here (by kernel_rfl) rfl (PayS.all1 _) ?_
  refine s_nil ?_
  refine r_seq (by kernel_rfl) ?_
  refine s_val (v_field (fo := 0) (by kernel_rfl) rfl) ?_
  refine s_val (v_load1 (v := .int .i64 _) (by kernel_rfl) rfl .here rfl) ?_
  refine s_val (v_move (v := .int .i64 _) rfl) ?_
  refine s_val (v_eql (k := .i64) rfl rfl) ?_
  refine s_val (v_move (v := .bool _) rfl) ?_
  refine s_splitR (s := 26) rfl (fun h26 => ?_) (fun h26 => ?_)
  · have hst : waitTo ps bank (k + 1) = waitTo ps bank k := by rw [hst0]; simp only [*, Bool.true_and, Bool.false_and, Bool.and_true, Bool.and_false, Bool.not_true, Bool.not_false, Bool.true_or, Bool.or_true, Bool.false_or, Bool.or_false, cond_true, cond_false, if_true, if_false, Bool.false_eq_true, decide_true, decide_false]
    refine s_pass rfl rfl h26 ?_
    refine s_pass rfl rfl h26 ?_
    refine s_pass rfl rfl h26 ?_
    refine s_val (v_pickF (v := .bool _) rfl h26 rfl) ?_
    refine s_nil ?_
    refine c_condFh rfl rfl rfl ?_
    refine c_skip ?_
    refine n_bnormal ?_
    refine n_then ?_
    refine r_list (by kernel_rfl) ?_
    refine s_val (v_add rfl rfl (by omega)) ?_
    refine s_val (v_move (v := .int .i64 _) rfl) ?_
    refine s_end ?_
    refine n_round (s := (k, v, E)) (k + 1, v, E) ⟨_, ⟨by omega, by rw [hst]; exact hE⟩, live6 rfl rfl rfl rfl rfl rfl⟩ (fun _ hw => hw.tail) (by dsimp only; omega)
  refine s_want rfl rfl h26 ?_
  refine s_val (v_field (fo := 4) (by kernel_rfl) rfl) ?_
  refine s_want rfl rfl h26 ?_
  refine s_val (v_load1 (v := .int .i64 _) (by kernel_rfl) rfl .here rfl) ?_
  refine s_want rfl rfl h26 ?_
  refine s_val (v_eql (k := .i64) rfl rfl) ?_
  refine s_val (v_pickT (v := .bool _) rfl h26 rfl) ?_
  refine s_nil ?_
  refine c_condR rfl rfl (fun h30 => ?_) (fun h30 => ?_)
  · have hst : waitTo ps bank (k + 1) = waitTo ps bank k := by rw [hst0]; simp only [*, Bool.true_and, Bool.false_and, Bool.and_true, Bool.and_false, Bool.not_true, Bool.not_false, Bool.true_or, Bool.or_true, Bool.false_or, Bool.or_false, cond_true, cond_false, if_true, if_false, Bool.false_eq_true, decide_true, decide_false]
    refine c_skip ?_
    refine n_bnormal ?_
    refine n_then ?_
    refine r_list (by kernel_rfl) ?_
    refine s_val (v_add rfl rfl (by omega)) ?_
    refine s_val (v_move (v := .int .i64 _) rfl) ?_
    refine s_end ?_
    refine n_round (s := (k, v, E)) (k + 1, v, E) ⟨_, ⟨by omega, by rw [hst]; exact hE⟩, live6 rfl rfl rfl rfl rfl rfl⟩ (fun _ hw => hw.tail) (by dsimp only; omega)
  refine c_weak (fun _ hw => hw.tail) ?_
  have hst : waitTo ps bank (k + 1) = waitTo ps bank k ++ [(k : Int)] := by rw [hst0]; simp only [*, Bool.true_and, Bool.false_and, Bool.and_true, Bool.and_false, Bool.not_true, Bool.not_false, Bool.true_or, Bool.or_true, Bool.false_or, Bool.or_false, cond_true, cond_false, if_true, if_false, Bool.false_eq_true, decide_true, decide_false]
  refine r_list (by kernel_rfl) ?_
  refine s_val (v_move (v := _) rfl) ?_
  refine s_val (v_move (v := .int .i64 _) rfl) ?_
  refine s_build1 (v := .int .i64 _) (e := 3) (m := 1) (by_ := 8) (by kernel_rfl) rfl rfl rfl (fill_scalar rfl) (fun b33 => ?_)
  refine s_push (e := 3) (m := 1) (by_ := 8) (by kernel_rfl) rfl rfl rfl rfl rfl hE rfl (all_scalar rfl rfl) (by omega) (fun v34 E34 hE34 => ?_)
  refine s_val (v_assign (v := _) rfl) ?_
  refine s_end ?_
  refine n_bnormal ?_
  refine n_then ?_
  refine r_list (by kernel_rfl) ?_
  refine s_val (v_add rfl rfl (by omega)) ?_
  refine s_val (v_move (v := .int .i64 _) rfl) ?_
  refine s_end ?_
  refine n_round (s := (k, v, E)) (k + 1, v34, E34) ⟨_, ⟨by omega, by rw [hst, List.map_append, List.length_append]; exact hE34⟩, live6 rfl rfl rfl rfl rfl rfl⟩ (fun _ hw => hw) (by dsimp only; omega)

theorem g_Clone (pa : Option Addr) (pl pc : Nat) (ps : List PayS) (w : World) (hp : PaysIn (At w) pa pl ps) (hb : pl * 48 ≤ 281474976710656) (h0 : 0 < pl) : GivesE Try.prog 73 [.slice pa pl pc] w (fun v E => ∃ a c, v = .slice a pl c ∧ PaysE a pl c ps E) := by
  have hnn : pa.isNone = false := by obtain ⟨b, o, e, _⟩ := hp.some (k := 0) h0; rw [e]; rfl
  refine givesE_of Try.func73 rfl Try.ntmps73 (by simp) ?_
  refine r_seq (by kernel_rfl) ?_
  refine s_val (v_assign (v := .slice _ _ _) rfl) ?_
  refine s_nil ?_
  refine c_seq ?_
  refine r_seq (by kernel_rfl) ?_
  refine s_val (v_move (v := .slice _ _ _) rfl) ?_
  refine s_val (v_eqNil (m := 6) (by kernel_rfl) rfl rfl) ?_
  refine s_nil ?_
  refine c_condFh rfl rfl hnn ?_
  refine c_skip ?_
  refine n_then ?_
  refine r_seq (by kernel_rfl) ?_
  refine s_build0 (e := 36) (m := 6) (by_ := 48) (by kernel_rfl) (fun b5 => ?_)
  refine s_val (v_move (v := .slice _ _ _) rfl) ?_
  refine s_appendCopy0 (by kernel_rfl) rfl rfl rfl hp hb h0 (fun b7 c7 cs7 hc7 hs7 hcs7 => ?_)
  refine s_val (v_assign (v := .slice _ _ _) rfl) ?_
  refine s_nil ?_
  refine c_ret ?_
  refine n_doneE (E := [_]) (L := [_]) rfl (by decide) ?_
  exact ⟨_, c7, rfl, hp.1, hc7, .inr ⟨b7, _, cs7, rfl, rfl, hs7, hcs7⟩⟩

theorem g_Settle (h : H) (ps : List PayS) (n : Int) (w : World) (hp : PaysIn (At w) h.pa h.pl ps) (hb : h.pl * 48 ≤ 281474976710656) (hlc : h.pl ≤ h.pc) : GivesF Try.prog 38 [.agg h.cells, I n] w (HouseF h ps (settleC h.core ps n) (settleP ps n)) := by
  refine givesF_of Try.func38 rfl Try.ntmps38 (by simp) ?_
  refine r_seq (by kernel_rfl) ?_
  refine s_box (v := .agg _) rfl (fun b2 => ?_)
  refine s_alloc (z := .agg zeroH.cells) (by kernel_rfl) (fun b4 => ?_)
  refine s_nil ?_
  refine c_seq ?_
  refine r_seq (by kernel_rfl) ?_
  refine s_val (v_move (v := .int .i64 _) rfl) ?_
  refine s_val (v_lss (k := .i64) rfl rfl) ?_
  refine s_val (v_move (v := .bool _) rfl) ?_
  refine s_split (s := 8) rfl (fun h8 => ?_) (fun h8 => ?_)
  · refine s_pass rfl rfl h8 ?_
    refine s_pass rfl rfl h8 ?_
    refine s_pass rfl rfl h8 ?_
    refine s_pass rfl rfl h8 ?_
    refine s_pass rfl rfl h8 ?_
    refine s_val (v_pickT (v := .bool _) rfl h8 rfl) ?_
    refine s_val (v_move (v := .bool _) rfl) ?_
    refine s_pass (g := true) rfl rfl rfl ?_
    refine s_pass (g := true) rfl rfl rfl ?_
    refine s_pass (g := true) rfl rfl rfl ?_
    refine s_pass (g := true) rfl rfl rfl ?_
    refine s_pass (g := true) rfl rfl rfl ?_
    refine s_pass (g := true) rfl rfl rfl ?_
    refine s_pass (g := true) rfl rfl rfl ?_
    refine s_val (v_pickT (v := .bool _) rfl rfl rfl) ?_
    refine s_nil ?_
    refine c_condTh rfl rfl rfl ?_
    refine r_seq (by kernel_rfl) ?_
    refine s_val (v_loadA (m := 42) (by kernel_rfl) rfl (.there .here) (H.size _)) ?_
    refine s_storeA (m := 42) (by kernel_rfl) rfl rfl .here (H.size _) (H.size _) (H.all1 _) ?_
    refine s_nil ?_
    refine c_ret ?_
    refine n_ret ?_
    refine n_doneCF (m := 42) rfl (by decide) rfl (by kernel_rfl) .here (H.size _) (fun w hw => ⟨h, rfl, ?_, hlc, .inl ⟨rfl, rfl, ?_⟩⟩)
    · have es : settles ps n = none := settles_out (by have := of_decide_eq_true h8; omega)
      simp only [settleC, es]
    · have es : settles ps n = none := settles_out (by have := of_decide_eq_true h8; omega)
      simp only [settleP, es]
  refine s_want rfl rfl h8 ?_
  refine s_val (v_move (v := .int .i64 _) rfl) ?_
  refine s_want rfl rfl h8 ?_
  refine s_val (v_field (fo := 40) (by kernel_rfl) rfl) ?_
  refine s_want rfl rfl h8 ?_
  refine s_val (v_load1 (v := .slice _ _ _) (by kernel_rfl) rfl (.there .here) (H.at_pays _)) ?_
  refine s_want rfl rfl h8 ?_
  refine s_val (v_lenS (T := 27) (m := 6) (by kernel_rfl) rfl rfl) ?_
  refine s_want rfl rfl h8 ?_
  refine s_val (v_geq (k := .i64) rfl rfl) ?_
  refine s_val (v_pickF (v := .bool _) rfl h8 rfl) ?_
  refine s_val (v_move (v := .bool _) rfl) ?_
  refine s_split (s := 15) rfl (fun h15 => ?_) (fun h15 => ?_)
  · refine s_pass rfl rfl h15 ?_
    refine s_pass rfl rfl h15 ?_
    refine s_pass rfl rfl h15 ?_
    refine s_pass rfl rfl h15 ?_
    refine s_pass rfl rfl h15 ?_
    refine s_pass rfl rfl h15 ?_
    refine s_pass rfl rfl h15 ?_
    refine s_val (v_pickT (v := .bool _) rfl h15 rfl) ?_
    refine s_nil ?_
    refine c_condTh rfl rfl rfl ?_
    refine r_seq (by kernel_rfl) ?_
    refine s_val (v_loadA (m := 42) (by kernel_rfl) rfl (.there .here) (H.size _)) ?_
    refine s_storeA (m := 42) (by kernel_rfl) rfl rfl .here (H.size _) (H.size _) (H.all1 _) ?_
    refine s_nil ?_
    refine c_ret ?_
    refine n_ret ?_
    refine n_doneCF (m := 42) rfl (by decide) rfl (by kernel_rfl) .here (H.size _) (fun w hw => ⟨h, rfl, ?_, hlc, .inl ⟨rfl, rfl, ?_⟩⟩)
    · have es : settles ps n = none := settles_out (by have := of_decide_eq_true h15; have := hp.1; omega)
      simp only [settleC, es]
    · have es : settles ps n = none := settles_out (by have := of_decide_eq_true h15; have := hp.1; omega)
      simp only [settleP, es]
  have hn0 := of_decide_eq_false h8
  have hn1 := of_decide_eq_false h15
  replace hn0 : 0 ≤ n := by omega
  obtain ⟨p, hpn, hd, ht⟩ := hp.get (k := n.toNat) (by omega)
  obtain ⟨b, o, hpa, hc⟩ := hp.some (k := n.toNat) (by omega)
  refine s_want rfl rfl h15 ?_
  refine s_val (v_field (fo := 40) (by kernel_rfl) rfl) ?_
  refine s_want rfl rfl h15 ?_
  refine s_val (v_load1 (v := .slice _ _ _) (by kernel_rfl) rfl (.there .here) (H.at_pays _)) ?_
  refine s_want rfl rfl h15 ?_
  refine s_val (v_move (v := .int .i64 _) rfl) ?_
  refine s_want rfl rfl h15 ?_
  refine s_val (v_idxS (size := 6) (k := .i64) (by kernel_rfl) (congrArg (fun a => Value.slice a h.pl h.pc) hpa) rfl ⟨by omega, by omega⟩) ?_
  refine s_want rfl rfl h15 ?_
  refine s_val (v_field (fo := 4) (by kernel_rfl) rfl) ?_
  refine s_want rfl rfl h15 ?_
  refine s_val (v_load1o (by kernel_rfl) rfl (hc _ p hpn 4 _ rfl)) ?_
  refine s_want rfl rfl h15 ?_
  refine s_val (v_neq (k := .i64) rfl rfl) ?_
  refine s_val (v_pickF (v := .bool _) rfl h15 rfl) ?_
  refine s_nil ?_
  refine c_condN rfl rfl (fun h23 => ?_) (fun h23 => ?_)
  · refine r_seq (by kernel_rfl) ?_
    refine s_val (v_loadA (m := 42) (by kernel_rfl) rfl (.there .here) (H.size _)) ?_
    refine s_storeA (m := 42) (by kernel_rfl) rfl rfl .here (H.size _) (H.size _) (H.all1 _) ?_
    refine s_nil ?_
    refine c_ret ?_
    refine n_ret ?_
    refine n_doneCF (m := 42) rfl (by decide) rfl (by kernel_rfl) .here (H.size _) (fun w hw => ⟨h, rfl, ?_, hlc, .inl ⟨rfl, rfl, ?_⟩⟩)
    · have es : settles ps n = none := settles_not hpn (of_decide_eq_false h23)
      simp only [settleC, es]
    · have es : settles ps n = none := settles_not hpn (of_decide_eq_false h23)
      simp only [settleP, es]
  refine c_skip ?_
  refine n_then ?_
  refine r_seq (by kernel_rfl) ?_
  refine s_val (v_field (fo := 40) (by kernel_rfl) rfl) ?_
  refine s_val (v_load1 (v := .slice _ _ _) (by kernel_rfl) rfl (.there .here) (H.at_pays _)) ?_
  refine s_val (v_move (v := .int .i64 _) rfl) ?_
  refine s_val (v_idxS (size := 6) (k := .i64) (by kernel_rfl) (congrArg (fun a => Value.slice a h.pl h.pc) hpa) rfl ⟨by omega, by omega⟩) ?_
  refine s_val (v_loadNo (cs := p.cells) (m := 6) (by kernel_rfl) rfl rfl (hc _ p hpn)) ?_
  refine s_alloc (z := zeroOf Try.prog 36) (by kernel_rfl) (fun b5 => ?_)
  refine s_storeA (m := 6) (by kernel_rfl) rfl rfl .here (by kernel_rfl) rfl (PayS.all1 _) ?_
  refine s_nil ?_
  refine r_seq (by kernel_rfl) ?_
  refine s_val (v_loadA (m := 42) (by kernel_rfl) rfl (.there (.there .here)) (H.size _)) ?_
  refine s_val (v_field (fo := 0) (by kernel_rfl) rfl) ?_
  refine s_val (v_load1 (v := .int .i64 _) (by kernel_rfl) rfl .here rfl) ?_
  refine s_val (v_field (fo := 1) (by kernel_rfl) rfl) ?_
  refine s_val (v_load1 (v := .int .i64 _) (by kernel_rfl) rfl .here rfl) ?_
  refine s_val (v_field (fo := 2) (by kernel_rfl) rfl) ?_
  refine s_val (v_load1 (v := .int .i64 _) (by kernel_rfl) rfl .here rfl) ?_
  refine s_call (by kernel_rfl) (fun w hw => g_Move _ _ _ _ w) ?_
  refine s_storeA (m := 42) (by kernel_rfl) rfl rfl (.there (.there .here)) (H.size _) (H.size _) (H.all1 _) ?_
  refine s_nil ?_
  refine r_seq (by kernel_rfl) ?_
  refine s_val (v_field (fo := 40) (by kernel_rfl) rfl) ?_
  refine s_val (v_load1 (v := .slice _ _ _) (by kernel_rfl) rfl (.there (.there .here)) (H.at_pays _)) ?_
  refine s_callE (by kernel_rfl) (fun w hw => g_Clone _ _ _ ps w (by rw [move_pa, move_pl]; exact hp.at hw) (by rw [move_pl]; exact hb) (by rw [move_pl]; omega)) (fun v40 E40 hR40 => ?_)
  obtain ⟨a40, c40, rfl, hpe40⟩ := hR40
  obtain ⟨b40, t40, cs40, rfl, rfl, hsz40, hcs40⟩ := hpe40.some (by rw [move_pl]; omega)
  have hle40 := hpe40.2.1
  refine s_val (v_field (fo := 40) (by kernel_rfl) rfl) ?_
  refine s_store1 (v := .slice _ _ _) (by kernel_rfl) rfl rfl (.there (.there (.there .here))) (H.set_pays _) rfl ?_
  refine s_nil ?_
  refine r_seq (by kernel_rfl) ?_
  refine s_val (v_field (fo := 40) (by kernel_rfl) rfl) ?_
  refine s_val (v_load1 (v := .slice _ _ _) (by kernel_rfl) rfl (.there (.there (.there .here))) (H.at_pays _)) ?_
  refine s_val (v_move (v := .int .i64 _) rfl) ?_
  refine s_val (v_idxS (size := 6) (k := .i64) (by kernel_rfl) rfl rfl ⟨by omega, by rw [move_pl]; omega⟩) ?_
  refine s_val (v_field (fo := 4) (by kernel_rfl) rfl) ?_
  refine s_store1 (v := .int .i64 _) (by kernel_rfl) rfl rfl .here ⟨by rw [hsz40]; rw [move_pl] at hle40; omega, rfl⟩ rfl ?_
  refine s_nil ?_
  refine r_seq (by kernel_rfl) ?_
  refine s_val (v_loadA (m := 42) (by kernel_rfl) rfl (.there (.there (.there .here))) (H.size _)) ?_
  refine s_storeA (m := 42) (by kernel_rfl) rfl rfl (.there (.there .here)) (H.size _) (H.size _) (H.all1 _) ?_
  refine s_nil ?_
  refine c_ret ?_
  refine n_doneCF (m := 42) rfl (by decide) rfl (by kernel_rfl) (.there (.there .here)) (H.size _) (fun w hw => ?_)
  have es := settles_of hn0 hpn (of_decide_eq_true h23)
  refine ⟨_, rfl, ?_, hle40, .inr ?_⟩
  · simp only [settleC, es]; exact core_move _ _ _ _
  · simp only [settleP, es]
    exact own_pays hw .here (by rw [List.length_set, hp.1, move_pl]) (hcs40.settled hpn)

end Go.Proofs.Ytmkboljfbmlebaa
/- A region that draws its order, with one write that may come at any time: what each operation comes to follows from what it looks at, before the write and behind it. No condition. -/
namespace Go.Proofs.Ytmkboljfbmlebaa
open Go.RowKit
set_option linter.unusedSimpArgs false
set_option linter.unusedVariables false

section
variable {P : Program} {n : Nat} {C0 C1 : World → Prop} {f : Nat → Value} {l : List Oper} {Ψ : Nat → Value → Prop} {Q : Exit → (Nat → Value) → World → Prop}
/-- what is held of each slot, whatever the memory -/
def Fix (Ψ : Nat → Value → Prop) : Nat → Value → World → Prop := fun d v _ => Ψ d v
/-- what the write must do -/
def ObW (P : Program) (C0 C1 : World → Prop) (f : Nat → Value) (l : List Oper) (Ψ : Nat → Value → Prop) (o : Oper) : Prop :=
  ∀ g, (∀ t ∈ o.looksAt l.toArray, (t ∈ dstsOf l → Ψ t (g t)) ∧ (t ∉ dstsOf l → g t = f t)) → o.guard = none ∧ sC P l.toArray (fun g' w' => ∃ v, g' = updo g o.dst v ∧ C1 w' ∧ ∀ d, o.dst = some d → Ψ d v) [o] g C0
structure FlowInvW (C0 C1 : World → Prop) (j0 : Nat) (f : Nat → Value) (l : List Oper) (Ψ : Nat → Value → Prop) (s : Array Bool) (g : Nat → Value) (w : World) : Prop where
  size : s.size = l.length
  cls0 : s[j0]? = some false → C0 w
  cls1 : s[j0]? = some true → C1 w
  done : ∀ (i : Nat) (o : Oper) (d : Nat), l[i]? = some o → s[i]? = some true → o.dst = some d → Ψ d (g d)
  out : ∀ t, t ∉ dstsOf l → g t = f t

theorem d_flowW {id j0 : Nat} {o0 : Oper} (hm : P.follows .mixedOrders = true) (hB : opsB n l.toArray = true) (hF : flowB .any l = true) (hj0 : l[j0]? = some o0) (hC0 : ∀ w w', C0 w → Bel w.heap.size w w' → C0 w') (hC1 : ∀ w w', C1 w → Bel w.heap.size w w' → C1 w')
    (h0 : Obs P C0 f l (Fix Ψ) (l.eraseIdx j0)) (h1 : Obs P C1 f l (Fix Ψ) (l.eraseIdx j0)) (hst : ObW P C0 C1 f l Ψ o0)
    (k : ∀ g w, C1 w → (∀ d ∈ dstsOf l, Ψ d (g d)) → (∀ t, t ∉ dstsOf l → g t = f t) → Q .normal g w) : cC P n (.region id l.toArray true) Q f C0 := by
  simp only [flowB, Bool.and_eq_true, decide_eq_true_eq, List.all_eq_true] at hF
  obtain ⟨⟨hnd, hsel⟩, hall⟩ := hF
  have hop : ∀ (i : Nat) (o : Oper), l[i]? = some o → (∀ t ∈ o.looksAt l.toArray, ∀ (j : Nat) (u : Oper), l[j]? = some u → u.dst = some t → ∃ e ∈ o.after, Region.binds .any e = true ∧ e.on = j) ∧ (∀ e ∈ o.after, Region.binds .any e = true → e.on < i) := by
    intro i o hi
    have := hall (o, i) (List.mem_zipIdx_iff_getElem?.2 hi)
    simp only [Bool.and_eq_true, List.all_eq_true] at this
    obtain ⟨h1, h2⟩ := this
    refine ⟨fun t ht j u hj hu => ?_, fun e he hb => ?_⟩
    · have := h1 t ht (u, j) (List.mem_zipIdx_iff_getElem?.2 hj)
      simp [hu] at this
      obtain ⟨i', hi', e1, e2⟩ := this
      exact ⟨_, Array.getElem_mem hi', e1, e2⟩
    · have := Array.all_eq_true_iff_forall_mem.1 h2 e he
      simpa [hb] using this
  have hB' : ∀ o ∈ l, operB n l.toArray o = true := by simpa [opsB] using hB
  have hj0l : j0 < l.length := (List.getElem?_eq_some_iff.1 hj0).1
  have main : ∀ (fuel : Nat) (s : Array Bool) (g : Nat → Value) (w : World), FlowInvW C0 C1 j0 f l Ψ s g w → s.toList.countP unset ≤ fuel → wpAny P .any l.toArray (fun e a w => ∃ f, a = Fa n f ∧ Q e f w) fuel s (Fa n g) w := by
    have all : ∀ (s : Array Bool) (g : Nat → Value) (w : World), FlowInvW C0 C1 j0 f l Ψ s g w → Region.ready .any l.toArray s = [] → Q .normal g w := by
      intro s g w inv hr
      have hls : ∀ i, i < l.length → s[i]? = some true := by
        intro i
        induction i using Nat.strongRecOn with
        | _ i ih =>
          intro hi
          have his : i < s.size := by rw [inv.size]; exact hi
          cases hv : s[i] with
          | true => simp [his, hv]
          | false =>
            exfalso
            have : i ∈ Region.ready .any l.toArray s := mem_ready.2 ⟨by simp [Array.getD, his, hv], l[i], by simp [hi], fun e he hb => by
              have hlt := (hop i l[i] (by simp [hi])).2 e he hb
              have := ih e.on hlt (by omega)
              have hsz := (Array.getElem?_eq_some_iff.1 this)
              obtain ⟨h1, h2⟩ := hsz
              simp [Array.getD, h1, h2]⟩
            rw [hr] at this
            cases this
      refine k g w (inv.cls1 (hls j0 hj0l)) (fun d hd => ?_) inv.out
      obtain ⟨o, ho, hd'⟩ := List.mem_filterMap.1 hd
      obtain ⟨i, hi, he⟩ := List.getElem_of_mem ho
      exact inv.done i o d (by simp [hi, he]) (hls i hi) hd'
    intro fuel
    induction fuel with
    | zero =>
      intro s g w inv hc
      have hr : Region.ready .any l.toArray s = [] := by
        cases hr : Region.ready .any l.toArray s with
        | nil => rfl
        | cons i r =>
          exfalso
          have hi := (mem_ready.1 (show i ∈ Region.ready .any l.toArray s by rw [hr]; simp)).1
          have : false ∈ s.toList := by
            by_cases hs : i < s.size
            · simp [Array.getD, hs] at hi
              rw [← hi]; simp
            · simp [Array.getD, hs] at hi
          have := List.countP_pos_iff (p := unset).2 ⟨false, this, rfl⟩
          omega
      exact ⟨hr, g, rfl, all s g w inv hr⟩
    | succ fuel ih =>
      intro s g w inv hc
      refine ⟨fun hr => ⟨g, rfl, all s g w inv hr⟩, fun i hi => ?_⟩
      obtain ⟨hun, o, ho, hed⟩ := mem_ready.1 hi
      have hol : l[i]? = some o := by simpa using ho
      have hom : o ∈ l := List.mem_of_getElem? hol
      have his : i < s.size := by
        rcases Nat.lt_or_ge i s.size with h | h
        · exact h
        · have hn : ¬ i < s.size := by omega
          simp [Array.getD, hn] at hun
      have hfalse : s[i] = false := by simpa [Array.getD, his] using hun
      have hcount : (s.setIfInBounds i true).toList.countP unset ≤ fuel := by
        have e1 : unset (s.toList[i]'(by simpa using his)) = true := by simp [unset, hfalse]
        have h0 : 0 < s.toList.countP unset := List.countP_pos_iff.2 ⟨s.toList[i]'(by simpa using his), List.getElem_mem _, e1⟩
        rw [Array.toList_setIfInBounds, List.countP_set (by simpa using his), if_pos e1, if_neg (by simp [unset])]
        omega
      have hlk : ∀ t ∈ o.looksAt l.toArray, (t ∈ dstsOf l → Ψ t (g t)) ∧ (t ∉ dstsOf l → g t = f t) := fun t ht => ⟨fun htd => by
        obtain ⟨u, hu, hut⟩ := List.mem_filterMap.1 htd
        obtain ⟨j, hj, he⟩ := List.getElem_of_mem hu
        have hj' : l[j]? = some u := by simp [hj, he]
        obtain ⟨e, he1, he2, he3⟩ := (hop i o hol).1 t ht j u hj' hut
        have := hed e he1 he2
        rw [he3] at this
        refine inv.done j u t hj' ?_ hut
        have hjs : j < s.size := by rw [inv.size]; exact hj
        simp [Array.getD, hjs] at this
        simp [hjs, this], inv.out t⟩
      have next : ∀ v w', ((s.setIfInBounds i true)[j0]? = some false → C0 w') → ((s.setIfInBounds i true)[j0]? = some true → C1 w') → (∀ d, o.dst = some d → Ψ d v) → FlowInvW C0 C1 j0 f l Ψ (s.setIfInBounds i true) (updo g o.dst v) w' := by
        intro v w' hc0 hc1 hv
        refine ⟨by simp [inv.size], hc0, hc1, fun j u d hj hs hu => ?_, fun t ht => ?_⟩
        · by_cases hji : j = i
          · subst hji
            rw [hol] at hj
            simp at hj; subst hj
            rw [hu]
            simp only [updo, upd_same]
            exact hv d hu
          · have hs' : s[j]? = some true := by rw [Array.getElem?_setIfInBounds_ne (Ne.symm hji)] at hs; exact hs
            have hne : o.dst ≠ some d := fun e => hji (dst_unique hnd hj hol hu e)
            have := inv.done j u d hj hs' hu
            cases hod : o.dst with
            | none => exact this
            | some d' =>
              simp only [updo]
              rw [upd_other g v (fun e => hne (by rw [hod, e]))]
              exact this
        · cases hod : o.dst with
          | none => exact inv.out t ht
          | some d' =>
            simp only [updo]
            rw [upd_other g v (fun e => ht (List.mem_filterMap.2 ⟨o, hom, by rw [hod, e]⟩))]
            exact inv.out t ht
      have hob : if Region.wanted o (yf l.toArray g) then opk P o g w (fun g' w' => ∃ v, g' = updo g o.dst v ∧ FlowInvW C0 C1 j0 f l Ψ (s.setIfInBounds i true) (updo g o.dst v) w') else FlowInvW C0 C1 j0 f l Ψ (s.setIfInBounds i true) (updo g o.dst undef) w := by
        by_cases hij : i = j0
        · subst hij
          rw [hol] at hj0
          simp at hj0; subst hj0
          obtain ⟨hgd, hsc⟩ := hst g hlk
          have hc0 := inv.cls0 (by simp [his, hfalse])
          have := hsc w hc0
          have hwt : Region.wanted o (yf l.toArray g) = true := by
            unfold Region.wanted; rw [hgd]
          unfold sw at this
          rw [if_pos hwt] at this ⊢
          unfold opk at this ⊢
          have fin : ∀ g' w', (∃ v, g' = updo g o.dst v ∧ C1 w' ∧ ∀ d, o.dst = some d → Ψ d v) → ∃ v, g' = updo g o.dst v ∧ FlowInvW C0 C1 i f l Ψ (s.setIfInBounds i true) (updo g o.dst v) w' := by
            rintro g' w' ⟨v, e, hc1, hv⟩
            exact ⟨v, e, next v w' (fun hx => by simp [his] at hx) (fun _ => hc1) hv⟩
          generalize (execOp (ev g) o).run P w = r at this ⊢
          cases r with
          | ok nx w' =>
            cases nx <;> simp only at this ⊢
            case value v => exact fin _ _ this
            case skip => exact fin _ _ this
            case enter fn args => exact Calls.mono this fun e w'' ⟨v, he, h⟩ => ⟨v, he, fin _ _ h⟩
          | halt x w' => exact this
        · have hmem : o ∈ l.eraseIdx j0 := List.mem_eraseIdx_iff_getElem?.2 ⟨i, hij, hol⟩
          have hsj : (s.setIfInBounds i true)[j0]? = s[j0]? := Array.getElem?_setIfInBounds_ne hij
          have both : ∀ C : World → Prop, (∀ w w', C w → Bel w.heap.size w w' → C w') → Obs P C f l (Fix Ψ) (l.eraseIdx j0) → C w → ((s[j0]? = some false → C = C0) ∧ (s[j0]? = some true → C = C1)) →
              if Region.wanted o (yf l.toArray g) then opk P o g w (fun g' w' => ∃ v, g' = updo g o.dst v ∧ FlowInvW C0 C1 j0 f l Ψ (s.setIfInBounds i true) (updo g o.dst v) w') else FlowInvW C0 C1 j0 f l Ψ (s.setIfInBounds i true) (updo g o.dst undef) w := by
            intro C hC hO hw hcc
            have hb := hO.mem o hmem g w hw hlk
            have nx : ∀ v w', Bel w.heap.size w w' → (∀ d, o.dst = some d → Ψ d v) → FlowInvW C0 C1 j0 f l Ψ (s.setIfInBounds i true) (updo g o.dst v) w' := fun v w' hbel hv =>
              next v w' (fun hx => by rw [hsj] at hx; rw [← hcc.1 hx]; exact hC w w' hw hbel) (fun hx => by rw [hsj] at hx; rw [← hcc.2 hx]; exact hC w w' hw hbel) hv
            split
            · rename_i hwt
              rw [if_pos hwt] at hb
              unfold opk at hb ⊢
              generalize (execOp (ev g) o).run P w = r at hb ⊢
              cases r with
              | ok nx' w' =>
                cases nx' <;> simp only at hb ⊢
                case value v => obtain ⟨v', e, hbel, hv⟩ := hb; exact ⟨v', e, nx v' w' hbel hv⟩
                case skip => obtain ⟨v', e, hbel, hv⟩ := hb; exact ⟨v', e, nx v' w' hbel hv⟩
                case enter fn args => exact Calls.mono hb fun e w'' ⟨v, he, v', e', hbel, hv⟩ => ⟨v, he, v', e', nx v' w'' hbel hv⟩
              | halt x w' => exact hb
            · rename_i hwt
              rw [if_neg hwt] at hb
              exact nx undef w (Bel.refl _ _) hb
          have hjs : j0 < s.size := by rw [inv.size]; exact hj0l
          cases hv : s[j0] with
          | false =>
            have e : s[j0]? = some false := by simp [hjs, hv]
            exact both C0 hC0 h0 (inv.cls0 e) ⟨fun _ => rfl, fun h => by rw [e] at h; simp at h⟩
          | true =>
            have e : s[j0]? = some true := by simp [hjs, hv]
            exact both C1 hC1 h1 (inv.cls1 e) ⟨fun h => by rw [e] at h; simp at h, fun _ => rfl⟩
      unfold wpOp
      simp only [ho]
      rw [Fa_wanted (hB' o hom)]
      split
      · rename_i hw
        rw [if_pos hw] at hob
        refine Or.inl ?_
        unfold Oper.wp
        rw [Fa_exec (hB' o hom)]
        unfold opk at hob
        generalize (execOp (ev g) o).run P w = r at hob
        cases r with
        | ok nx w' =>
          cases nx <;> simp only at hob <;> simp only [Oper.upon]
          case value v =>
            obtain ⟨v', e, hinv⟩ := hob
            rw [Fa_put, e]
            exact ih _ _ _ hinv hcount
          case skip =>
            obtain ⟨v', e, hinv⟩ := hob
            rw [Fa_put, e]
            exact ih _ _ _ hinv hcount
          case enter fn args =>
            refine Calls.mono hob fun e w'' ⟨v, he, v', e', hinv⟩ => ?_
            subst he
            show wpAny P .any l.toArray _ fuel _ ((Fa n g).put o.dst v) w''
            rw [Fa_put, e']
            exact ih _ _ _ hinv hcount
        | halt x w' => exact hob.elim
      · rename_i hw
        rw [if_neg hw] at hob
        rw [Fa_put]
        exact ih _ _ _ hob hcount
  intro w hw
  refine wp_region_any hm ?_
  refine main _ _ f w.drew ⟨by simp, fun _ => hC0 w _ hw ((Bel.refl _ _).drew), fun hx => ?_, fun i o d hi hs hd => ?_, fun _ _ => rfl⟩ ?_
  · rw [Array.getElem?_replicate] at hx
    split at hx <;> simp at hx
  · rw [Array.getElem?_replicate] at hs
    split at hs <;> simp at hs
  · have := List.countP_le_length (p := unset) (l := (Array.replicate l.toArray.size false).toList)
    simpa using this
/-- a table of what the slots hold -/
def rowV (d : Nat) (v : Value) (T : Nat → Value → Prop) : Nat → Value → Prop := fun i => bif Nat.beq i d then (fun u => u = v) else T i
def AnyV : Nat → Value → Prop := fun _ _ => True
theorem ow_end {g : Nat → Value} {ops : Array Oper} : sC P ops (fun g' w' => ∃ v, g' = updo g none v ∧ C1 w' ∧ ∀ d, (none : Option Nat) = some d → Ψ d v) [] g C1 := fun w hw => ⟨undef, rfl, hw, fun d h => by cases h⟩
variable {w0 : World} {F : Addr → Value → Prop} {L L' : List (Nat × Obj)}
theorem fw_list {id j0 : Nat} {o0 : Oper} (hm : P.follows .mixedOrders = true) (hB : opsB n l.toArray = true) (hF : flowB .any l = true) (hj0 : l[j0]? = some o0)
    (h0 : Obs P (Has w0 F L) f l (Fix Ψ) (l.eraseIdx j0)) (h1 : Obs P (Has w0 F L') f l (Fix Ψ) (l.eraseIdx j0)) (hst : ObW P (Has w0 F L) (Has w0 F L') f l Ψ o0)
    (k : ∀ g, (∀ d ∈ dstsOf l, Ψ d (g d)) → (∀ t, t ∉ dstsOf l → g t = f t) → nC Q .normal g (Has w0 F L')) : cC P n (.region id l.toArray true) Q f (Has w0 F L) :=
  d_flowW hm hB hF hj0 (fun w w' hw hb => hw.below hb) (fun w w' hw hb => hw.below hb) h0 h1 hst (fun g w hw h1 h2 => k g h1 h2 w hw)
theorem fw_seq {id j0 : Nat} {o0 : Oper} {y : Code} (hm : P.follows .mixedOrders = true) (hB : opsB n l.toArray = true) (hF : flowB .any l = true) (hj0 : l[j0]? = some o0)
    (h0 : Obs P (Has w0 F L) f l (Fix Ψ) (l.eraseIdx j0)) (h1 : Obs P (Has w0 F L') f l (Fix Ψ) (l.eraseIdx j0)) (hst : ObW P (Has w0 F L) (Has w0 F L') f l Ψ o0)
    (k : ∀ g, (∀ d ∈ dstsOf l, Ψ d (g d)) → (∀ t, t ∉ dstsOf l → g t = f t) → cC P n y Q g (Has w0 F L')) : cC P n (.seq (.region id l.toArray true) y) Q f (Has w0 F L) :=
  c_seq (d_flowW hm hB hF hj0 (fun w w' hw hb => hw.below hb) (fun w w' hw hb => hw.below hb) h0 h1 hst (fun g w hw h1 h2 => k g h1 h2 w hw))
variable {d : Nat} {op : Op} {ty : TypeId} {pos : String} {af : Array Edge} {C : World → Prop}
theorem obw_val {v : Value} (h : ∀ (g : Nat → Value), (∀ t ∈ (⟨some d, op, ty, pos, af, none⟩ : Oper).looksAt l.toArray, (t ∈ dstsOf l → Ψ t (g t)) ∧ (t ∉ dstsOf l → g t = f t)) → Val P g C ⟨some d, op, ty, pos, af, none⟩ v ∧ Ψ d v) : Ob P C f l (Fix Ψ) ⟨some d, op, ty, pos, af, none⟩ := by
  intro g w hw hl
  rw [if_pos wanted_free]
  obtain ⟨hv, hp⟩ := h g hl
  unfold opk
  rw [hv.out w hw]
  exact ⟨v, rfl, Bel.refl _ _, fun e he => by simp at he; subst he; exact hp⟩
end
end Go.Proofs.Ytmkboljfbmlebaa
/- Contract of the sweep of one bank. Condition: the payments lie in memory that is known. -/
namespace Go.Proofs.Ytmkboljfbmlebaa
open Go.RowKit
set_option linter.unusedSimpArgs false
set_option linter.unusedVariables false
set_option maxRecDepth 100000
attribute [local irreducible] cC sC nC rC qw

theorem g_sweepBank (h : H) (ps : List PayS) (bank nr : Int) (w : World) (hp : PaysIn (At w) h.pa h.pl ps) (hb : h.pl * 48 ≤ 281474976710656) (hlc : h.pl ≤ h.pc) (hsa : SeqsApart ps) (hgp : GoodPs ps) (hbk : 0 ≤ bank ∧ bank < 4) (hnn : 0 ≤ nr) (hnr0 : nr + ps.length ≤ 1000000) (hnear : NearG nr h.core) : GivesF Try.prog 68 [.agg h.cells, I bank] w (SweepF h ps (drain bank ⟨h.core, ps, []⟩)) := by
  have hnr : nr + (queueM ps bank).length ≤ 1000000 := by have := queueTo_len ps bank ps.length; unfold queueM; omega
  refine givesF_of Try.func68 rfl Try.ntmps68 (by simp) ?_
  refine r_seq (by kernel_rfl) ?_
  refine s_box (v := .agg _) rfl (fun b2 => ?_)
  refine s_alloc (z := .agg zeroH.cells) (by kernel_rfl) (fun b4 => ?_)
  refine s_val (v_assign (v := .slice _ _ _) rfl) ?_
  refine s_nil ?_
  refine r_seq (by kernel_rfl) ?_
  refine s_val (v_loadA (m := 42) (by kernel_rfl) rfl (.there .here) (H.size _)) ?_
  refine s_val (v_move (v := .int .i64 _) rfl) ?_
  refine s_callG (by kernel_rfl) (room_mono _) (fun w hw => (g_Of h ps bank w (hp.at hw) hb hlc hsa (.inl hbk)).toF (fun F v E hk hl => room_of_list hl hk)) (fun F12 v12 hF12 hR12 => ?_)
  obtain ⟨a12, c12, rfl, hc12, ia12⟩ := hR12
  refine s_val (v_assign (v := .slice _ _ _) rfl) ?_
  refine s_nil ?_
  refine c_seq ?_
  refine r_seq (by kernel_rfl) ?_
  refine s_val (v_move (v := .slice _ _ _) rfl) ?_
  refine s_val (v_lenS (T := 43) (m := 1) (by kernel_rfl) rfl rfl) ?_
  refine s_val (v_move (v := .int .i64 _) rfl) ?_
  refine s_nil ?_
  refine c_block ?_
  refine c_loop (σ := SbG) (fun (t : SbG) f => ∃ g, (SbOk w F12 h ps bank nr t) ∧ f = (upd (upd (upd (upd (upd (upd (upd g 1 (I bank)) 2 (.pointer (some ⟨b2, 0, none⟩))) 4 (.pointer (some ⟨b4, 0, none⟩))) 6 (.slice a12 (queueM ps bank).length c12)) 13 (.slice a12 (queueM ps bank).length c12)) 14 (I (queueM ps bank).length)) 15 (I t.k))) (fun (t : SbG) => Has w t.F [(b4, .cells zeroH.cells 29), (b2, .cells t.h.cells 29)]) (fun (t : SbG) => (queueM ps bank).length - t.k) ⟨F12, h, ps, 0⟩ ⟨_, sb_start hp hF12 hlc hsa hgp hnear, live7 rfl rfl rfl rfl rfl rfl rfl⟩ (fun w hw => hw) ?_
  rintro t _ ⟨g, ho, rfl⟩
  refine r_seq (by kernel_rfl) ?_
  refine s_val (v_lss (k := .i64) rfl rfl) ?_
  refine s_nil ?_
  refine c_seq ?_
  refine c_condR rfl rfl (fun h16 => ?_) (fun h16 => ?_)
  · refine c_exit ?_
    refine n_exit ?_
    refine n_exit ?_
    refine n_bhere ?_
    refine n_then ?_
    refine r_seq (by kernel_rfl) ?_
    refine s_val (v_loadA (m := 42) (by kernel_rfl) rfl (.there .here) (H.size _)) ?_
    refine s_val (v_move (v := .slice _ _ _) rfl) ?_
    refine s_storeA (m := 42) (by kernel_rfl) rfl rfl .here (H.size _) (H.size _) (H.all1 _) ?_
    refine s_val (v_assign (v := .slice _ _ _) rfl) ?_
    refine s_nil ?_
    refine c_ret ?_
    refine n_done2F (m := 42) rfl (by decide) (by decide) rfl (by kernel_rfl) .here (H.size _) (fun w hw => ?_)
    exact ho.done (ho.fin (of_decide_eq_false h16)) hw ia12 (by have := of_decide_eq_false h16; have := ho.kl; omega)
  have hk0 := of_decide_eq_true h16
  obtain ⟨bq, oq, n, ha12, hn, hfn⟩ := ia12.get (j := t.k) (by omega)
  obtain ⟨p, hst, hpn, hsrc, hq, hn0, hnl, hnl'⟩ := ho.step hn
  obtain ⟨bp, op, hpa, hc⟩ := ho.pays.some hnl
  have hkl := ho.kl
  have hlent := ho.len
  refine c_skip ?_
  refine n_then ?_
  refine c_seq ?_
  refine c_block ?_
  refine r_seq (by kernel_rfl) ?_
  refine s_val (v_move (v := .int .i64 _) rfl) ?_
  refine s_val (v_idxS (size := 1) (k := .i64) (by kernel_rfl) (congrArg (fun a => Value.slice a (queueM ps bank).length c12) ha12) rfl ⟨by omega, by omega⟩) ?_
  refine s_val (v_load1o (v := I n) (by kernel_rfl) rfl (by simpa using ho.more _ _ hfn.1)) ?_
  refine s_val (v_assign (v := .int .i64 _) rfl) ?_
  refine s_val (v_assign (v := .int .i64 _) rfl) ?_
  refine s_nil ?_
  refine r_seq (by kernel_rfl) ?_
  refine s_val (v_field (fo := 40) (by kernel_rfl) rfl) ?_
  refine s_val (v_load1 (v := .slice _ _ _) (by kernel_rfl) rfl (.there .here) (H.at_pays _)) ?_
  refine s_val (v_move (v := .int .i64 _) rfl) ?_
  refine s_val (v_idxS (size := 6) (k := .i64) (by kernel_rfl) (congrArg (fun a => Value.slice a t.h.pl t.h.pc) hpa) rfl ⟨by omega, by omega⟩) ?_
  refine s_val (v_loadNo (cs := p.cells) (m := 6) (by kernel_rfl) rfl rfl (hc _ p hpn)) ?_
  refine s_alloc (z := zeroOf Try.prog 36) (by kernel_rfl) (fun b9 => ?_)
  refine s_storeA (m := 6) (by kernel_rfl) rfl rfl .here (by kernel_rfl) rfl (PayS.all1 _) ?_
  refine s_nil ?_
  refine c_seq ?_
  refine r_seq (by kernel_rfl) ?_
  refine s_val (v_loadA (m := 42) (by kernel_rfl) rfl (.there (.there .here)) (H.size _)) ?_
  refine s_val (v_field (fo := 0) (by kernel_rfl) rfl) ?_
  refine s_val (v_load1 (v := .int .i64 _) (by kernel_rfl) rfl .here rfl) ?_
  refine s_val (v_field (fo := 1) (by kernel_rfl) rfl) ?_
  refine s_val (v_load1 (v := .int .i64 _) (by kernel_rfl) rfl .here rfl) ?_
  refine s_val (v_field (fo := 2) (by kernel_rfl) rfl) ?_
  refine s_val (v_load1 (v := .int .i64 _) (by kernel_rfl) rfl .here rfl) ?_
  refine s_call (by kernel_rfl) (fun w hw => g_May _ _ _ _ w) ?_
  refine s_val (v_not rfl) ?_
  refine s_nil ?_
  refine c_condNR rfl rfl (fun h33 => ?_) (fun h33 => ?_)
  · refine c_skip ?_
    refine n_then ?_
    refine r_list (by kernel_rfl) ?_
    refine s_val (v_loadA (m := 42) (by kernel_rfl) rfl (.there (.there .here)) (H.size _)) ?_
    refine s_val (v_move (v := .int .i64 _) rfl) ?_
    refine s_callG (by kernel_rfl) (houseF_mono _ _ _ _) (fun w hw => g_Settle t.h t.ps n w (ho.pays.at hw) (by omega) ho.lc) (fun F40 v40 hF40 hR40 => ?_)
    obtain ⟨h40, rfl, hco40, hlc40, hpo40⟩ := hR40
    refine s_storeA (m := 42) (by kernel_rfl) rfl rfl (.there (.there .here)) (H.size _) (H.size _) (H.all1 _) ?_
    refine s_end ?_
    refine n_bnormal ?_
    refine n_then ?_
    refine r_list (by kernel_rfl) ?_
    refine s_val (v_add rfl rfl (by omega)) ?_
    refine s_val (v_move (v := .int .i64 _) rfl) ?_
    refine s_end ?_
    refine n_round (s := t) ⟨F40, h40, settleP t.ps n, t.k + 1⟩ ⟨_, ho.next hnn hnr hn hst hq (by have hm := h33; rw [ho.may hnr, hsrc] at hm; exact hm) hF40 hco40 hlc40 hpo40, live7 rfl rfl rfl rfl rfl rfl rfl⟩ (fun _ hw => hw.tail) (by dsimp only; omega)
  refine fw_seq (j0 := 4) (Ψ := (rowV 34 (.agg t.h.cells) (rowV 35 (.slice a12 (queueM ps bank).length c12) (rowV 36 (I t.k) (rowV 37 (.slice a12 ((t.k : Int)).toNat c12) (rowV 5 (.slice a12 ((t.k : Int)).toNat c12) AnyV)))))) (L' := [(b9, .cells p.cells 36), (b4, .cells t.h.cells 29), (b2, .cells t.h.cells 29)]) (by kernel_rfl) (by kernel_rfl) (by kernel_rfl) rfl ⟨?_, ?_, ?_, ?_, ?_, trivial⟩ ⟨?_, ?_, ?_, ?_, ?_, trivial⟩ ?_ ?_
  · refine obw_val (v := .agg t.h.cells) (fun g hl => ?_)
    have e2 : g 2 = .pointer (some ⟨b2, 0, none⟩) := (hl 2 (of_decide_eq_true (by kernel_rfl))).2 (of_decide_eq_true (by kernel_rfl))
    exact ⟨v_loadA (m := 42) (by kernel_rfl) e2 (.there (.there .here)) (H.size _), rfl⟩
  · refine obw_val (v := .slice a12 (queueM ps bank).length c12) (fun g hl => ?_)
    have e6 : g 6 = .slice a12 (queueM ps bank).length c12 := (hl 6 (of_decide_eq_true (by kernel_rfl))).2 (of_decide_eq_true (by kernel_rfl))
    exact ⟨v_move (v := .slice a12 (queueM ps bank).length c12) e6, rfl⟩
  · refine obw_val (v := I t.k) (fun g hl => ?_)
    have e7 : g 7 = I t.k := (hl 7 (of_decide_eq_true (by kernel_rfl))).2 (of_decide_eq_true (by kernel_rfl))
    exact ⟨v_move (v := I t.k) e7, rfl⟩
  · refine obw_val (v := .slice a12 ((t.k : Int)).toNat c12) (fun g hl => ?_)
    have e35 : g 35 = .slice a12 (queueM ps bank).length c12 := (hl 35 (of_decide_eq_true (by kernel_rfl))).1 (of_decide_eq_true (by kernel_rfl))
    have e36 : g 36 = I t.k := (hl 36 (of_decide_eq_true (by kernel_rfl))).1 (of_decide_eq_true (by kernel_rfl))
    exact ⟨v_sliceHi (m := 1) (by kernel_rfl) e35 e36 ⟨by omega, by omega⟩, rfl⟩
  · refine obw_val (v := .slice a12 ((t.k : Int)).toNat c12) (fun g hl => ?_)
    have e37 : g 37 = .slice a12 ((t.k : Int)).toNat c12 := (hl 37 (of_decide_eq_true (by kernel_rfl))).1 (of_decide_eq_true (by kernel_rfl))
    exact ⟨v_assign (v := .slice a12 ((t.k : Int)).toNat c12) e37, rfl⟩
  · refine obw_val (v := .agg t.h.cells) (fun g hl => ?_)
    have e2 : g 2 = .pointer (some ⟨b2, 0, none⟩) := (hl 2 (of_decide_eq_true (by kernel_rfl))).2 (of_decide_eq_true (by kernel_rfl))
    exact ⟨v_loadA (m := 42) (by kernel_rfl) e2 (.there (.there .here)) (H.size _), rfl⟩
  · refine obw_val (v := .slice a12 (queueM ps bank).length c12) (fun g hl => ?_)
    have e6 : g 6 = .slice a12 (queueM ps bank).length c12 := (hl 6 (of_decide_eq_true (by kernel_rfl))).2 (of_decide_eq_true (by kernel_rfl))
    exact ⟨v_move (v := .slice a12 (queueM ps bank).length c12) e6, rfl⟩
  · refine obw_val (v := I t.k) (fun g hl => ?_)
    have e7 : g 7 = I t.k := (hl 7 (of_decide_eq_true (by kernel_rfl))).2 (of_decide_eq_true (by kernel_rfl))
    exact ⟨v_move (v := I t.k) e7, rfl⟩
  · refine obw_val (v := .slice a12 ((t.k : Int)).toNat c12) (fun g hl => ?_)
    have e35 : g 35 = .slice a12 (queueM ps bank).length c12 := (hl 35 (of_decide_eq_true (by kernel_rfl))).1 (of_decide_eq_true (by kernel_rfl))
    have e36 : g 36 = I t.k := (hl 36 (of_decide_eq_true (by kernel_rfl))).1 (of_decide_eq_true (by kernel_rfl))
    exact ⟨v_sliceHi (m := 1) (by kernel_rfl) e35 e36 ⟨by omega, by omega⟩, rfl⟩
  · refine obw_val (v := .slice a12 ((t.k : Int)).toNat c12) (fun g hl => ?_)
    have e37 : g 37 = .slice a12 ((t.k : Int)).toNat c12 := (hl 37 (of_decide_eq_true (by kernel_rfl))).1 (of_decide_eq_true (by kernel_rfl))
    exact ⟨v_assign (v := .slice a12 ((t.k : Int)).toNat c12) e37, rfl⟩
  · intro g hl
    have e4 : g 4 = .pointer (some ⟨b4, 0, none⟩) := (hl 4 (of_decide_eq_true (by kernel_rfl))).2 (of_decide_eq_true (by kernel_rfl))
    have e34 : g 34 = .agg t.h.cells := (hl 34 (of_decide_eq_true (by kernel_rfl))).1 (of_decide_eq_true (by kernel_rfl))
    refine ⟨rfl, ?_⟩
    refine s_storeA (m := 42) (by kernel_rfl) e4 e34 (.there .here) (H.size _) (H.size _) (H.all1 _) ?_
    exact ow_end
  intro g hd he
  have e4 : g 4 = .pointer (some ⟨b4, 0, none⟩) := he 4 (of_decide_eq_true (by kernel_rfl))
  have e5 : g 5 = .slice a12 ((t.k : Int)).toNat c12 := hd 5 (of_decide_eq_true (by kernel_rfl))
  obtain ⟨g1, hg1⟩ : ∃ g1, g = (upd (upd g1 4 (.pointer (some ⟨b4, 0, none⟩))) 5 (.slice a12 ((t.k : Int)).toNat c12)) := ⟨g, live2 e4 e5⟩
  rw [hg1]
  refine c_ret ?_
  refine n_ret ?_
  refine n_bret ?_
  refine n_ret ?_
  refine n_ret ?_
  refine n_bret ?_
  refine n_ret ?_
  refine n_done2F (m := 42) rfl (by decide) (by decide) rfl (by kernel_rfl) (.there .here) (H.size _) (fun w hw => ?_)
  exact ho.done (firstM_no hq hpn (by have hm := h33; rw [ho.may hnr, hsrc] at hm; exact hm)) hw ia12 (by omega)

end Go.Proofs.Ytmkboljfbmlebaa
/- Contract of the sweep. Condition: the payments lie in memory that is known. -/
namespace Go.Proofs.Ytmkboljfbmlebaa
open Go.RowKit
set_option linter.unusedSimpArgs false
set_option linter.unusedVariables false
set_option maxRecDepth 100000
attribute [local irreducible] cC sC nC rC qw

theorem g_Sweep (h : H) (ps : List PayS) (w : World) (hp : PaysIn (At w) h.pa h.pl ps) (hb : h.pl * 48 ≤ 281474976710656) (hlc : h.pl ≤ h.pc) : GivesF Try.prog 32 [.agg h.cells] w (SweepF h ps (sweepM h.core ps)) := by
  refine givesF_of Try.func32 rfl Try.ntmps32 (by simp) ?_
  refine r_seq (by kernel_rfl) ?_
  refine s_box (v := .agg _) rfl (fun b1 => ?_)
  refine s_alloc (z := .agg zeroH.cells) (by kernel_rfl) (fun b2 => ?_)
  refine s_val (v_assign (v := .slice _ _ _) rfl) ?_
  refine s_nil ?_
  refine c_seq ?_
  refine r_seq (by kernel_rfl) ?_
  refine s_val (v_loadA (m := 42) (by kernel_rfl) rfl (.there .here) (H.size _)) ?_
  refine s_call (by kernel_rfl) (fun w hw => g_Good _ ps w (hp.at hw)) ?_
  refine s_val (v_not rfl) ?_
  refine s_nil ?_
  refine c_condN rfl rfl (fun h10 => ?_) (fun h10 => ?_)
  · refine r_seq (by kernel_rfl) ?_
    refine s_val (v_loadA (m := 42) (by kernel_rfl) rfl (.there .here) (H.size _)) ?_
    refine s_storeA (m := 42) (by kernel_rfl) rfl rfl .here (H.size _) (H.size _) (H.all1 _) ?_
    refine s_val (v_assign (v := .slice _ _ _) rfl) ?_
    refine s_nil ?_
    refine c_ret ?_
    refine n_ret ?_
    refine n_done2F (m := 42) rfl (by decide) (by decide) rfl (by kernel_rfl) .here (H.size _) (fun w hw => ?_)
    have hg : goodB h.core ps = false := h10
    simp only [sweepM, hg, cond_false]
    exact ⟨_, _, rfl, ⟨h, rfl, rfl, hlc, .inl ⟨rfl, rfl, rfl⟩⟩, none, 0, rfl, .inl rfl⟩
  refine c_skip ?_
  refine n_then ?_
  have hg : goodB h.core ps = true := h10
  have hl24 := (good_pays hg).2.2
  have hpl := hp.1
  refine r_seq (by kernel_rfl) ?_
  refine s_val (v_assign (v := .slice _ _ _) rfl) ?_
  refine s_nil ?_
  refine c_block ?_
  refine c_loop (σ := SwG) (fun (s : SwG) f => ∃ g, (SpOk w h ps 3 s ∧ s.bank = 0) ∧ f = (upd (upd (upd g 1 (.pointer (some ⟨b1, 0, none⟩))) 2 (.pointer (some ⟨b2, 0, none⟩))) 4 (s.v))) (fun (s : SwG) => Has w s.F (s.E ++ [(b2, .cells zeroH.cells 29), (b1, .cells s.h.cells 29)])) (fun (s : SwG) => cnt s.ps) ⟨At w, h, ps, [], .slice none 0 0, [], 0, 0⟩ ⟨_, ⟨sp_start hp hlc hg, rfl⟩, live3 rfl rfl rfl⟩ (fun w hw => hw) ?_
  rintro s _ ⟨g, ⟨hok0, hb0⟩, rfl⟩
  refine c_block ?_
  obtain ⟨a4, c4, hv4⟩ := hok0.sw.list.shape
  have hsum0 := hok0.sw.sum
  refine r_seq (by kernel_rfl) ?_
  refine s_val (v_move (v := _) rfl) ?_
  refine s_val (v_lenS (T := 43) (m := 1) (by kernel_rfl) rfl (show s.v = _ from hv4)) ?_
  refine s_val (v_assign (v := .int .i64 _) rfl) ?_
  refine s_nil ?_
  refine c_seq ?_
  refine r_seq (by kernel_rfl) ?_
  refine s_val (v_move (v := .int .i64 _) rfl) ?_
  refine s_nil ?_
  refine c_block ?_
  refine c_loop (σ := SwG) (fun (t : SwG) f => ∃ g, (SpOk w h ps 3 t ∧ t.bank ≤ 4 ∧ s.xs.length ≤ t.xs.length ∧ (t.xs.length = s.xs.length → t.bank ≤ t.idle) ∧ t.xs.length + cnt t.ps = s.xs.length + cnt s.ps) ∧ f = (upd (upd (upd (upd (upd g 1 (.pointer (some ⟨b1, 0, none⟩))) 2 (.pointer (some ⟨b2, 0, none⟩))) 4 (t.v)) 5 (I s.xs.length)) 14 (I t.bank))) (fun (t : SwG) => Has w t.F (t.E ++ [(b2, .cells zeroH.cells 29), (b1, .cells t.h.cells 29)])) (fun (t : SwG) => 4 - t.bank) ⟨s.F, s.h, s.ps, s.xs, s.v, s.E, 0, s.idle⟩ ⟨_, ⟨⟨⟨hok0.sw.pays, hok0.sw.out, hok0.sw.len, hok0.sw.lc, hok0.sw.list, hok0.sw.sum⟩, hok0.seqs, hok0.good, hok0.near, hok0.cl, hok0.i4, show sweepFrom 0 s.idle s.q = sweepM h.core ps by have e := hok0.goes; rw [hb0] at e; exact e⟩, Nat.zero_le _, Nat.le_refl _, fun _ => Nat.zero_le _, rfl⟩, live5 rfl rfl rfl rfl rfl⟩ (fun w hw => hw) ?_
  rintro t _ ⟨g, ⟨hok, hb4, hxl, hid, hcx⟩, rfl⟩
  refine r_seq (by kernel_rfl) ?_
  refine s_val (v_lss (k := .i64) rfl rfl) ?_
  refine s_nil ?_
  refine c_seq ?_
  refine c_condR rfl rfl (fun h15 => ?_) (fun h15 => ?_)
  · have hk4 : t.bank = 4 := by have := of_decide_eq_false h15; omega
    obtain ⟨a5, c5, hv5⟩ := hok.sw.list.shape
    refine c_exit ?_
    refine n_exit ?_
    refine n_exit ?_
    refine n_bhere ?_
    refine n_then ?_
    refine r_seq (by kernel_rfl) ?_
    refine s_val (v_move (v := _) rfl) ?_
    refine s_val (v_lenS (T := 43) (m := 1) (by kernel_rfl) rfl (show t.v = _ from hv5)) ?_
    refine s_val (v_move (v := .int .i64 _) rfl) ?_
    refine s_val (v_eql (k := .i64) rfl rfl) ?_
    refine s_nil ?_
    refine c_condR rfl rfl (fun h30 => ?_) (fun h30 => ?_)
    · refine c_skip ?_
      refine n_bnormal ?_
      refine n_round (s := s) ⟨t.F, t.h, t.ps, t.xs, t.v, t.E, 0, t.idle⟩ ⟨_, ⟨⟨⟨hok.sw.pays, hok.sw.out, hok.sw.len, hok.sw.lc, hok.sw.list, hok.sw.sum⟩, hok.seqs, hok.good, hok.near, hok.cl, hok.i4, show sweepFrom 0 t.idle t.q = sweepM h.core ps by have e := hok.goes; rw [hk4] at e; exact e⟩, rfl⟩, live3 rfl rfl rfl⟩ (fun _ hw => hw) (by have := of_decide_eq_false h30; dsimp only; omega)
    refine r_seq (by kernel_rfl) ?_
    refine s_val (v_loadA (m := 42) (by kernel_rfl) rfl (.app (.there .here)) (H.size _)) ?_
    refine s_val (v_move (v := _) rfl) ?_
    refine s_storeA (m := 42) (by kernel_rfl) rfl rfl (.app .here) (H.size _) (H.size _) (H.all1 _) ?_
    refine s_val (v_assign (v := _) rfl) ?_
    refine s_nil ?_
    refine c_ret ?_
    refine n_bret ?_
    refine n_ret ?_
    refine n_bret ?_
    refine n_done2F (m := 42) rfl (by decide) (by decide) rfl (by kernel_rfl) (.app .here) (H.size _) (fun w hw => ?_)
    have hx := of_decide_eq_true h30
    have hi4 : ¬ t.idle < 4 := by have := hid (by omega); omega
    have e := hok.goes
    rw [sweep_end hi4] at e
    rw [← e]
    exact hok.sw.done hw
  have hk4 : t.bank < 4 := by have := of_decide_eq_true h15; omega
  have hsum := hok.sw.sum
  have hcl := hok.cl
  have hlent := hok.sw.len
  have hlp := hok.sw.pays.1
  refine c_skip ?_
  refine n_then ?_
  refine c_seq ?_
  refine c_block ?_
  refine r_seq (by kernel_rfl) ?_
  refine s_val (v_move (v := .int .i64 _) rfl) ?_
  refine s_val (v_assign (v := .int .i64 _) rfl) ?_
  refine s_nil ?_
  refine r_seq (by kernel_rfl) ?_
  refine s_val (v_assign (v := .slice _ _ _) rfl) ?_
  refine s_nil ?_
  refine r_seq (by kernel_rfl) ?_
  refine s_val (v_loadA (m := 42) (by kernel_rfl) rfl (.app (.there .here)) (H.size _)) ?_
  refine s_val (v_move (v := .int .i64 _) rfl) ?_
  refine s_callG (by kernel_rfl) (sweepF_mono _ _ _) (fun w hw => g_sweepBank t.h t.ps (t.bank : Int) ((ps.length : Int) - cnt t.ps) w (hok.sw.pays.at hw) (by omega) hok.sw.lc hok.seqs hok.good (by omega) (by omega) (by omega) hok.near) (fun F20 v20 hF20 hR20 => ?_)
  obtain ⟨v1, v2, rfl, ⟨h20, rfl, hc20, hl20, ho20⟩, hi20⟩ := hR20
  obtain ⟨a20, c20, rfl, ia20⟩ := hi20.at
  have hdf := drain_facts (t.bank : Int) ⟨t.h.core, t.ps, []⟩
  simp only [List.length_nil, Nat.zero_add] at hdf
  refine s_val (v_move (v := .tuple _) rfl) ?_
  refine s_val (v_extract rfl rfl) ?_
  refine s_val (v_extract rfl rfl) ?_
  refine s_storeA (m := 42) (by kernel_rfl) rfl rfl (.app (.there .here)) (H.size _) (H.size _) (H.all1 _) ?_
  refine s_val (v_assign (v := .slice _ _ _) rfl) ?_
  refine s_nil ?_
  refine r_list (by kernel_rfl) ?_
  refine s_val (v_move (v := _) rfl) ?_
  refine s_val (v_move (v := .slice _ _ _) rfl) ?_
  refine s_pushAll (e := 3) (by_ := 8) (by kernel_rfl) rfl rfl rfl rfl hok.sw.list (ia20.mono (more_young _ _)) (by omega) (fun v25 E25 hE25 => ?_)
  obtain ⟨i25, hok25, hid25⟩ := hok.step hg hl24 hk4 hF20 hc20 hl20 ho20 hE25
  refine s_val (v_assign (v := _) rfl) ?_
  refine s_end ?_
  refine n_bnormal ?_
  refine n_then ?_
  refine r_list (by kernel_rfl) ?_
  refine s_val (v_add rfl rfl (by omega)) ?_
  refine s_val (v_move (v := .int .i64 _) rfl) ?_
  refine s_end ?_
  refine n_round (s := t) ⟨F20, h20, (drain t.bank ⟨t.h.core, t.ps, []⟩).ps, t.xs ++ (drain t.bank ⟨t.h.core, t.ps, []⟩).xs, v25, E25, t.bank + 1, i25⟩ ⟨_, ⟨hok25, hk4, by rw [List.length_append]; omega, fun e => by
      have e0 : (t.xs ++ (drain t.bank ⟨t.h.core, t.ps, []⟩).xs).length = t.xs.length + (drain t.bank ⟨t.h.core, t.ps, []⟩).xs.length := List.length_append
      have e1 := hid25 (by dsimp only at e ⊢; omega)
      have e2 := hid (by dsimp only at e; omega)
      have := hok.i4
      dsimp only
      omega, by dsimp only; rw [List.length_append]; omega⟩, live5 rfl rfl rfl rfl rfl⟩ (fun _ hw => hw) (by dsimp only; omega)

end Go.Proofs.Ytmkboljfbmlebaa
/- Contracts of queues. No condition. -/
namespace Go.Proofs.Ytmkboljfbmlebaa
open Go.RowKit
set_option linter.unusedSimpArgs false
set_option linter.unusedVariables false
set_option maxRecDepth 100000
attribute [local irreducible] cC sC nC rC qw

set_option maxHeartbeats 1000000 in
theorem gl_queues  (w : World) : Gives Try.prog 35 [] w (.bool true) := by
  refine gives_of Try.func35 rfl Try.ntmps35 (by simp) ?_
  refine r_seq (by kernel_rfl) ?_
  refine s_val (v_assign (v := .bool _) rfl) ?_
  refine s_nil ?_
  refine r_seq (by kernel_rfl) ?_
  refine s_call (by kernel_rfl) (fun w hw => g_New w) ?_
  refine s_alloc (z := .agg zeroH.cells) (by kernel_rfl) (fun b1 => ?_)
  refine s_storeA (m := 42) (by kernel_rfl) rfl rfl .here (H.size _) (H.size _) (H.all1 _) ?_
  refine s_nil ?_
  refine r_seq (by kernel_rfl) ?_
  refine s_val (v_field (fo := 0) (by kernel_rfl) rfl) ?_
  refine s_val (v_idxA (len := 4) (size := 2) (k := .i64) (by kernel_rfl) rfl rfl (by decide)) ?_
  refine s_val (v_field (fo := 0) (by kernel_rfl) rfl) ?_
  refine s_store1 (v := .int .i64 _) (by kernel_rfl) rfl rfl .here (H.set_has _ (by decide)) rfl ?_
  refine s_val (v_field (fo := 41) (by kernel_rfl) rfl) ?_
  refine s_store1 (v := .int .i64 _) (by kernel_rfl) rfl rfl .here (H.set_next _) rfl ?_
  refine s_nil ?_
  refine r_seq (by kernel_rfl) ?_
  refine s_val (v_build (vs := [(1, .int .i64 _), (2, .int .i64 _), (4, .int .i64 _), (5, .int .i64 _)]) (cs := PayS.cells ⟨0, 1, 9, 0, 1, 1⟩) rfl (by kernel_rfl)) ?_
  refine s_val (v_build (vs := [(0, .int .i64 _), (1, .int .i64 _), (2, .int .i64 _), (4, .int .i64 _)]) (cs := PayS.cells ⟨1, 2, 4, 0, 1, 0⟩) rfl (by kernel_rfl)) ?_
  refine s_buildS (e := 36) (vs := [(0, .agg _), (1, .agg _)]) (cs := (flatC qPays).toArray) rfl (by kernel_rfl) (fun b11 => ?_)
  refine s_val (v_field (fo := 40) (by kernel_rfl) rfl) ?_
  refine s_store1 (v := .slice _ _ _) (by kernel_rfl) rfl rfl (.there .here) (H.set_pays _) rfl ?_
  refine s_nil ?_
  refine c_forget (E := [_]) (L := [_]) (fun F1 hF1 hK1 => ?_)
  have hpq : PaysIn F1 (some ⟨b11, 0, none⟩) 2 qPays := PaysE.known (pc := 2) ⟨rfl, by decide, .inr ⟨b11, _, _, rfl, rfl, rfl, cellsOf_flat _⟩⟩ hK1
  refine r_seq (by kernel_rfl) ?_
  refine s_val (v_loadA (m := 42) (by kernel_rfl) rfl .here (H.size _)) ?_
  refine s_callG (by kernel_rfl) (sweepF_mono _ _ _) (fun w hw => g_Sweep (qHouse (some ⟨b11, 0, none⟩)) qPays w (hpq.at hw) (show 2 * 48 ≤ 281474976710656 by decide) (show 2 ≤ 2 by decide)) (fun F15 v15 hF15 hR15 => ?_)
  obtain ⟨v1, v2, rfl, ⟨h15, rfl, hc15, hl15, ho15⟩, hi15⟩ := hR15
  obtain ⟨a15, c15, rfl, ia15⟩ := hi15.at
  refine s_val (v_move (v := .tuple _) rfl) ?_
  refine s_val (v_extract rfl rfl) ?_
  refine s_val (v_extract rfl rfl) ?_
  refine s_alloc (z := .agg zeroH.cells) (by kernel_rfl) (fun b2 => ?_)
  refine s_storeA (m := 42) (by kernel_rfl) rfl rfl .here (H.size _) (H.size _) (H.all1 _) ?_
  refine s_val (v_assign (v := .slice _ _ _) rfl) ?_
  refine s_nil ?_
  have hhas : h15.has 1 = 5 := (congrFun (show h15.core.has = _ from congrArg H.has hc15) 1).trans qSweep_has
  have p15 := outPays (F' := F15) (h0 := qHouse (some ⟨b11, 0, none⟩)) hpq hF15 (more_young _ _) ho15
  have hpl : h15.pl = 2 := p15.1.symm.trans (sweepM_len _ _).1
  refine r_seq (by kernel_rfl) ?_
  refine s_val (v_move (v := .slice _ _ _) rfl) ?_
  refine s_val (v_lenS (T := 43) (m := 1) (by kernel_rfl) rfl rfl) ?_
  refine s_val (v_eql (k := .i64) rfl rfl) ?_
  refine s_val (v_move (v := .bool _) rfl) ?_
  refine s_want rfl rfl (decide_eq_true (congrArg (Nat.cast : Nat → Int) qSweep_len)) ?_
  refine s_val (v_field (fo := 0) (by kernel_rfl) rfl) ?_
  refine s_want rfl rfl (decide_eq_true (congrArg (Nat.cast : Nat → Int) qSweep_len)) ?_
  refine s_val (v_idxA (len := 4) (size := 2) (k := .i64) (by kernel_rfl) rfl rfl (by decide)) ?_
  refine s_want rfl rfl (decide_eq_true (congrArg (Nat.cast : Nat → Int) qSweep_len)) ?_
  refine s_val (v_field (fo := 0) (by kernel_rfl) rfl) ?_
  refine s_want rfl rfl (decide_eq_true (congrArg (Nat.cast : Nat → Int) qSweep_len)) ?_
  refine s_val (v_load1 (v := .int .i64 _) (by kernel_rfl) rfl .here (H.at_has _ (by decide))) ?_
  refine s_want rfl rfl (decide_eq_true (congrArg (Nat.cast : Nat → Int) qSweep_len)) ?_
  refine s_val (v_eql (k := .i64) rfl rfl) ?_
  refine s_val (v_pickT (v := .bool _) rfl (decide_eq_true (congrArg (Nat.cast : Nat → Int) qSweep_len)) rfl) ?_
  refine s_val (v_move (v := .bool _) rfl) ?_
  refine s_want rfl rfl (decide_eq_true hhas) ?_
  refine s_val (v_loadA (m := 42) (by kernel_rfl) rfl .here (H.size _)) ?_
  refine s_want rfl rfl (decide_eq_true hhas) ?_
  refine s_callF (by kernel_rfl) (fun w hw => g_Of h15 _ 0 w (p15.at hw) (by rw [hpl]; decide) hl15 (sweepM_seqs qPays_seqs) (.inl (by decide))) (fun F30 v30 E30 hF30 hK30 hR30 => ?_)
  obtain ⟨a30, c30, rfl, ia30⟩ := (ints_of_list hR30 hK30).at
  refine s_want rfl rfl (decide_eq_true hhas) ?_
  refine s_val (v_lenS (T := 43) (m := 1) (by kernel_rfl) rfl rfl) ?_
  refine s_want rfl rfl (decide_eq_true hhas) ?_
  refine s_val (v_eql (k := .i64) rfl rfl) ?_
  refine s_val (v_pickT (v := .bool _) rfl (decide_eq_true hhas) rfl) ?_
  refine s_val (v_assign (v := .bool _) rfl) ?_
  refine s_nil ?_
  refine c_ret ?_
  refine n_done rfl (by decide) (Eq.trans (b := .bool _) rfl (congrArg Value.bool ?_))
  exact decide_eq_true (congrArg (fun l : List Int => (l.length : Int)) qSweep_rest)

set_option maxHeartbeats 1000000 in
theorem gk_queues  (w : World) : Gives Try.prog 40 [] w (.bool true) := by
  refine gives_of Try.func40 rfl Try.ntmps40 (by simp) ?_
  refine r_seq (by kernel_rfl) ?_
  refine s_val (v_assign (v := .bool _) rfl) ?_
  refine s_nil ?_
  refine r_seq (by kernel_rfl) ?_
  refine s_call (by kernel_rfl) (fun w hw => g_New w) ?_
  refine s_alloc (z := .agg zeroH.cells) (by kernel_rfl) (fun b1 => ?_)
  refine s_storeA (m := 42) (by kernel_rfl) rfl rfl .here (H.size _) (H.size _) (H.all1 _) ?_
  refine s_nil ?_
  refine r_seq (by kernel_rfl) ?_
  refine s_val (v_field (fo := 0) (by kernel_rfl) rfl) ?_
  refine s_val (v_idxA (len := 4) (size := 2) (k := .i64) (by kernel_rfl) rfl rfl (by decide)) ?_
  refine s_val (v_field (fo := 0) (by kernel_rfl) rfl) ?_
  refine s_store1 (v := .int .i64 _) (by kernel_rfl) rfl rfl .here (H.set_has _ (by decide)) rfl ?_
  refine s_val (v_field (fo := 41) (by kernel_rfl) rfl) ?_
  refine s_store1 (v := .int .i64 _) (by kernel_rfl) rfl rfl .here (H.set_next _) rfl ?_
  refine s_nil ?_
  refine r_seq (by kernel_rfl) ?_
  refine s_val (v_build (vs := [(1, .int .i64 _), (2, .int .i64 _), (4, .int .i64 _), (5, .int .i64 _)]) (cs := PayS.cells ⟨0, 1, 9, 0, 1, 1⟩) rfl (by kernel_rfl)) ?_
  refine s_val (v_build (vs := [(0, .int .i64 _), (1, .int .i64 _), (2, .int .i64 _), (4, .int .i64 _)]) (cs := PayS.cells ⟨1, 2, 4, 0, 1, 0⟩) rfl (by kernel_rfl)) ?_
  refine s_buildS (e := 36) (vs := [(0, .agg _), (1, .agg _)]) (cs := (flatC qPays).toArray) rfl (by kernel_rfl) (fun b11 => ?_)
  refine s_val (v_field (fo := 40) (by kernel_rfl) rfl) ?_
  refine s_store1 (v := .slice _ _ _) (by kernel_rfl) rfl rfl (.there .here) (H.set_pays _) rfl ?_
  refine s_nil ?_
  refine c_forget (E := [_]) (L := [_]) (fun F1 hF1 hK1 => ?_)
  have hpq : PaysIn F1 (some ⟨b11, 0, none⟩) 2 qPays := PaysE.known (pc := 2) ⟨rfl, by decide, .inr ⟨b11, _, _, rfl, rfl, rfl, cellsOf_flat _⟩⟩ hK1
  refine r_seq (by kernel_rfl) ?_
  refine s_val (v_loadA (m := 42) (by kernel_rfl) rfl .here (H.size _)) ?_
  refine s_callG (by kernel_rfl) (sweepF_mono _ _ _) (fun w hw => g_Sweep (qHouse (some ⟨b11, 0, none⟩)) qPays w (hpq.at hw) (show 2 * 48 ≤ 281474976710656 by decide) (show 2 ≤ 2 by decide)) (fun F15 v15 hF15 hR15 => ?_)
  obtain ⟨v1, v2, rfl, ⟨h15, rfl, hc15, hl15, ho15⟩, hi15⟩ := hR15
  obtain ⟨a15, c15, rfl, ia15⟩ := hi15.at
  refine s_val (v_move (v := .tuple _) rfl) ?_
  refine s_val (v_extract rfl rfl) ?_
  refine s_val (v_extract rfl rfl) ?_
  refine s_alloc (z := .agg zeroH.cells) (by kernel_rfl) (fun b2 => ?_)
  refine s_storeA (m := 42) (by kernel_rfl) rfl rfl .here (H.size _) (H.size _) (H.all1 _) ?_
  refine s_val (v_assign (v := .slice _ _ _) rfl) ?_
  refine s_nil ?_
  have hhas : h15.has 1 = 5 := (congrFun (show h15.core.has = _ from congrArg H.has hc15) 1).trans qSweep_has
  have p15 := outPays (F' := F15) (h0 := qHouse (some ⟨b11, 0, none⟩)) hpq hF15 (more_young _ _) ho15
  have hpl : h15.pl = 2 := p15.1.symm.trans (sweepM_len _ _).1
  refine r_seq (by kernel_rfl) ?_
  refine s_val (v_move (v := .slice _ _ _) rfl) ?_
  refine s_val (v_lenS (T := 43) (m := 1) (by kernel_rfl) rfl rfl) ?_
  refine s_val (v_eql (k := .i64) rfl rfl) ?_
  refine s_val (v_move (v := .bool _) rfl) ?_
  refine s_want rfl rfl (decide_eq_true (congrArg (Nat.cast : Nat → Int) qSweep_len)) ?_
  refine s_val (v_field (fo := 0) (by kernel_rfl) rfl) ?_
  refine s_want rfl rfl (decide_eq_true (congrArg (Nat.cast : Nat → Int) qSweep_len)) ?_
  refine s_val (v_idxA (len := 4) (size := 2) (k := .i64) (by kernel_rfl) rfl rfl (by decide)) ?_
  refine s_want rfl rfl (decide_eq_true (congrArg (Nat.cast : Nat → Int) qSweep_len)) ?_
  refine s_val (v_field (fo := 0) (by kernel_rfl) rfl) ?_
  refine s_want rfl rfl (decide_eq_true (congrArg (Nat.cast : Nat → Int) qSweep_len)) ?_
  refine s_val (v_load1 (v := .int .i64 _) (by kernel_rfl) rfl .here (H.at_has _ (by decide))) ?_
  refine s_want rfl rfl (decide_eq_true (congrArg (Nat.cast : Nat → Int) qSweep_len)) ?_
  refine s_val (v_eql (k := .i64) rfl rfl) ?_
  refine s_val (v_pickT (v := .bool _) rfl (decide_eq_true (congrArg (Nat.cast : Nat → Int) qSweep_len)) rfl) ?_
  refine s_val (v_move (v := .bool _) rfl) ?_
  refine s_want rfl rfl (decide_eq_true hhas) ?_
  refine s_val (v_loadA (m := 42) (by kernel_rfl) rfl .here (H.size _)) ?_
  refine s_want rfl rfl (decide_eq_true hhas) ?_
  refine s_callF (by kernel_rfl) (fun w hw => g_Of h15 _ 0 w (p15.at hw) (by rw [hpl]; decide) hl15 (sweepM_seqs qPays_seqs) (.inl (by decide))) (fun F30 v30 E30 hF30 hK30 hR30 => ?_)
  obtain ⟨a30, c30, rfl, ia30⟩ := (ints_of_list hR30 hK30).at
  refine s_want rfl rfl (decide_eq_true hhas) ?_
  refine s_val (v_lenS (T := 43) (m := 1) (by kernel_rfl) rfl rfl) ?_
  refine s_want rfl rfl (decide_eq_true hhas) ?_
  refine s_val (v_eql (k := .i64) rfl rfl) ?_
  refine s_val (v_pickT (v := .bool _) rfl (decide_eq_true hhas) rfl) ?_
  refine s_val (v_assign (v := .bool _) rfl) ?_
  refine s_nil ?_
  refine c_ret ?_
  refine n_done rfl (by decide) (Eq.trans (b := .bool _) rfl (congrArg Value.bool ?_))
  exact decide_eq_true (congrArg (fun l : List Int => (l.length : Int)) qSweep_rest)

end Go.Proofs.Ytmkboljfbmlebaa
