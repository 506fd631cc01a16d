/- What knotUnties_holds stands on, part 2: each part says what it proves. No condition beside those that it names. -/
import Derived.Test.YtmkboljfbmlebaaPL81
import Derived.StillTail
import Derived.Laws.StructEq
import Derived.ChangeKeysEq
/- A region that draws its order, whose first operations only read or call quietly and whose last ones write, in a forced order. No condition. -/
namespace Go.Proofs.Ytmkboljfbmlebaa
open Go.RowKit
set_option linter.unusedSimpArgs false
set_option linter.unusedVariables false

section
variable {P : Program} {ops : Array Oper} {md : Region.Mode} {C : World → Prop}

/-- whatever order the first n operations come up in, L holds behind them -/
def qHead (P : Program) (md : Region.Mode) (ops : Array Oper) (C : World → Prop) (n : Nat) (L : Array Bool → Act → Prop) : Nat → Array Bool → Act → Prop
  | 0, s, a => L s a
  | m + 1, s, a => Region.ready md ops s ≠ [] ∧ ∀ i ∈ Region.ready md ops s, i < n ∧ qOp P ops C i (qHead P md ops C n L m (s.setIfInBounds i true)) a

theorem wpAny_of_qHead {n g : Nat} {L : Array Bool → Act → Prop} {Q : Exit → Act → World → Prop} (hL : ∀ s a w, C w → L s a → wpAny P md ops Q g s a w) :
    ∀ (m : Nat) (s : Array Bool) (a : Act) (w : World), C w → qHead P md ops C n L m s a → wpAny P md ops Q (m + g) s a w
  | 0, s, a, w, hw, h => by rw [Nat.zero_add]; exact hL s a w hw h
  | m + 1, s, a, w, hw, h => by
    rw [show m + 1 + g = (m + g) + 1 by omega]
    exact ⟨fun h0 => absurd h0 h.1, fun i hi => wpOp_of_qOp hw (fun a' w' hw' h' => wpAny_of_qHead hL m _ a' w' hw' h') (h.2 i hi).2⟩

theorem qHead_take {n i : Nat} {oi : Oper} {v : Value} {L : Array Bool → Act → Prop} (hi : ops[i]? = some oi) (hsel : ∀ (j : Nat) (o : Oper) cs b, ops[j]? = some o → o.op ≠ .select cs b)
    (hs : Region.sinkB md ops n = true) (hc : Region.chainB md ops n = true) (hn : n < ops.size) (hin : i < n)
    (hfin : ∀ s a, L s a → ∀ j ∈ Region.ready md ops s, n ≤ j) (m : Nat) :
    ∀ (s : Array Bool) (a : Act), HeadInv md ops n s →
      (∀ j oj, ops[j]? = some oj → j ≠ i → s.getD j true = false → (∀ e ∈ oj.after, Region.binds md e = true → e.on ≠ i) → oi.apart ops oj = true) →
      i ∈ Region.ready md ops s → YieldsIn P ops C oi v a →
      qHead P md ops C n L m (s.setIfInBounds i true) (a.put oi.dst v) → qHead P md ops C n L (m + 1) s a := by
  induction m with
  | zero =>
    intro s a inv _ hr hy hk
    have hun := (mem_ready.1 hr).1
    refine ⟨fun h => (by rw [h] at hr; cases hr), fun j hj => ?_⟩
    have hjn : j < n := Nat.lt_of_not_le fun h => tail_waits hs hc hn inv _ i rfl hin hun j h hj
    refine ⟨hjn, ?_⟩
    by_cases hji : j = i
    · subst hji; exact hy.qOp hi hk
    · have := hfin _ _ hk j (ready_mono hj hji)
      omega
  | succ m ih =>
    intro s a inv hfree hr hy hk
    have hun := (mem_ready.1 hr).1
    refine ⟨fun h => (by rw [h] at hr; cases hr), fun j hj => ?_⟩
    have hjn : j < n := Nat.lt_of_not_le fun h => tail_waits hs hc hn inv _ i rfl hin hun j h hj
    refine ⟨hjn, ?_⟩
    by_cases hji : j = i
    · subst hji; exact hy.qOp hi hk
    · obtain ⟨hjun, oj, hoj, hall⟩ := mem_ready.1 hj
      have hnot : ∀ e ∈ oj.after, Region.binds md e = true → e.on ≠ i := fun e he hb heq => by
        have := hall e he hb
        rw [heq, getD_both hun] at this
        cases this
      have h2 := qOp_put hoj (hfree j oj hoj hji hjun hnot) (fun cs b => hsel i oi cs b hi) (fun cs b => hsel j oj cs b hoj) hy (hk.2 j (ready_mono hj hji)).2
      refine qOp_mono (fun a' h3 => ih (s.setIfInBounds j true) a' (inv.set hj hjn) (fun k ok hk' hki hun' hno => ?_) (ready_mono hr (Ne.symm hji)) h3.1 ?_) h2
      · refine hfree k ok hk' hki ?_ hno
        by_cases hjk : j = k
        · subst hjk; exact hjun
        · rwa [getD_set_ne true hjk] at hun'
      · rw [Array.setIfInBounds_comm _ _ hji]
        exact h3.2

theorem qHead_lex {n g : Nat} {Lq : Act → Prop} (hsel : Region.noSelect ops = true) (hs : Region.sinkB md ops n = true) (hc : Region.chainB md ops n = true) (hn : n < ops.size) :
    ∀ (l : List Oper) (k : Nat) (s : Array Bool) (a : Act), (∀ j, j < l.length → l[j]? = ops[k + j]?) → k + l.length = n → HeadInv md ops n s →
    Region.lexHead md ops g l.length k s = true → wpQuiet P ops C Lq l a →
    qHead P md ops C n (fun s' a' => Region.seqB md ops g n s' = true ∧ Lq a') l.length s a
  | [], k, s, a, _, hk, _, hB, h => by
    have : k = n := by simpa using hk
    subst this
    exact ⟨by simpa [Region.lexHead] using hB, h⟩
  | o :: l, k, s, a, hl, hk, inv, hB, h => by
    have h0 : ops[k]? = some o := by simpa using (hl 0 (by simp)).symm
    simp only [List.length_cons, Region.lexHead, Bool.and_eq_true] at hB
    obtain ⟨⟨hr, hf⟩, hB'⟩ := hB
    simp only [List.length_cons] at hk
    have hkn : k < n := by omega
    have hr' : k ∈ Region.ready md ops s := by simpa using hr
    obtain ⟨v, hy, hK⟩ := yieldsIn_of_qOp (K := wpQuiet P ops C Lq l) h0 (by unfold qOp; simp only [h0]; exact h)
    refine qHead_take h0 (Region.noSelect_spec hsel) hs hc hn hkn (fun s' a' hL => seqB_ready hL.1) l.length s a inv (Region.free_spec h0 hf) hr' hy ?_
    exact qHead_lex hsel hs hc hn l (k + 1) _ _ (fun j hj => by
      have := hl (j + 1) (by simp; omega)
      simpa [Nat.add_assoc, Nat.add_comm 1 j] using this) (by omega) (inv.set hr' hkn) hB' hK

theorem wp_region_quiet_tail {id : Nat} {Q : Exit → Act → World → Prop} {a : Act} {w : World} {l : List Oper} (n : Nat) (hm : P.follows .mixedOrders = true) (hB : Region.lexTailB .any l.toArray n = true) (hC : C { w with drawn := w.drawn + 1 })
    (h : wpQuiet P l.toArray C (fun a' => ∀ w', C w' → wpList P l.toArray Q (l.drop n) a' w') (l.take n) a) : (Code.region id l.toArray true).wp P Q a w := by
  simp only [Region.lexTailB, Bool.and_eq_true, decide_eq_true_eq] at hB
  obtain ⟨⟨⟨⟨hsel, hn⟩, hs⟩, hc⟩, hlex⟩ := hB
  have hn' : n < l.length := by simpa using hn
  have e1 : (l.take n).length = n := by simp; omega
  have e2 : (l.drop n).length = l.toArray.size - n := by simp
  have inv0 : HeadInv .any l.toArray n (Array.replicate l.toArray.size false) :=
    ⟨by simp, fun j oj _ hl => (by rw [getD_replicate_false] at hl; cases hl), fun t _ ht => getD_in (by simpa using ht) (getD_replicate_false _ _)⟩
  have H := qHead_lex (md := .any) (g := l.toArray.size - n) hsel hs hc hn (l.take n) 0 _ a (fun j hj => by
    rw [e1] at hj
    simp [hj]) (by simpa using e1) inv0 (by rw [e1]; exact hlex) h
  refine wp_region_any hm ?_
  have := wpAny_of_qHead (Q := Q) (g := l.toArray.size - n) (fun s a' w' hw' hL => by
    have := wpAny_of_seq (md := .any) (Q' := Q) (l.drop n) n s a' w' (fun j => by simp [List.getElem?_drop]) (by rw [e2]; exact hL.1) (hL.2 w' hw')
    rwa [e2] at this) _ _ _ _ hC H
  rw [e1, show n + (l.toArray.size - n) = l.toArray.size by omega] at this
  exact this

variable {n : Nat} {Q : Exit → (Nat → Value) → World → Prop} {f : Nat → Value}
theorem t_list {id k : Nat} {l : List Oper} (hm : P.follows .mixedOrders = true) (hL : Region.lexTailB .any l.toArray k = true) (hC : ∀ w, C w → C w.drew) (hB : opsB n l.toArray = true)
    (h : qw P l.toArray C (fun f => sC P l.toArray (fun f w => Q .normal f w) (l.drop k) f C) (l.take k) f) : cC P n (.region id l.toArray true) Q f C :=
  fun w hw => wp_region_quiet_tail (C := C) k hm hL (hC w hw) (qw_wpQuiet (fun f hK w' hw' => sw_wpList (fun f w hq => ⟨f, rfl, hq⟩) (l.drop k) (by
      have : ∀ o ∈ l, operB n l.toArray o = true := by simpa [opsB] using hB
      exact List.all_eq_true.2 fun o ho => this o (List.mem_of_mem_drop ho)) f w' (hK w' hw')) (l.take k) (by
      have : ∀ o ∈ l, operB n l.toArray o = true := by simpa [opsB] using hB
      exact List.all_eq_true.2 fun o ho => this o (List.mem_of_mem_take ho)) f h)
theorem t_seq {id k : Nat} {l : List Oper} {y : Code} (hm : P.follows .mixedOrders = true) (hL : Region.lexTailB .any l.toArray k = true) (hC : ∀ w, C w → C w.drew) (hB : opsB n l.toArray = true)
    (h : qw P l.toArray C (fun f => sC P l.toArray (fun f w => cw P n y Q f w) (l.drop k) f C) (l.take k) f) : cC P n (.seq (.region id l.toArray true) y) Q f C :=
  c_seq (t_list hm hL hC hB h)
theorem q_tail {K : (Nat → Value) → World → Prop} {l : List Oper} (h : sC P ops K l f C) : qw P ops C (fun f => sC P ops K l f C) [] f := h
end

theorem n_doneC {P : Program} {fn : Func} {n t T b m ty : Nat} {fr : Nat × Nat} {cs : Array Value} {f : Nat → Value} {v : Value} {w0 : World} {F : Addr → Value → Prop} {L : List (Nat × Obj)} (hr : fn.results = #[.cell t T]) (ht : t < n) (hp : f t = .pointer (some ⟨b, 0, none⟩))
    (hT : aggB P T m = true) (hl : Look L b (.cells cs ty fr)) (hm : cs.size = m) (hv : .agg cs = v) : nC (retQ P fn n (fun v' w' => v' = v ∧ Bel w0.heap.size w0 w')) .ret f (Has w0 F L) := by
  intro w hw
  refine ⟨.agg cs, ?_, hv, hw.1⟩
  have e : (Fa n f).tmps[t]?.getD undef = f t := by simp [Fa, ht]
  subst hm
  have := run_loadN (P := P) (w := w) (b := b) (o := 0) (cs := cs.toList) (by simpa using hT) (fun j v hj => by
    rw [cell_has hw hl]; simpa using hj)
  simp only [Instr.loadAt, Instr.sureAddr, Sem.run_bind, Sem.run_pure, Result.andThen] at this
  simp [results, hr, e, hp, asAddr, this]
end Go.Proofs.Ytmkboljfbmlebaa
/- Maps from numbers to true that the call itself makes; slices of payments that came in. No condition. -/
namespace Go.Proofs.Ytmkboljfbmlebaa
open Go.RowKit
set_option linter.unusedSimpArgs false
set_option linter.unusedVariables false

/-! a set of numbers, in the order in which they came -/
def setE (ks : List Int) (n : Nat) : List MapEntry := match ks with
  | [] => []
  | k :: r => { key := I k, val := .bool true, born := n } :: setE r (n + 1)
def setO (ks : List Int) : Obj := .map (setE ks 0).toArray ks.length
theorem setE_snoc (k : Int) : ∀ (ks : List Int) (n : Nat), setE (ks ++ [k]) n = setE ks n ++ [{ key := I k, val := .bool true, born := n + ks.length }]
  | [], n => by simp [setE]
  | j :: r, n => by simp [setE, setE_snoc k r (n + 1)]; omega
theorem setO_snoc (ks : List Int) (k : Int) : Obj.map ((setE ks 0).toArray.push { key := I k, val := .bool true, born := ks.length }) (ks.length + 1) = setO (ks ++ [k]) := by
  simp [setO, setE_snoc]
theorem setE_find (x : Int) : ∀ (ks : List Int) (n i : Nat), (x ∉ ks → Instr.findNow (.int .i64) (I x) (setE ks n) i = some none) ∧ (x ∈ ks → ∃ j, Instr.findNow (.int .i64) (I x) (setE ks n) i = some (some (j, .bool true)))
  | [], n, i => by simp [setE, Instr.findNow]
  | k :: r, n, i => by
    have ih := setE_find x r (n + 1) (i + 1)
    by_cases e : x = k
    · subst e
      refine ⟨fun h => absurd List.mem_cons_self h, fun _ => ⟨i, ?_⟩⟩
      simp [setE, Instr.findNow, Instr.sameNow]
    · have e' : (x == k) = false := by simpa using e
      refine ⟨fun h => ?_, fun h => ?_⟩
      · simp only [setE, Instr.findNow, Instr.sameNow, if_true, e']
        exact ih.1 (fun hm => h (List.mem_cons_of_mem _ hm))
      · rcases List.mem_cons.1 h with h | h
        · exact absurd h e
        · simp only [setE, Instr.findNow, Instr.sameNow, if_true, e']
          exact ih.2 h

def setB (P : Program) (T : TypeId) : Bool := match P.underlying T with
  | some (.map k e) => (match P.underlying k with | some (.int .i64) => true | _ => false) && (match P.info? e with | some i => (match i.zero with | some (.bool false) => true | _ => false) | none => false)
  | _ => false
theorem setB_spec {P : Program} {T : TypeId} (h : setB P T = true) : ∃ k e, P.underlying T = some (.map k e) ∧ P.underlying k = some (.int .i64) ∧ ∀ w, (zeroValue e).run P w = .ok (.bool false) w := by
  unfold setB at h
  split at h
  · rename_i k e hu
    simp only [Bool.and_eq_true] at h
    obtain ⟨h1, h2⟩ := h
    refine ⟨k, e, hu, ?_, fun w => ?_⟩
    · split at h1
      · assumption
      · cases h1
    · split at h2
      · rename_i i hi
        split at h2
        · rename_i hz
          simp [zeroValue, typeInfo, hi, hz]
        · cases h2
      · cases h2
  · cases h

section
variable {P : Program} {ops : Array Oper} {K : (Nat → Value) → World → Prop} {rest : List Oper} {f : Nat → Value} {C : World → Prop}
  {d : Nat} {ty : TypeId} {pos : String} {af : Array Edge} {w0 : World} {F : Addr → Value → Prop} {L : List (Nat × Obj)} {dst : Option Nat} {gd : Option (Nat × Bool)}

theorem s_makeSet {T : TypeId} (kk : ∀ b, sC P ops K rest (upd f d (.map (some b))) (Has w0 F ((b, setO []) :: L))) :
    sC P ops K (⟨some d, .makeMap T none, ty, pos, af, none⟩ :: rest) f (Has w0 F L) := by
  intro w hw
  unfold sw
  rw [if_pos wanted_free]
  unfold opk
  have : (execOp (ev f) ⟨some d, .makeMap T none, ty, pos, af, none⟩).run P w = .ok (.value (.map (some w.heap.size))) (w.alloc (setO [])) := by
    simp [execOp, Instr.makeMap, newObj, Sem.run, setO, setE]
  rw [this]
  exact kk _ _ (hw.alloc _)
theorem v_setHas {T : TypeId} {x y : Operand} {b : Nat} {ks : List Int} {n : Int} (hT : setB P T = true) (hx : ev f x = .map (some b)) (hy : ev f y = .int .i64 n) (hl : Look L b (setO ks)) :
    Val P f (Has w0 F L) ⟨dst, .lookup T x y false, ty, pos, af, gd⟩ (.bool (decide (n ∈ ks))) :=
  ⟨fun w hw => by
    obtain ⟨k, e, h1, h2, h3⟩ := setB_spec hT
    have ho := hw.look hl
    unfold setO at ho
    have hg : (getObj b).run P w = .ok (.map (setE ks 0).toArray ks.length) w := by simp [getObj, Sem.run, ho]
    have hck : ∀ em, (Instr.checkKey em 10000 k (I n)).run P w = .ok () w := by intro em; unfold Instr.checkKey; simp [underlying, h2]
    by_cases hm : n ∈ ks
    · obtain ⟨j, hj⟩ := (setE_find n ks 0 0).2 hm
      have hk : (Instr.findKey k (I n) (setE ks 0)).run P w = .ok (some (j, .bool true)) w := by simp [Instr.findKey, underlying, h2, hj]
      simp [execOp, hx, hy, Instr.lookup, underlying, h1, hg, hck, hk, hm]
    · have hj := (setE_find n ks 0 0).1 hm
      have hk : (Instr.findKey k (I n) (setE ks 0)).run P w = .ok none w := by simp [Instr.findKey, underlying, h2, hj]
      simp [execOp, hx, hy, Instr.lookup, underlying, h1, hg, hck, hk, hm, h3]⟩
theorem s_setAdd {T : TypeId} {x y z : Operand} {b : Nat} {ks : List Int} {n : Int} {L' : List (Nat × Obj)} (hT : setB P T = true) (hx : ev f x = .map (some b)) (hy : ev f y = .int .i64 n) (hz : ev f z = .bool true)
    (ht : Turn L b (setO ks) (setO (ks ++ [n])) L') (hn : n ∉ ks) (kk : sC P ops K rest f (Has w0 F L')) :
    sC P ops K (⟨none, .mapUpdate T x y z, ty, pos, af, none⟩ :: rest) f (Has w0 F L) := by
  intro w hw
  unfold sw
  rw [if_pos wanted_free]
  unfold opk
  obtain ⟨k, e, h1, h2, h3⟩ := setB_spec hT
  have ho := hw.look ht.look
  have ho' := ho
  unfold setO at ho'
  have hg : (getObj b).run P w = .ok (.map (setE ks 0).toArray ks.length) w := by simp [getObj, Sem.run, ho']
  have hck : ∀ em, (Instr.checkKey em 10000 k (I n)).run P w = .ok () w := by intro em; unfold Instr.checkKey; simp [underlying, h2]
  have hj := (setE_find n ks 0 0).1 hn
  have hk : (Instr.findKey k (I n) (setE ks 0)).run P w = .ok none w := by simp [Instr.findKey, underlying, h2, hj]
  have hs : (setObj b (setO (ks ++ [n]))).run P w = .ok () { w with heap := w.heap.setIfInBounds b (setO (ks ++ [n])) } := by
    simp [setObj, Sem.run, ho']
  have : (execOp (ev f) ⟨none, .mapUpdate T x y z, ty, pos, af, none⟩).run P w = .ok .skip { w with heap := w.heap.setIfInBounds b (setO (ks ++ [n])) } := by
    rw [← setO_snoc] at hs
    rw [← setO_snoc]
    simp only [List.push_toArray] at hs ⊢
    simp [execOp, hx, hy, hz, Instr.mapUpdate, underlying, h1, hg, hck, hk, hs]
  rw [this]
  have hlt := (Array.getElem?_eq_some_iff.1 ho).1
  refine kk _ (hw.turn ht rfl rfl rfl (by simp) (by simp [hlt]) (fun j hj => ?_))
  have hj' : ¬ b = j := fun e => hj e.symm
  simp [hj']
end

/-! payments in memory that is known -/
def PaysIn (F : Addr → Value → Prop) (pa : Option Addr) (pl : Nat) (ps : List PayS) : Prop :=
  ps.length = pl ∧ (pl = 0 ∨ ∃ b o, pa = some ⟨b, o, none⟩ ∧ ∀ (j : Nat) (p : PayS), ps[j]? = some p → ∀ (k : Nat) (v : Value), p.cells[k]? = some v → F ⟨b, o + j * 6 + k, none⟩ v)
theorem PaysIn.some {F : Addr → Value → Prop} {pa : Option Addr} {pl : Nat} {ps : List PayS} (h : PaysIn F pa pl ps) {k : Nat} (hk : k < pl) :
    ∃ b o, pa = some ⟨b, o, none⟩ ∧ ∀ (j : Nat) (p : PayS), ps[j]? = some p → ∀ (k : Nat) (v : Value), p.cells[k]? = some v → F ⟨b, o + j * 6 + k, none⟩ v := by
  rcases h.2 with h | h
  · omega
  · exact h
theorem PaysIn.get {F : Addr → Value → Prop} {pa : Option Addr} {pl : Nat} {ps : List PayS} (h : PaysIn F pa pl ps) {k : Nat} (hk : k < pl) : ∃ p, ps[k]? = Option.some p ∧ ps.drop k = p :: ps.drop (k + 1) ∧ ps.take (k + 1) = ps.take k ++ [p] := by
  have hk' : k < ps.length := by rw [h.1]; exact hk
  exact ⟨ps[k], by simp [hk'], List.drop_eq_getElem_cons hk', by rw [List.take_succ_eq_append_getElem hk']⟩
theorem PaysIn.mono {F F' : Addr → Value → Prop} {pa : Option Addr} {pl : Nat} {ps : List PayS} (h : PaysIn F pa pl ps) (hm : More F F') : PaysIn F' pa pl ps := by
  refine ⟨h.1, ?_⟩
  rcases h.2 with h' | ⟨b, o, h1, h2⟩
  · exact .inl h'
  · exact .inr ⟨b, o, h1, fun j p hj k v hv => hm _ _ (h2 j p hj k v hv)⟩
theorem PaysIn.at {w0 w : World} {F : Addr → Value → Prop} {L : List (Nat × Obj)} {pa : Option Addr} {pl : Nat} {ps : List PayS} (h : PaysIn F pa pl ps) (hw : Has w0 F L w) : PaysIn (At w) pa pl ps := h.mono hw.at
end Go.Proofs.Ytmkboljfbmlebaa
/- Go's own comparison of structs and arrays of numbers. No condition. -/
namespace Go.Proofs.Ytmkboljfbmlebaa
open Go.RowKit
set_option linter.unusedSimpArgs false
set_option linter.unusedVariables false

def flatFs (P : Program) (F : TypeId → Nat → Bool) : List Field → Nat → Nat → Bool
  | [], off, n => Nat.beq off n
  | f :: fs, off, n => !(f.name == "_") && Nat.beq f.offset off && (match P.info? f.type with
    | some i => F f.type i.size && flatFs P F fs (off + i.size) n
    | none => false)
/-- a type all of whose n cells are numbers of Go's type int -/
def flatB (P : Program) : Nat → TypeId → Nat → Bool
  | 0, _, _ => false
  | d + 1, T, n => sizeB P T n && (match P.underlying T with
    | some (.int .i64) => Nat.beq n 1
    | some (.array len e) => (match P.info? e with | some i => flatB P d e i.size && Nat.beq n (len * i.size) | none => false)
    | some (.struct fs) => !P.stoodInHeld T && flatFs P (flatB P d) fs.toList 0 n
    | _ => false)
def vOf (P : Program) (T : TypeId) (xs : List Int) : Value := match P.underlying T with
  | some (.int _) => I (xs.headD 0)
  | _ => .agg (xs.map I).toArray

section
variable {P : Program}
theorem flat_part {d : Nat} {T : TypeId} {m : Nat} (h : flatB P (d + 1) T m = true) (xs : List Int) (off : Nat) (ho : off + m ≤ xs.length) (w : World) :
    (part T (xs.map I).toArray off).run P w = .ok (vOf P T ((xs.drop off).take m)) w := by
  unfold flatB at h
  simp only [Bool.and_eq_true] at h
  obtain ⟨hs, h⟩ := h
  have hsz := sizeB_run (w := w) hs
  unfold vOf
  split at h
  · rename_i hu
    have : m = 1 := Nat.eq_of_beq_eq_true h
    subst this
    have hlt : off < xs.length := by omega
    have e1 : (xs.map I)[off]? = some (I xs[off]) := by simp [hlt]
    have e2 : ((xs.drop off).take 1).head?.getD 0 = xs[off] := by rw [List.drop_eq_getElem_cons hlt]; rfl
    simp [part, isAgg, underlying, hu, e1, e2, hlt]
  · rename_i len e hu
    have e1 : (xs.map I).toArray.extract off (off + m) = (((xs.drop off).take m).map I).toArray := by
      simp [List.extract_eq_take_drop, List.map_take, List.map_drop]
    simp [part, isAgg, underlying, hu, hsz, e1]
  · rename_i fs hu
    have e1 : (xs.map I).toArray.extract off (off + m) = (((xs.drop off).take m).map I).toArray := by
      simp [List.extract_eq_take_drop, List.map_take, List.map_drop]
    simp [part, isAgg, underlying, hu, hsz, e1]
  · cases h
theorem split_eq (m : Nat) (a b : List Int) : (decide (a.take m = b.take m) && decide (a.drop m = b.drop m)) = decide (a = b) := by
  rw [Bool.eq_iff_iff]
  simp only [Bool.and_eq_true, decide_eq_true_eq]
  constructor
  · rintro ⟨h1, h2⟩
    rw [← List.take_append_drop m a, ← List.take_append_drop m b, h1, h2]
  · rintro rfl; exact ⟨rfl, rfl⟩

theorem eq_flat : ∀ (d : Nat) (T : TypeId) (n : Nat), flatB P d T n = true → ∀ (xs ys : List Int), xs.length = n → ys.length = n → ∀ (w : World) (D : Nat),
    (Op.equalIn (D + d) T (vOf P T xs) (vOf P T ys)).run P w = .ok (decide (xs = ys)) w
  | 0, T, n, h, _, _, _, _, _, _ => by cases h
  | d + 1, T, n, h, xs, ys, hx, hy, w, D => by
    have h0 := h
    unfold flatB at h
    simp only [Bool.and_eq_true] at h
    obtain ⟨hs, h⟩ := h
    split at h
    · rename_i hu
      have : n = 1 := Nat.eq_of_beq_eq_true h
      subst this
      obtain ⟨x, rfl⟩ : ∃ x, xs = [x] := by
        match xs, hx with
        | [x], _ => exact ⟨x, rfl⟩
      obtain ⟨y, rfl⟩ : ∃ y, ys = [y] := by
        match ys, hy with
        | [y], _ => exact ⟨y, rfl⟩
      have e : ∀ z : Int, vOf P T [z] = I z := by intro z; unfold vOf; rw [hu]; rfl
      rw [e, e, show D + (d + 1) = (D + d) + 1 by omega, run_equalIn_int w (D + d) T .i64 .i64 x y hu]
      congr 1
      rw [Bool.eq_iff_iff]; simp
    · rename_i len e hu
      split at h
      · rename_i i hi
        simp only [Bool.and_eq_true] at h
        obtain ⟨hf, hn⟩ := h
        have hn := Nat.eq_of_beq_eq_true hn
        have ev1 : ∀ zs, vOf P T zs = .agg (zs.map I).toArray := by intro zs; unfold vOf; rw [hu]
        have hce : P.cellsOf e = i.size := by simp [Program.cellsOf, hi]
        rw [ev1, ev1, show D + (d + 1) = (D + d) + 1 by omega, run_equalIn_array w (D + d) _ _ hu hi, hce]
        have key : ∀ (r k : Nat), k + r = len → (Op.eqItems (D + d) e i.size (xs.map I).toArray (ys.map I).toArray (List.range' k r)).run P w = .ok (decide (xs.drop (k * i.size) = ys.drop (k * i.size))) w := by
          intro r
          induction r with
          | zero =>
            intro k hk
            have e1 : xs.drop (k * i.size) = [] := List.drop_eq_nil_of_le (by rw [hx, hn, ← hk, Nat.add_zero]; exact Nat.le_refl _)
            have e2 : ys.drop (k * i.size) = [] := List.drop_eq_nil_of_le (by rw [hy, hn, ← hk, Nat.add_zero]; exact Nat.le_refl _)
            simp [Op.eqItems, e1, e2]
          | succ r ih =>
            intro k hk
            have hle : k * i.size + i.size ≤ n := by
              rw [hn, ← Nat.succ_mul]; exact Nat.mul_le_mul_right _ (by omega)
            cases d with
            | zero => cases hf
            | succ d' =>
            have p1 := flat_part hf xs (k * i.size) (by rw [hx]; exact hle) w
            have p2 := flat_part hf ys (k * i.size) (by rw [hy]; exact hle) w
            have q := eq_flat (d' + 1) e i.size hf ((xs.drop (k * i.size)).take i.size) ((ys.drop (k * i.size)).take i.size) (by simp; omega) (by simp; omega) w D
            have ih' := ih (k + 1) (by omega)
            rw [List.range'_succ]
            simp only [Op.eqItems, Sem.run_bind, p1, p2, q, Result.andThen_ok]
            rw [← split_eq i.size (xs.drop (k * i.size)), List.drop_drop, List.drop_drop]
            rw [Nat.succ_mul] at ih'
            by_cases hh : (xs.drop (k * i.size)).take i.size = (ys.drop (k * i.size)).take i.size
            · simp only [hh, decide_true, Bool.not_true, Bool.false_eq_true, if_false, Bool.true_and]
              exact ih'
            · simp [hh]
        have := key len 0 (by omega)
        simpa [List.range_eq_range'] using this
      · cases h
    · rename_i fs hu
      simp only [Bool.and_eq_true, Bool.not_eq_true'] at h
      obtain ⟨hst, hfs⟩ := h
      have ev1 : ∀ zs, vOf P T zs = .agg (zs.map I).toArray := by intro zs; unfold vOf; rw [hu]
      have hfo : P.fieldsOf T = fs := by simp [Program.fieldsOf, hu]
      rw [ev1, ev1, show D + (d + 1) = (D + d) + 1 by omega, run_equalIn_struct w (D + d) T _ _ (by rw [hfo]; exact hu) hst, hfo]
      have key : ∀ (l : List Field) (off : Nat), flatFs P (flatB P d) l off n = true → (Op.eqFields (D + d) (xs.map I).toArray (ys.map I).toArray l).run P w = .ok (decide (xs.drop off = ys.drop off)) w := by
        intro l
        induction l with
        | nil =>
          intro off hl
          have : off = n := Nat.eq_of_beq_eq_true hl
          have e1 : xs.drop off = [] := List.drop_eq_nil_of_le (by omega)
          have e2 : ys.drop off = [] := List.drop_eq_nil_of_le (by omega)
          simp [Op.eqFields, e1, e2]
        | cons fd l ih =>
          intro off hl
          unfold flatFs at hl
          simp only [Bool.and_eq_true, Bool.not_eq_true'] at hl
          obtain ⟨⟨hnm, hoff⟩, hl⟩ := hl
          have hoff := Nat.eq_of_beq_eq_true hoff
          have hnm : fd.name ≠ "_" := by simpa using hnm
          split at hl
          · rename_i i hi
            simp only [Bool.and_eq_true] at hl
            obtain ⟨hf, hl⟩ := hl
            have hle : off + i.size ≤ n := by
              clear ih hf
              have : ∀ (l : List Field) (o : Nat), flatFs P (flatB P d) l o n = true → o ≤ n := by
                intro l
                induction l with
                | nil => intro o ho; have := Nat.eq_of_beq_eq_true ho; omega
                | cons g l ih2 =>
                  intro o ho
                  unfold flatFs at ho
                  simp only [Bool.and_eq_true] at ho
                  obtain ⟨_, ho⟩ := ho
                  split at ho
                  · simp only [Bool.and_eq_true] at ho
                    have := ih2 _ ho.2
                    omega
                  · cases ho
              exact this l _ hl
            cases d with
            | zero => cases hf
            | succ d' =>
            have p1 := flat_part hf xs off (by rw [hx]; exact hle) w
            have p2 := flat_part hf ys off (by rw [hy]; exact hle) w
            have q := eq_flat (d' + 1) fd.type i.size hf ((xs.drop off).take i.size) ((ys.drop off).take i.size) (by simp; omega) (by simp; omega) w D
            have ih' := ih (off + i.size) hl
            simp only [Op.eqFields, if_pos hnm, Sem.run_bind, hoff, p1, p2, q, Result.andThen_ok]
            rw [← split_eq i.size (xs.drop off), List.drop_drop, List.drop_drop]
            by_cases hh : (xs.drop off).take i.size = (ys.drop off).take i.size
            · simp only [hh, decide_true, Bool.not_true, Bool.false_eq_true, if_false, Bool.true_and]
              exact ih'
            · simp [hh]
          · cases hl
      have := key fs.toList 0 hfs
      simpa using this
    · cases h

variable {f : Nat → Value} {C : World → Prop} {dst : Option Nat} {ty : TypeId} {pos : String} {af : Array Edge} {gd : Option (Nat × Bool)}
def aggFlatB (P : Program) (T n : Nat) : Bool := flatB P 6 T n && !P.eqGuardType P.depth T && (match P.underlying T with | some (.int _) => false | _ => true)
theorem run_eqFlat {T n : Nat} (hT : aggFlatB P T n = true) (xs ys : List Int) (lx : xs.length = n) (ly : ys.length = n) (w : World) : (Op.equalIn 10000 T (.agg (xs.map I).toArray) (.agg (ys.map I).toArray)).run P w = .ok (decide (xs = ys)) w := by
  unfold aggFlatB at hT
  simp only [Bool.and_eq_true] at hT
  have e : ∀ zs, vOf P T zs = .agg (zs.map I).toArray := by
    intro zs; unfold vOf
    split
    · rename_i k hu; rw [hu] at hT; cases hT.2
    · rfl
  have := eq_flat 6 T n hT.1.1 xs ys lx ly w 9994
  rwa [e, e] at this
theorem v_eqFlat {x y : Operand} {T T' n : Nat} {cs cs' : Array Value} (xs ys : List Int) (hT : aggFlatB P T n = true) (hx : ev f x = .agg cs) (hy : ev f y = .agg cs') (ex : cs = (xs.map I).toArray) (ey : cs' = (ys.map I).toArray) (lx : xs.length = n) (ly : ys.length = n) :
    Val P f C ⟨dst, .binOp .eql T x y T', ty, pos, af, gd⟩ (.bool (decide (xs = ys))) :=
  ⟨fun w _ => by
    subst ex ey
    have hg := hT
    unfold aggFlatB at hg
    simp only [Bool.and_eq_true, Bool.not_eq_true'] at hg
    simp only [execOp, hx, hy, Sem.run_bind, run_eqGuard_agg w .eql T x y _ _ hg.1.2, Result.andThen_ok, run_eql_struct, run_eqFlat hT xs ys lx ly w, Sem.run_pure]⟩
theorem v_neqFlat {x y : Operand} {T T' n : Nat} {cs cs' : Array Value} (xs ys : List Int) (hT : aggFlatB P T n = true) (hx : ev f x = .agg cs) (hy : ev f y = .agg cs') (ex : cs = (xs.map I).toArray) (ey : cs' = (ys.map I).toArray) (lx : xs.length = n) (ly : ys.length = n) :
    Val P f C ⟨dst, .binOp .neq T x y T', ty, pos, af, gd⟩ (.bool (!decide (xs = ys))) :=
  ⟨fun w _ => by
    subst ex ey
    have hg := hT
    unfold aggFlatB at hg
    simp only [Bool.and_eq_true, Bool.not_eq_true'] at hg
    simp only [execOp, hx, hy, Sem.run_bind, run_eqGuard_agg w .neq T x y _ _ hg.1.2, Result.andThen_ok, run_neq_struct, run_eqFlat hT xs ys lx ly w, Sem.run_pure]⟩
end

/-! the shapes -/
def acc2L (a c : Int) : List Int := [a, c]
def accL (a c : Int → Int) : List Int := [a 0, c 0, a 1, c 1, a 2, c 2, a 3, c 3]
def rowL (r : Int → Int) : List Int := [r 0, r 1, r 2, r 3]
def matL (m : Int → Int → Int) : List Int := [m 0 0, m 0 1, m 0 2, m 0 3, m 1 0, m 1 1, m 1 2, m 1 3, m 2 0, m 2 1, m 2 2, m 2 3, m 3 0, m 3 1, m 3 2, m 3 3]
def PayS.list (p : PayS) : List Int := [p.src, p.dst, p.amt, p.cls, p.sta, p.seq]
theorem acc2_list (a c : Int) : acc2 a c = ((acc2L a c).map I).toArray := rfl
theorem accA_list (a c : Int → Int) : accA a c = ((accL a c).map I).toArray := rfl
theorem rowA_list (r : Int → Int) : rowA r = ((rowL r).map I).toArray := rfl
theorem matA_list (m : Int → Int → Int) : matA m = ((matL m).map I).toArray := rfl
theorem PayS.cells_list (p : PayS) : p.cells = (p.list.map I).toArray := rfl
end Go.Proofs.Ytmkboljfbmlebaa
/- What the functions of the ledger come to, said plainly. No condition. -/
namespace Go.Proofs.Ytmkboljfbmlebaa
open Go.RowKit
set_option linter.unusedSimpArgs false
set_option linter.unusedVariables false

def withinB (n lo hi : Int) : Bool := decide (lo ≤ n) && decide (n ≤ hi)
def isBankB (n : Int) : Bool := withinB n 0 3
def goodTransferB (a b n : Int) : Bool := isBankB a && isBankB b && !decide (a = b) && withinB n 1 1000000
def goodStateB (a : Int) : Bool := decide (a = 1) || decide (a = 2) || decide (a = 3)
def goodPayB (q : PayS) : Bool := goodTransferB q.src q.dst q.amt && withinB q.cls 0 2 && goodStateB q.sta && decide (0 ≤ q.seq)
def isPayB (q : PayS) : Bool := withinB q.src 0 3 && withinB q.dst 0 3 && !decide (q.src = q.dst) && withinB q.amt 1 1000000 && withinB q.cls 0 2 && withinB q.sta 1 3 && decide (0 ≤ q.seq)
def netM (h : H) (i k : Int) : Int := if !isBankB i || !isBankB k then 0 else wr (h.sent i k - h.sent k i)
def leftM (h : H) (i : Int) : Int := if !isBankB i then 0 else wr (h.has i + h.cred i)
def sumM (h : H) : Int := wr (wr (wr (wr (0 + h.has 0) + h.has 1) + h.has 2) + h.has 3)
def mayM (h : H) (a b n : Int) : Bool :=
  bif !goodTransferB a b n || decide (leftM h a < n) then false else (decide (h.lim a b = -1) || decide (wr (netM h a b + n) ≤ h.lim a b))
def maySendM (h : H) (a b n : Int) : Bool :=
  bif !goodTransferB a b n || decide (wr (h.has a - n) < wr (0 - h.cred a)) then false else (decide (h.lim a b ≤ -1) || decide (wr (wr (h.sent a b - h.sent b a) + n) ≤ h.lim a b))
def moveM (h : H) (a b n : Int) : H := if goodTransferB a b n = true then
  { h with has := up1 (up1 h.has a (wr (h.has a - n))) b (wr (up1 h.has a (wr (h.has a - n)) b + n)), sent := up2 h.sent a b (wr (h.sent a b + n)) } else h
def newM : H := { has := fun _ => 0, cred := fun _ => 0, sent := fun _ _ => 0, lim := fun _ _ => -1, pa := none, pl := 0, pc := 0, next := 0 }

def a4 (p : Int → Bool) : Bool := p 0 && p 1 && p 2 && p 3
def accGoodB (has cred : Int → Int) : Bool := a4 fun i => withinB (has i) (-1099511627776) 1099511627776 && withinB (cred i) 0 1000000
def sentGoodB (m : Int → Int → Int) : Bool := a4 fun i => decide (m i i = 0) && a4 fun k => withinB (m i k) 0 1099511627776
def limGoodB (m : Int → Int → Int) : Bool := a4 fun i => a4 fun k => withinB (m i k) (-1) 1000000
def roomyB (h : H) : Bool := a4 fun i => !decide (h.has i < -1099478073344) && !decide (1099478073344 < h.has i) && a4 fun k => !decide (1099478073344 < h.sent i k)
theorem bank_lt {i : Int} (h : isBankB i = true) : 0 ≤ i ∧ i < 4 := by simp [isBankB, withinB] at h; omega
theorem transfer_lt {a b n : Int} (h : goodTransferB a b n = true) : (0 ≤ a ∧ a < 4) ∧ (0 ≤ b ∧ b < 4) ∧ a ≠ b ∧ 1 ≤ n ∧ n ≤ 1000000 := by
  simp [goodTransferB, isBankB, withinB] at h; omega
theorem isPay_eq (q : PayS) : isPayB q = goodPayB q := by
  simp only [isPayB, goodPayB, goodTransferB, isBankB, goodStateB, withinB]
  rw [Bool.eq_iff_iff]
  simp
  omega

def goB (nx : Int) (seen : List Int) : List PayS → Bool
  | [] => true
  | p :: r => bif !goodPayB p || decide (nx ≤ p.seq) || decide (p.seq ∈ seen) then false else goB nx (seen ++ [p.seq]) r
def goodPaysB (ps : List PayS) (nx : Int) : Bool := bif decide (24 < (ps.length : Int)) then false else goB nx [] ps
def goodB (h : H) (ps : List PayS) : Bool := withinB h.next 0 1048576 && goodPaysB ps h.next && accGoodB h.has h.cred && sentGoodB h.sent && limGoodB h.lim
theorem gp_long {ps : List PayS} {nx : Int} {pl : Nat} (hl : ps.length = pl) (h : decide (24 < (pl : Int)) = true) : false = goodPaysB ps nx := by
  unfold goodPaysB; rw [hl, h]; rfl
theorem gp_end {ps : List PayS} {nx : Int} {pl k : Nat} (hl : ps.length = pl) (h : decide (24 < (pl : Int)) = false) (hk : decide ((k : Int) < pl) = false) (hi : goB nx [] ps = goB nx ((ps.take k).map PayS.seq) (ps.drop k)) : true = goodPaysB ps nx := by
  unfold goodPaysB
  rw [hl, h, hi, List.drop_eq_nil_of_le (by simp at hk; omega)]
  rfl
theorem gp_bad {ps : List PayS} {nx : Int} {pl k : Nat} {p : PayS} (hl : ps.length = pl) (h : decide (24 < (pl : Int)) = false) (hi : goB nx [] ps = goB nx ((ps.take k).map PayS.seq) (ps.drop k)) (hd : ps.drop k = p :: ps.drop (k + 1))
    (hb : (!goodPayB p || decide (nx ≤ p.seq) || decide (p.seq ∈ (ps.take k).map PayS.seq)) = true) : false = goodPaysB ps nx := by
  unfold goodPaysB
  rw [hl, h, hi, hd]
  simp only [goB, hb, cond_true, cond_false]
theorem gp_step {ps : List PayS} {nx : Int} {k : Nat} {p : PayS} (hi : goB nx [] ps = goB nx ((ps.take k).map PayS.seq) (ps.drop k)) (hd : ps.drop k = p :: ps.drop (k + 1)) (ht : ps.take (k + 1) = ps.take k ++ [p])
    (hb : (!goodPayB p || decide (nx ≤ p.seq) || decide (p.seq ∈ (ps.take k).map PayS.seq)) = false) : goB nx [] ps = goB nx ((ps.take (k + 1)).map PayS.seq) (ps.drop (k + 1)) := by
  rw [hi, hd, ht]
  simp only [goB, hb, cond_false, List.map_append, List.map_cons, List.map_nil]
end Go.Proofs.Ytmkboljfbmlebaa
