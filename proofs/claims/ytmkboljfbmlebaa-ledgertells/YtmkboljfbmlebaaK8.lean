/- Houses whose payments are copied: 'append' onto nothing, and calls that hand back a house. No condition. -/
import Derived.Test.YtmkboljfbmlebaaK7
namespace Go.Proofs.Ytmkboljfbmlebaa
open Go.RowKit
set_option linter.unusedSimpArgs false
set_option linter.unusedVariables false

/-- rows of cells, one behind the other -/
def flatC (ps : List PayS) : List Value := ps.flatMap fun p => p.cells.toList
theorem flatC_length (ps : List PayS) : (flatC ps).length = ps.length * 6 := by
  induction ps with
  | nil => rfl
  | cons p r ih => simp only [flatC, List.flatMap_cons, List.length_append, List.length_cons] at *; rw [ih]; simp [PayS.cells]; omega
theorem flatC_get : ∀ (ps : List PayS) (j : Nat) (p : PayS), ps[j]? = some p → ∀ (k : Nat) (v : Value), p.cells[k]? = some v → (flatC ps)[j * 6 + k]? = some v
  | [], j, p, h, _, _, _ => by simp at h
  | q :: r, j, p, h, k, v, hv => by
    have hk : k < 6 := by
      rcases Nat.lt_or_ge k 6 with h | h
      · exact h
      · rw [Array.getElem?_eq_none (by simpa [PayS.cells] using h)] at hv; cases hv
    have hl : q.cells.toList.length = 6 := by simp [PayS.cells]
    cases j with
    | zero =>
      simp at h; subst h
      simp only [flatC, List.flatMap_cons, Nat.zero_mul, Nat.zero_add]
      rw [List.getElem?_append_left (by rw [hl]; exact hk)]
      simpa using hv
    | succ j =>
      simp only [List.getElem?_cons_succ] at h
      simp only [flatC, List.flatMap_cons]
      rw [List.getElem?_append_right (by rw [hl]; omega), hl, show (j + 1) * 6 + k - 6 = j * 6 + k by omega]
      exact flatC_get r j p h k v hv
theorem flatC_inv : ∀ (ps : List PayS) (i : Nat) (v : Value), (flatC ps)[i]? = some v → ∃ p, ps[i / 6]? = some p ∧ p.cells[i % 6]? = some v
  | [], i, v, h => by simp [flatC] at h
  | q :: r, i, v, h => by
    have hl : q.cells.toList.length = 6 := by simp [PayS.cells]
    simp only [flatC, List.flatMap_cons] at h
    by_cases hi : i < 6
    · rw [List.getElem?_append_left (by rw [hl]; exact hi)] at h
      exact ⟨q, by rw [Nat.div_eq_of_lt hi]; rfl, by rw [Nat.mod_eq_of_lt hi]; simpa using h⟩
    · rw [List.getElem?_append_right (by rw [hl]; omega), hl] at h
      obtain ⟨p, h1, h2⟩ := flatC_inv r (i - 6) v h
      refine ⟨p, ?_, ?_⟩
      · rw [show i / 6 = (i - 6) / 6 + 1 by omega]; simpa using h1
      · rw [show i % 6 = (i - 6) % 6 by omega]; exact h2

def paySliceB (P : Program) (T : TypeId) : Bool := match P.underlying T with
  | some (.slice e) => sizeB P e 6 && (match P.info? e with | some i => Nat.beq i.bytes 48 && (match i.zero with | some (.agg z) => Nat.beq z.size 6 | _ => false) | none => false)
  | _ => false
def payElem (P : Program) (T : TypeId) : TypeId := match P.underlying T with
  | some (.slice e) => e
  | _ => 0
theorem paySliceB_spec {P : Program} {T : TypeId} (h : paySliceB P T = true) : ∃ i z, P.underlying T = some (.slice (payElem P T)) ∧ sizeB P (payElem P T) 6 = true ∧ P.info? (payElem P T) = some i ∧ i.bytes = 48 ∧ i.zero = some (.agg z) ∧ z.size = 6 := by
  unfold paySliceB at h
  unfold payElem
  split at h
  · rename_i e hu
    rw [hu]
    simp only [Bool.and_eq_true] at h
    obtain ⟨h1, h2⟩ := h
    split at h2
    · rename_i i hi
      simp only [Bool.and_eq_true] at h2
      obtain ⟨h3, h4⟩ := h2
      split at h4
      · rename_i z hz
        exact ⟨i, z, rfl, h1, hi, Nat.eq_of_beq_eq_true h3, hz, Nat.eq_of_beq_eq_true h4⟩
      · cases h4
    · cases h2
  · cases h

section
variable {P : Program}
theorem load_pays {w : World} {b o pl : Nat} {ps : List PayS} (hl : ps.length = pl) (hc : ∀ (j : Nat) (p : PayS), ps[j]? = some p → ∀ (k : Nat) (v : Value), p.cells[k]? = some v → w.cell? ⟨b, o + j * 6 + k, none⟩ = some v) :
    (loadCells ⟨b, o, none⟩ (pl * 6)).run P w = .ok (flatC ps).toArray w := by
  have := run_loadCells_list (P := P) w ⟨b, o, none⟩ (flatC ps) (fun i v hv => by
    obtain ⟨p, h1, h2⟩ := flatC_inv ps i v hv
    rw [add_off]
    have := hc _ p h1 _ v h2
    rwa [show o + i / 6 * 6 + i % 6 = o + i by omega] at this)
  rwa [flatC_length, hl] at this
theorem run_appendCopy {w : World} {T ty : TypeId} {b o pl pc : Nat} {ps : List PayS} (hT : paySliceB P T = true) (hpos : 0 < pl) (hb : pl * 48 ≤ 281474976710656) (hl : ps.length = pl)
    (hc : ∀ (j : Nat) (p : PayS), ps[j]? = some p → ∀ (k : Nat) (v : Value), p.cells[k]? = some v → w.cell? ⟨b, o + j * 6 + k, none⟩ = some v) :
    ∃ (c : Nat) (cs : Array Value), pl ≤ c ∧ cs.size = c * 6 ∧ (∀ (i : Nat) (v : Value), (flatC ps)[i]? = some v → cs[i]? = some v) ∧ (Builtin.append_ #[T, T] ty #[.slice none 0 0, .slice (some ⟨b, o, none⟩) pl pc]).run P w = .ok (.slice (some ⟨w.heap.size, 0, none⟩) pl c) (w.drew.alloc (.cells cs (payElem P T))) := by
  obtain ⟨i, z, hu, hs, hi, hby, hz, hzs⟩ := paySliceB_spec hT
  have hsz : ∀ w, (sizeOf (payElem P T)).run P w = .ok 6 w := fun w => sizeB_run hs
  have hld := load_pays (P := P) (w := w.drew) (b := b) (o := o) hl (fun j p hj k v hv => by simpa using hc j p hj k v hv)
  have hcap : Builtin.nextslicecap pl 0 = pl := by unfold Builtin.nextslicecap; rw [if_pos (by omega)]
  have hask : ∀ n w, (askRoom n).run P w = .ok () w := by intro n w; unfold askRoom; split <;> rfl
  have hch : (choose (.appendCap pl 0 (payElem P T))).run P w = .ok (pl + w.tape w.drawn (.appendCap pl 0 (payElem P T)) % (2 ^ 63 - pl)) w.drew := by
    unfold choose
    simp only [Sem.run, Question.forced, Question.cut, Bool.false_eq_true, if_false]
    rfl
  generalize hcc : pl + w.tape w.drawn (.appendCap pl 0 (payElem P T)) % (2 ^ 63 - pl) = c at hch
  refine ⟨c, (flatC ps).toArray ++ Builtin.zeroCells z (c - pl), by omega, ?_, ?_, ?_⟩
  · have : (Builtin.zeroCells z (c - pl)).size = (c - pl) * 6 := by simp [Builtin.zeroCells, hzs]
    rw [Array.size_append, this]
    simp [flatC_length, hl]
    omega
  · intro j v hv
    rw [Array.getElem?_append_left (by simpa using (List.getElem?_eq_some_iff.1 hv).1)]
    simpa using hv
  · have hn : ¬ pl ≤ 0 := by omega
    have hlt : ¬ 2 ^ 48 < pl * 48 := by omega
    have hov : ¬ (IntKind.i64.max < (pl : Int) ∧ i.bytes = 0) := by rw [hby]; simp
    have hzv : (zeroValue (payElem P T)).run P w.drew = .ok (.agg z) w.drew := by simp [zeroValue, typeInfo, hi, hz]
    have hnew : ∀ (o : Obj) (w : World), Sem.run P (Sem.new o Sem.pure) w = .ok w.heap.size (w.alloc o) := fun _ _ => rfl
    have h0 : pl ≠ 0 := by omega
    have hn48 : ¬ 281474976710656 < pl * 48 := by omega
    simp only [Builtin.append_, Sem.run_bind, Sem.run_pure, Result.andThen_ok]
    simp [underlying, hu, hsz, Builtin.lenOf, h0, typeInfo, hi, hby, hcap, hn48, hch, hask, Builtin.firstCells, hld, hzv, Value.cells, newRow, newObj, hnew]
    have hcut : (Question.appendCap pl 0 (payElem P T)).cut (w.tape w.drawn (.appendCap pl 0 (payElem P T))) = c := hcc
    rw [if_neg (show ¬ (Question.appendCap pl 0 (payElem P T)).forced = true from Bool.false_ne_true), hcut]

variable {ops : Array Oper} {K : (Nat → Value) → World → Prop} {rest : List Oper} {f : Nat → Value} {d : Nat} {ty : TypeId} {pos : String} {af : Array Edge} {w0 : World} {F : Addr → Value → Prop} {L : List (Nat × Obj)}
/-- append onto nothing, from a slice of payments -/
theorem s_appendCopy {T : TypeId} {x y : Operand} {ats : Array TypeId} {pa : Option Addr} {pl pc : Nat} {ps : List PayS} (hT : paySliceB P T = true) (hat : ats = #[T, T]) (hx : ev f x = .slice none 0 0) (hy : ev f y = .slice pa pl pc) (hp : PaysIn F pa pl ps) (hb : pl * 48 ≤ 281474976710656)
    (k0 : pl = 0 → sC P ops K rest (upd f d (.slice none 0 0)) (Has w0 F L))
    (k1 : ∀ (b c : Nat) (cs : Array Value), 0 < pl → pl ≤ c → cs.size = c * 6 → (∀ (j : Nat) (p : PayS), ps[j]? = some p → ∀ (k : Nat) (v : Value), p.cells[k]? = some v → cs[j * 6 + k]? = some v) →
      sC P ops K rest (upd f d (.slice (some ⟨b, 0, none⟩) pl c)) (Has w0 F ((b, .cells cs (payElem P T)) :: L))) :
    sC P ops K (⟨some d, .call ⟨.builtin .append, #[x, y], ats⟩, ty, pos, af, none⟩ :: rest) f (Has w0 F L) := by
  intro w hw
  unfold sw
  rw [if_pos wanted_free]
  unfold opk
  subst hat
  have hrun : ∀ r, (Builtin.append_ #[T, T] ty #[.slice none 0 0, .slice pa pl pc]).run P w = r → (execOp (ev f) ⟨some d, .call ⟨.builtin .append, #[x, y], #[T, T]⟩, ty, pos, af, none⟩).run P w = r.andThen fun v w' => .ok (.value v) w' := by
    intro r hr
    simp [execOp, resolve, invoke, builtin, hx, hy, hr]
  by_cases h0 : pl = 0
  · have : (Builtin.append_ #[T, T] ty #[.slice none 0 0, .slice pa pl pc]).run P w = .ok (.slice none 0 0) w := by
      obtain ⟨i, z, hu, hs, hi, hby, hz, hzs⟩ := paySliceB_spec hT
      have hsz : ∀ w, (sizeOf (payElem P T)).run P w = .ok 6 w := fun w => sizeB_run hs
      subst h0
      cases pa <;> simp [Builtin.append_, underlying, hu, hsz, Builtin.lenOf, Builtin.firstCells, loadCells, loadCellsFrom]
    rw [hrun _ this]
    exact k0 h0 w hw
  · rcases hp.2 with h | ⟨b, o, rfl, hc⟩
    · exact absurd h h0
    · obtain ⟨c, cs, h1, h2, h3, h4⟩ := run_appendCopy (P := P) (w := w) (T := T) (ty := ty) (b := b) (o := o) (pl := pl) (pc := pc) hT (by omega) hb hp.1 (fun j p hj k v hv => hw.at _ _ (hc j p hj k v hv))
      rw [hrun _ h4]
      refine k1 _ c cs (by omega) h1 h2 (fun j p hj k v hv => h3 _ _ (flatC_get ps j p hj k v hv)) _ ?_
      exact hw.drew.alloc _
end

/-! calls that hand back a house -/
def NewPays (w w' : World) (h : H) (ps : List PayS) : Prop :=
  (h.pa = none ∧ h.pl = 0 ∧ h.pc = 0 ∧ ps = []) ∨ ∃ (b t : Nat) (cs : Array Value), h.pa = some ⟨b, 0, none⟩ ∧ w.heap.size ≤ b ∧ w'.heap[b]? = some (.cells cs t (0, 0)) ∧ cs.size = h.pc * 6 ∧ h.pl ≤ h.pc ∧ ps.length = h.pl ∧
    ∀ (j : Nat) (p : PayS), ps[j]? = some p → ∀ (k : Nat) (v : Value), p.cells[k]? = some v → cs[j * 6 + k]? = some v
/-- the payments are the ones that came in, or new -/
def PaysOut (w w' : World) (h0 : H) (ps0 : List PayS) (h : H) (ps : List PayS) : Prop := (h.pa = h0.pa ∧ h.pl = h0.pl ∧ h.pc = h0.pc ∧ ps = ps0) ∨ NewPays w w' h ps
structure GivesH (P : Program) (k : FuncId) (args : List Value) (w : World) (h0 : H) (ps0 : List PayS) (M : H → List PayS → Prop) : Prop where
  out : Calls P k args.toArray w fun e w' => ∃ h ps, e = .returned (.agg (H.cells h)) ∧ Bel w.heap.size w w' ∧ M h ps ∧ PaysOut w w' h0 ps0 h ps
theorem NewPays.known {w w' w0 : World} {F : Addr → Value → Prop} {L : List (Nat × Obj)} {h : H} {ps : List PayS} (hn : NewPays w w' h ps) (hw : Has w0 F L w) : PaysIn (Out L w') h.pa h.pl ps := by
  rcases hn with ⟨h1, h2, h3, rfl⟩ | ⟨b, t, cs, h1, h2, h3, h4, h5, h6, h7⟩
  · exact ⟨by rw [h2]; rfl, .inl h2⟩
  · refine ⟨h6, .inr ⟨b, 0, h1, fun j p hj k v hv => ⟨?_, ?_⟩⟩⟩
    · rw [Nat.zero_add, cell_of_row w' b _ cs t (0, 0) h3]; exact h7 j p hj k v hv
    · intro hm
      obtain ⟨q, hq, he⟩ := List.mem_map.1 hm
      have := (Array.getElem?_eq_some_iff.1 (hw.2.2.1 q hq).2).1
      simp at he
      omega
section
variable {P : Program} {ops : Array Oper} {K : (Nat → Value) → World → Prop} {rest : List Oper} {f : Nat → Value} {d : Nat} {ty : TypeId} {pos : String} {af : Array Edge} {w0 : World} {F : Addr → Value → Prop} {L : List (Nat × Obj)}
theorem s_callH {k : FuncId} {xs : List Operand} {ats : Array TypeId} {h0 : H} {ps0 : List PayS} {M : H → List PayS → Prop} (hk : hasBody P k = true) (hp : PaysIn F h0.pa h0.pl ps0) (hg : ∀ w, Has w0 F L w → GivesH P k (xs.map (ev f)) w h0 ps0 M)
    (kk : ∀ (F' : Addr → Value → Prop) (h : H) (ps : List PayS), More F F' → M h ps → PaysIn F' h.pa h.pl ps → sC P ops K rest (upd f d (.agg h.cells)) (Has w0 F' L)) :
    sC P ops K (⟨some d, .call ⟨.value (.func k), xs.toArray, ats⟩, ty, pos, af, none⟩ :: rest) f (Has w0 F L) := by
  intro w hw
  unfold sw
  rw [if_pos wanted_free]
  unfold opk
  rw [run_call hk w]
  refine (hg w hw).out.mono fun e w' ⟨h, ps, he, hb, hm, ho⟩ => ⟨_, he, ?_⟩
  obtain ⟨h1, h2⟩ := hw.learn hb
  refine kk _ h ps h2 hm ?_ w' h1
  rcases ho with ⟨e1, e2, e3, rfl⟩ | hn
  · rw [e1, e2]; exact hp.mono h2
  · exact hn.known hw
end

theorem givesH_of {P : Program} {k : FuncId} {fn : Func} {c : Code} {n : Nat} {args : List Value} {w : World} {h0 : H} {ps0 : List PayS} {M : H → List PayS → Prop}
    (hf : P.funcs[k]? = some fn) (hb : fn.body = some c) (hn : fn.ntmps = n) (hl : args.length ≤ n)
    (h : cC P n c (retQ P fn n (fun v w' => ∃ h ps, v = .agg (H.cells h) ∧ Bel w.heap.size w w' ∧ M h ps ∧ PaysOut w w' h0 ps0 h ps)) (argF args) (Has w (At w) [])) : GivesH P k args w h0 ps0 M :=
  ⟨(givesR_of hf hb hn hl h).out.mono fun e w' ⟨v, he, h, ps, hv, hb, hm, ho⟩ => ⟨h, ps, by rw [he, hv], hb, hm, ho⟩⟩
theorem n_doneH {P : Program} {fn : Func} {n t T b ty : Nat} {fr : Nat × Nat} {f : Nat → Value} {w0 : World} {F : Addr → Value → Prop} {L : List (Nat × Obj)} {h0 h : H} {ps0 ps : List PayS} {M : H → List PayS → Prop} (hr : fn.results = #[.cell t T]) (ht : t < n) (hp : f t = .pointer (some ⟨b, 0, none⟩))
    (hT : aggB P T 42 = true) (hl : Look L b (.cells h.cells ty fr)) (hM : M h ps) (ho : ∀ w, Has w0 F L w → PaysOut w0 w h0 ps0 h ps) : nC (retQ P fn n (fun v w' => ∃ h ps, v = .agg (H.cells h) ∧ Bel w0.heap.size w0 w' ∧ M h ps ∧ PaysOut w0 w' h0 ps0 h ps)) .ret f (Has w0 F L) := by
  intro w hw
  refine ⟨.agg h.cells, ?_, h, ps, rfl, hw.1, hM, ho w hw⟩
  have e : (Fa n f).tmps[t]?.getD undef = f t := by simp [Fa, ht]
  have := run_loadN (P := P) (w := w) (b := b) (o := 0) (cs := h.cells.toList) (by simpa [H.size] using hT) (fun j v hj => by
    rw [cell_has hw hl]; simpa using hj)
  simp only [Instr.loadAt, Instr.sureAddr, Sem.run_bind, Sem.run_pure, Result.andThen] at this
  simp [results, hr, e, hp, asAddr, this]
theorem newPays_look {w0 w : World} {F : Addr → Value → Prop} {L : List (Nat × Obj)} {b t : Nat} {cs : Array Value} {h : H} {ps : List PayS} (hw : Has w0 F L w) (hl : Look L b (.cells cs t (0, 0))) (ha : h.pa = some ⟨b, 0, none⟩) (hs : cs.size = h.pc * 6) (hle : h.pl ≤ h.pc) (hpl : ps.length = h.pl)
    (hc : ∀ (j : Nat) (p : PayS), ps[j]? = some p → ∀ (k : Nat) (v : Value), p.cells[k]? = some v → cs[j * 6 + k]? = some v) : NewPays w0 w h ps :=
  .inr ⟨b, t, cs, ha, (hw.2.2.1 _ hl.mem).1, hw.look hl, hs, hle, hpl, hc⟩
/-- a house, its payments copied -/
def CopyOf (h : H) (ps : List PayS) (h' : H) (ps' : List PayS) : Prop := ps' = ps ∧ ∃ pa pc, h' = { h with pa := pa, pc := pc }
theorem copy_none {h : H} {ps : List PayS} (h0 : h.pl = 0) (hl : ps.length = h.pl) : CopyOf h ps { h with pa := none, pl := 0, pc := 0 } ps ∧ ∀ w w', NewPays w w' ({ h with pa := none, pl := 0, pc := 0 } : H) ps := by
  refine ⟨⟨rfl, none, 0, ?_⟩, fun w w' => .inl ⟨rfl, rfl, rfl, List.eq_nil_of_length_eq_zero (by omega)⟩⟩
  cases h
  simp at h0
  subst h0
  rfl
end Go.Proofs.Ytmkboljfbmlebaa
