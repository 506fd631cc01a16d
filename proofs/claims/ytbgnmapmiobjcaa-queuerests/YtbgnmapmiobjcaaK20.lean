/- Functions as values, a slice held against nil, an empty list, payments copied onto it, and many numbers set behind a list. No condition. -/
import Derived.Test.YtbgnmapmiobjcaaK16
import Derived.Test.YtbgnmapmiobjcaaM10
import Derived.Sort.Grow
import Derived.Deep.Draws
namespace Go.Proofs.Ytbgnmapmiobjcaa
open Go.RowKit
set_option linter.unusedSimpArgs false
set_option linter.unusedVariables false

/-- a call that only reads ends some draws and some blocks further -/
theorem Bel.grown {w w' : World} (h : Bel w.heap.size w w') : ∃ q os, w' = Sort.grow (w.drewN q) os := by
  refine ⟨w'.drawn - w.drawn, w'.heap.extract w.heap.size w'.heap.size, ?_⟩
  have e1 : w.drawn + (w'.drawn - w.drawn) = w'.drawn := by have := h.drawn; omega
  have e2 : w.heap ++ w'.heap.extract w.heap.size w'.heap.size = w'.heap := by
    apply Array.ext_getElem?
    intro k
    rcases Nat.lt_or_ge k w.heap.size with hk | hk
    · rw [Array.getElem?_append_left hk]; exact (h.block k hk).symm
    · rw [Array.getElem?_append_right hk, Array.getElem?_extract]
      split
      · congr 1; omega
      · rw [Array.getElem?_eq_none (by omega)]
  have e3 := h.os
  have e4 := h.tape
  have e5 := h.output
  cases w
  cases w'
  simp only [Sort.grow, World.drewN] at *
  subst e3 e4 e5
  rw [e1, e2]
theorem grow_bel (w : World) (q : Nat) (os : Array Obj) : Bel w.heap.size w (Sort.grow (w.drewN q) os) :=
  ⟨⟨rfl, rfl, rfl, by simp [Sort.grow, World.drewN], fun k hk => by
    show (w.heap ++ os)[k]? = w.heap[k]?
    rw [Array.getElem?_append_left hk]⟩, Nat.le_add_right _ _⟩

section
variable {P : Program} {f : Nat → Value} {C : World → Prop} {dst : Option Nat} {ty : TypeId} {pos : String} {af : Array Edge} {gd : Option (Nat × Bool)}
theorem v_makeFunc {fn : Fn} {xs : List Operand} {vs : List Value} (hx : xs.map (ev f) = vs) : Val P f C ⟨dst, .makeFunc fn #[] xs.toArray, ty, pos, af, gd⟩ (.func fn #[] vs.toArray) :=
  ⟨fun w _ => by simp [execOp, Instr.makeFunc, hx]⟩
theorem v_eqNil {x y : Operand} {T t' m : Nat} {a : Option Addr} {len cap : Nat} (hT : slB P T m = true) (hx : ev f x = .slice a len cap) (hy : ev f y = .slice none 0 0) : Val P f C ⟨dst, .binOp .eql T x y t', ty, pos, af, gd⟩ (.bool a.isNone) := by
  refine ⟨fun w _ => ?_⟩
  unfold slB at hT
  split at hT
  · rename_i e hu
    have hg : (eqGuard .eql T x y (.slice a len cap) (.slice none 0 0)).run P w = .ok () w := by
      simp [eqGuard]
    have he : (Op.equal T (.slice a len cap) (.slice none 0 0)).run P w = .ok a.isNone w := by
      unfold Op.equal
      show (Op.equalIn (_ + 1) T _ _).run P w = _
      unfold Op.equalIn
      simp only [Sem.run_bind]
      rw [run_underlying hu]
      cases a <;> simp
    simp [execOp, hx, hy, hg, binOp, he]
  · cases hT
variable {ops : Array Oper} {K : (Nat → Value) → World → Prop} {rest : List Oper} {d : Nat} {w0 : World} {F : Addr → Value → Prop} {E L : List (Nat × Obj)}
/-- a list of nothing, in a block of its own -/
theorem s_build0 {T e m by_ : Nat} (hT : rowB P T e m by_ = true) (kk : ∀ b, sC P ops K rest (upd f d (.slice (some ⟨b, 0, none⟩) 0 0)) (Has w0 F ((b, .cells #[] e) :: L))) :
    sC P ops K (⟨some d, .buildSlice T 0 #[], ty, pos, af, none⟩ :: rest) f (Has w0 F L) := by
  intro w hw
  obtain ⟨i, z, hu, hi, h1, h2, h3, h4⟩ := rowB_spec hT
  have : (Instr.buildSlice T 0 #[]).run P w = .ok (.slice (some ⟨w.heap.size, 0, none⟩) 0 0) (w.alloc (.cells #[] e)) := by
    simp [Instr.buildSlice, run_underlying hu, sizeOf, typeInfo, zeroValue, hi, h3, newRow, Instr.fill, show Array.range 0 = (#[] : Array Nat) from rfl]
  unfold sw
  rw [if_pos wanted_free]
  unfold opk
  have hr : (execOp (ev f) ⟨some d, .buildSlice T 0 #[], ty, pos, af, none⟩).run P w = .ok (.value (.slice (some ⟨w.heap.size, 0, none⟩) 0 0)) (w.alloc (.cells #[] e)) := by
    simp [execOp, this]
  rw [hr]
  exact kk _ _ (hw.alloc _)
theorem run_appendCopy0 {w : World} {T ty : TypeId} {g b o pl pc : Nat} {ps : List PayS} (hT : paySliceB P T = true) (hpos : 0 < pl) (hb : pl * 48 ≤ 281474976710656) (hl : ps.length = pl)
    (hc : ∀ (j : Nat) (p : PayS), ps[j]? = some p → ∀ (k : Nat) (v : Value), p.cells[k]? = some v → w.cell? ⟨b, o + j * 6 + k, none⟩ = some v) :
    ∃ (c : Nat) (cs : Array Value), pl ≤ c ∧ cs.size = c * 6 ∧ (∀ (i : Nat) (v : Value), (flatC ps)[i]? = some v → cs[i]? = some v) ∧ (Builtin.append_ #[T, T] ty #[.slice (some ⟨g, 0, none⟩) 0 0, .slice (some ⟨b, o, none⟩) pl pc]).run P w = .ok (.slice (some ⟨w.heap.size, 0, none⟩) pl c) (w.drew.alloc (.cells cs (payElem P T))) := by
  obtain ⟨i, z, hu, hs, hi, hby, hz, hzs⟩ := paySliceB_spec hT
  have hsz : ∀ w, (sizeOf (payElem P T)).run P w = .ok 6 w := fun w => sizeB_run hs
  have hld := load_pays (P := P) (w := w.drew) (b := b) (o := o) hl (fun j p hj k v hv => by simpa using hc j p hj k v hv)
  have hld0 : ∀ w : World, (loadCells ⟨g, 0, none⟩ (0 * 6)).run P w = .ok #[] w := fun w => by simp [loadCells, loadCellsFrom]
  have hcap : Builtin.nextslicecap pl 0 = pl := by unfold Builtin.nextslicecap; rw [if_pos (by omega)]
  have hask : ∀ n w, (askRoom n).run P w = .ok () w := by intro n w; unfold askRoom; split <;> rfl
  have hch : (choose (.appendCap pl 0 (payElem P T))).run P w = .ok (pl + w.tape w.drawn (.appendCap pl 0 (payElem P T)) % (2 ^ 63 - pl)) w.drew := by
    unfold choose
    simp only [Sem.run, Question.forced, Question.cut, Bool.false_eq_true, if_false]
    rfl
  generalize hcc : pl + w.tape w.drawn (.appendCap pl 0 (payElem P T)) % (2 ^ 63 - pl) = c at hch
  refine ⟨c, (flatC ps).toArray ++ Builtin.zeroCells z (c - pl), by omega, ?_, ?_, ?_⟩
  · have : (Builtin.zeroCells z (c - pl)).size = (c - pl) * 6 := by simp [Builtin.zeroCells, hzs]
    rw [Array.size_append, this]
    simp [flatC_length, hl]
    omega
  · intro j v hv
    rw [Array.getElem?_append_left (by simpa using (List.getElem?_eq_some_iff.1 hv).1)]
    simpa using hv
  · have hn : ¬ pl ≤ 0 := by omega
    have hlt : ¬ 2 ^ 48 < pl * 48 := by omega
    have hov : ¬ (IntKind.i64.max < (pl : Int) ∧ i.bytes = 0) := by rw [hby]; simp
    have hzv : (zeroValue (payElem P T)).run P w.drew = .ok (.agg z) w.drew := by simp [zeroValue, typeInfo, hi, hz]
    have hnew : ∀ (o : Obj) (w : World), Sem.run P (Sem.new o Sem.pure) w = .ok w.heap.size (w.alloc o) := fun _ _ => rfl
    have h0 : pl ≠ 0 := by omega
    have hn48 : ¬ 281474976710656 < pl * 48 := by omega
    simp only [Builtin.append_, Sem.run_bind, Sem.run_pure, Result.andThen_ok]
    simp [underlying, hu, hsz, Builtin.lenOf, h0, typeInfo, hi, hby, hcap, hn48, hch, hask, Builtin.firstCells, hld, hzv, Value.cells, newRow, newObj, hnew, loadCells, loadCellsFrom]
    have hcut : (Question.appendCap pl 0 (payElem P T)).cut (w.tape w.drawn (.appendCap pl 0 (payElem P T))) = c := hcc
    rw [if_neg (show ¬ (Question.appendCap pl 0 (payElem P T)).forced = true from Bool.false_ne_true), hcut]
    simp only [loadCells] at hld
    simp [hld, hzv, Value.cells]
/-- payments are set behind a list of nothing: they are copied -/
theorem s_appendCopy0 {T : TypeId} {x y : Operand} {ats : Array TypeId} {g : Nat} {pa : Option Addr} {pl pc : Nat} {ps : List PayS} (hT : paySliceB P T = true) (hat : ats = #[T, T]) (hx : ev f x = .slice (some ⟨g, 0, none⟩) 0 0) (hy : ev f y = .slice pa pl pc) (hp : PaysIn F pa pl ps) (hb : pl * 48 ≤ 281474976710656) (h0 : 0 < pl)
    (k1 : ∀ (b c : Nat) (cs : Array Value), pl ≤ c → cs.size = c * 6 → CellsOf cs ps → sC P ops K rest (upd f d (.slice (some ⟨b, 0, none⟩) pl c)) (Has w0 F ((b, .cells cs (payElem P T)) :: L))) :
    sC P ops K (⟨some d, .call ⟨.builtin .append, #[x, y], ats⟩, ty, pos, af, none⟩ :: rest) f (Has w0 F L) := by
  intro w hw
  unfold sw
  rw [if_pos wanted_free]
  unfold opk
  subst hat
  rcases hp.2 with h | ⟨b, o, rfl, hc⟩
  · exact absurd h (by omega)
  · obtain ⟨c, cs, h1, h2, h3, h4⟩ := run_appendCopy0 (P := P) (w := w) (T := T) (ty := ty) (g := g) (b := b) (o := o) (pl := pl) (pc := pc) hT h0 hb hp.1 (fun j p hj k v hv => hw.at _ _ (hc j p hj k v hv))
    have hr : (execOp (ev f) ⟨some d, .call ⟨.builtin .append, #[x, y], #[T, T]⟩, ty, pos, af, none⟩).run P w = .ok (.value (.slice (some ⟨w.heap.size, 0, none⟩) pl c)) (w.drew.alloc (.cells cs (payElem P T))) := by
      simp [execOp, resolve, invoke, builtin, hx, hy, h4]
    rw [hr]
    exact k1 _ c cs h1 h2 (fun j p hj k v hv => h3 _ _ (flatC_get ps j p hj k v hv)) _ (hw.drew.alloc _)
/-- numbers that stand in memory are set behind a list of the call's own -/
theorem s_pushAll {T e by_ n c : Nat} {ats : Array TypeId} {x y : Operand} {v : Value} {xs : List Value} {a : Option Addr} {ys : List Int} (hT : rowB P T e 1 by_ = true) (hbb : Nat.ble 1 by_ = true) (hat : ats = #[T, T])
    (hx : ev f x = v) (hy : ev f y = .slice a ys.length c) (hE : ListE e 1 v n xs E) (hi : IntsAt F a ys) (hbytes : (n + ys.length) * by_ ≤ 140737488355328)
    (kk : ∀ v' E', ListE e 1 v' (n + ys.length) (xs ++ ys.map I) E' → sC P ops K rest (upd f d v') (Has w0 F (E' ++ L))) :
    sC P ops K (⟨some d, .call ⟨.builtin .append, #[x, y], ats⟩, ty, pos, af, none⟩ :: rest) f (Has w0 F (E ++ L)) := by
  intro w hw
  subst hat
  unfold sw
  rw [if_pos wanted_free]
  unfold opk
  have hrun : ∀ v' w', (Builtin.append_ #[T, T] ty #[v, .slice a ys.length c]).run P w = .ok v' w' → (execOp (ev f) ⟨some d, .call ⟨.builtin .append, #[x, y], #[T, T]⟩, ty, pos, af, none⟩).run P w = .ok (.value v') w' := by
    intro v' w' hr
    simp [execOp, resolve, invoke, builtin, hx, hy, hr]
  cases ys with
  | nil =>
    obtain ⟨i, z, hu, hii, hs, hby, hz, hzs⟩ := rowB_spec hT
    have hsz : ∀ w, (sizeOf e).run P w = .ok 1 w := fun w => by simp [sizeOf, typeInfo, hii, hs]
    have : (Builtin.append_ #[T, T] ty #[v, .slice a 0 c]).run P w = .ok v w := by
      rcases hE.2 with ⟨rfl, rfl, rfl⟩ | ⟨g, cap, cur, rfl, rfl, hnc, hcm, hcs, htake⟩
      · cases a <;> simp [Builtin.append_, underlying, hu, hsz, Builtin.lenOf, Builtin.firstCells, loadCells, loadCellsFrom]
      · cases a <;> simp [Builtin.append_, underlying, hu, hsz, Builtin.lenOf, Builtin.firstCells, loadCells, loadCellsFrom, hnc, storeCells]
    rw [hrun _ _ this]
    exact kk v E (by simpa using hE) w hw
  | cons y0 r =>
    obtain ⟨b, o, rfl, hF⟩ := hi.resolve_left (by simp)
    obtain ⟨v', E', w', hr, hE', hw'⟩ := run_appendE (P := P) (w0 := w0) (F := F) (L := L) (c := c) (ty := ty) (b := b) (o := o) (mm := (y0 :: r).length) (news := (y0 :: r).map I) hT (by decide) hE hw (by simp) (fun j u hj => by
      rw [List.getElem?_map] at hj
      cases hy' : (y0 :: r)[j]? with
      | none => rw [hy'] at hj; cases hj
      | some q =>
        rw [hy'] at hj
        simp only [Option.map_some, Option.some.injEq] at hj
        subst hj
        exact hw.at _ _ (hF j q hy')) (fun u hu => by
      obtain ⟨q, _, rfl⟩ := List.mem_map.1 hu
      rfl) (by simp) hbytes (Nat.le_of_ble_eq_true hbb)
    rw [hrun _ _ hr]
    exact kk v' E' hE' w' hw'
end
end Go.Proofs.Ytbgnmapmiobjcaa
