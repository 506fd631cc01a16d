/- What bookTellsUpto_holds stands on, part 7: each part says what it proves. No condition beside those that it names. -/
import Derived.Test.YtmkboljfbmlebaaPL96
/- Calls that change blocks of their caller's own, whoever the caller is; lists of bytes that grow and become a text; a shift; functions with several results; numbers of at most five digits, read one behind the other. No condition. -/
namespace Go.Proofs.Ytmkboljfbmlebaa
open Go.RowKit
set_option linter.unusedSimpArgs false
set_option linter.unusedVariables false

/-- a call that may change the blocks B; all else stays -/
def GivesW (P : Program) (k : FuncId) (args : List Value) (F : Addr → Value → Prop) (B : List (Nat × Obj)) (R : (Addr → Value → Prop) → Value → List (Nat × Obj) → Prop) : Prop :=
  ∀ (w0 : World) (K : List (Nat × Obj)) (w : World), Has w0 F (B ++ K) w → Calls P k args.toArray w fun e w' => ∃ v B' F', e = .returned v ∧ More F F' ∧ Has w0 F' (B' ++ K) w' ∧ R F' v B'
def retW (w0 : World) (F : Addr → Value → Prop) (K : List (Nat × Obj)) (R : (Addr → Value → Prop) → Value → List (Nat × Obj) → Prop) : Value → World → Prop :=
  fun v w' => ∃ B' F', More F F' ∧ Has w0 F' (B' ++ K) w' ∧ R F' v B'
theorem givesW_of {P : Program} {k : FuncId} {fn : Func} {c : Code} {m : Nat} {args : List Value} {B : List (Nat × Obj)} {F : Addr → Value → Prop} {R : (Addr → Value → Prop) → Value → List (Nat × Obj) → Prop}
    (hf : P.funcs[k]? = some fn) (hb : fn.body = some c) (hn : fn.ntmps = m) (hl : args.length ≤ m)
    (h : ∀ w0 K, cC P m c (retQ P fn m (retW w0 F K R)) (argF args) (Has w0 F (B ++ K))) : GivesW P k args F B R := fun w0 K w hw => by
  refine calls_of_wp hf hb ?_
  rw [hn, Fa_args m args hl]
  refine wp_mono (h w0 K w hw) ?_
  rintro e a w' ⟨f, rfl, hr⟩
  cases e <;> simp only [retQ] at hr
  · obtain ⟨v, h1, B', F', h2, h3, h4⟩ := hr; exact ⟨rfl, v, h1, v, B', F', rfl, h2, h3, h4⟩
  · obtain ⟨v, h1, B', F', h2, h3, h4⟩ := hr; exact ⟨rfl, v, h1, v, B', F', rfl, h2, h3, h4⟩
section
variable {P : Program} {ops : Array Oper} {K : (Nat → Value) → World → Prop} {rest : List Oper} {f : Nat → Value} {d : Nat} {ty : TypeId} {pos : String} {af : Array Edge} {w0 : World} {F : Addr → Value → Prop} {B E L : List (Nat × Obj)}
theorem s_weak {C C' : World → Prop} (hc : ∀ w, C w → C' w) (h : sC P ops K rest f C') : sC P ops K rest f C := fun w hw => h w (hc w hw)
theorem s_callW {k : FuncId} {xs : List Operand} {ats : Array TypeId} {R : (Addr → Value → Prop) → Value → List (Nat × Obj) → Prop} (hk : hasBody P k = true) (hg : GivesW P k (xs.map (ev f)) F B R)
    (kk : ∀ (F' : Addr → Value → Prop) (v : Value) (B' : List (Nat × Obj)), More F F' → R F' v B' → sC P ops K rest (upd f d v) (Has w0 F' (B' ++ L))) :
    sC P ops K (⟨some d, .call ⟨.value (.func k), xs.toArray, ats⟩, ty, pos, af, none⟩ :: rest) f (Has w0 F (B ++ L)) := by
  intro w hw
  unfold sw
  rw [if_pos wanted_free]
  unfold opk
  rw [run_call hk w]
  exact (hg w0 L w hw).mono fun e w' ⟨v, B', F', he, hm, h', hr⟩ => ⟨_, he, kk F' v B' hm hr w' h'⟩
/-- rows that stand in memory that is known are set behind a list of the call's own -/
theorem s_pushM {T e m by_ n mm c : Nat} {ats : Array TypeId} {x y : Operand} {v : Value} {xs news : List Value} {b o : Nat} (hT : rowB P T e m by_ = true) (hm : Nat.ble 1 m = true) (hbb : Nat.ble 1 by_ = true) (hat : ats = #[T, T])
    (hx : ev f x = v) (hy : ev f y = .slice (some ⟨b, o, none⟩) mm c) (hE : ListE e m v n xs E) (hl : news.length = mm * m) (hnews : ∀ w, Has w0 F (E ++ L) w → ∀ j u, news[j]? = some u → w.cell? ⟨b, o + j, none⟩ = some u) (h1 : ∀ u ∈ news, u.oneCell' = true) (hpos : 0 < mm) (hbytes : (n + mm) * by_ ≤ 140737488355328)
    (kk : ∀ v' E', ListE e m v' (n + mm) (xs ++ news) E' → sC P ops K rest (upd f d v') (Has w0 F (E' ++ L))) :
    sC P ops K (⟨some d, .call ⟨.builtin .append, #[x, y], ats⟩, ty, pos, af, none⟩ :: rest) f (Has w0 F (E ++ L)) := by
  intro w hw
  subst hat
  unfold sw
  rw [if_pos wanted_free]
  unfold opk
  obtain ⟨v', E', w', hr, hE', hw'⟩ := run_appendE (P := P) (w0 := w0) (F := F) (L := L) (c := c) (ty := ty) (b := b) (o := o) (mm := mm) (news := news) hT (Nat.le_of_ble_eq_true hm) hE hw hl (hnews w hw) h1 hpos hbytes (Nat.le_of_ble_eq_true hbb)
  have : (execOp (ev f) ⟨some d, .call ⟨.builtin .append, #[x, y], #[T, T]⟩, ty, pos, af, none⟩).run P w = .ok (.value v') w' := by
    simp [execOp, resolve, invoke, builtin, hx, hy, hr]
  rw [this]
  exact kk v' E' hE' w' hw'
/-- rows just built are set behind the list, and their own block is forgotten -/
theorem s_pushN {T e m by_ n mm : Nat} {ats : Array TypeId} {x y : Operand} {v : Value} {xs : List Value} {b : Nat} {cs : Array Value} (hT : rowB P T e m by_ = true) (hm : Nat.ble 1 m = true) (hbb : Nat.ble 1 by_ = true) (hat : ats = #[T, T])
    (hx : ev f x = v) (hy : ev f y = .slice (some ⟨b, 0, none⟩) mm mm) (hE : ListE e m v n xs E) (hs : cs.size = mm * m) (h1 : cs.all (·.oneCell') = true) (hpos : 0 < mm) (hbytes : (n + mm) * by_ ≤ 140737488355328)
    (kk : ∀ v' E', ListE e m v' (n + mm) (xs ++ cs.toList) E' → sC P ops K rest (upd f d v') (Has w0 F (E' ++ L))) :
    sC P ops K (⟨some d, .call ⟨.builtin .append, #[x, y], ats⟩, ty, pos, af, none⟩ :: rest) f (Has w0 F ((b, .cells cs e) :: (E ++ L))) := by
  intro w hw
  subst hat
  unfold sw
  rw [if_pos wanted_free]
  unfold opk
  obtain ⟨v', E', w', hr, hE', hw'⟩ := run_appendE (P := P) (w0 := w0) (F := F) (L := L) (c := mm) (ty := ty) (b := b) (o := 0) (mm := mm) (news := cs.toList) hT (Nat.le_of_ble_eq_true hm) hE hw.tail (by simp [hs]) (fun j u hj => by
    rw [Nat.zero_add, cell_has hw .here]; simpa using hj) (fun u hu => by rw [Array.all_eq_true_iff_forall_mem] at h1; exact h1 u (by simpa using hu)) hpos hbytes (Nat.le_of_ble_eq_true hbb)
  have : (execOp (ev f) ⟨some d, .call ⟨.builtin .append, #[x, y], #[T, T]⟩, ty, pos, af, none⟩).run P w = .ok (.value v') w' := by
    simp [execOp, resolve, invoke, builtin, hx, hy, hr]
  rw [this]
  exact kk v' E' hE' w' hw'
end
/-! lists of bytes -/
def u8s (l : List Nat) : List Value := l.map fun n : Nat => U8 (n : Int)
theorem u8s_len (l : List Nat) : (u8s l).length = l.length := by simp [u8s]
theorem u8s_append (l m : List Nat) : u8s (l ++ m) = u8s l ++ u8s m := by simp [u8s]
theorem u8s_one (l : List Nat) : ∀ u ∈ u8s l, u.oneCell' = true := fun u hu => by
  obtain ⟨q, _, rfl⟩ := List.mem_map.1 hu
  rfl
def BytesAt (F : Addr → Value → Prop) (a : Option Addr) (l : List Nat) : Prop := l = [] ∨ ∃ b o, a = some ⟨b, o, none⟩ ∧ ∀ (j m : Nat), l[j]? = some m → F ⟨b, o + j, none⟩ (U8 m)
theorem BytesAt.get {F : Addr → Value → Prop} {a : Option Addr} {l : List Nat} (h : BytesAt F a l) {j : Nat} (hj : j < l.length) : ∃ b o m, a = some ⟨b, o, none⟩ ∧ l[j]? = some m ∧ F ⟨b, o + j, none⟩ (U8 m) := by
  rcases h with rfl | ⟨b, o, h1, h2⟩
  · simp at hj
  · exact ⟨b, o, l[j], h1, by simp [hj], h2 j _ (by simp [hj])⟩
abbrev Bytes (e : Nat) (v : Value) (l : List Nat) (E : List (Nat × Obj)) : Prop := ListE e 1 v l.length (u8s l) E
theorem byts_nil (e : Nat) : Bytes e (.slice none 0 0) [] [] := listE_nil e 1
theorem Bytes.slice {e : Nat} {v : Value} {l : List Nat} {E : List (Nat × Obj)} (h : Bytes e v l E) : ∃ a c, v = .slice a l.length c ∧ ∀ {w0 w : World} {F : Addr → Value → Prop} {L : List (Nat × Obj)}, Has w0 F L w → (∀ p ∈ E, p ∈ L) → BytesAt (At w) a l := by
  rcases h.2 with ⟨rfl, h2, rfl⟩ | ⟨g, cap, cur, rfl, rfl, h3, h4, h5, h6⟩
  · exact ⟨none, 0, by rw [h2], fun _ _ => .inl (List.eq_nil_of_length_eq_zero h2)⟩
  · refine ⟨_, _, rfl, fun {w0 w F L} hw hs => .inr ⟨g, 0, rfl, fun j m hj => ?_⟩⟩
    show w.cell? _ = _
    rw [Nat.zero_add, cell_of_row w g j cur e (0, 0) (hw.2.2.1 (g, .cells cur e (0, 0)) (hs _ (by simp))).2]
    have e1 : (u8s l)[j]? = some (U8 m) := by simp [u8s, hj]
    rw [← h6, List.getElem?_take] at e1
    split at e1
    · simpa using e1
    · cases e1
theorem Bytes.block {e : Nat} {v : Value} {l : List Nat} {E : List (Nat × Obj)} (h : Bytes e v l E) (h0 : 0 < l.length) : ∃ g c cs, v = .slice (some ⟨g, 0, none⟩) l.length c ∧ E = [(g, .cells cs e (0, 0))] ∧ ∀ (j m : Nat), l[j]? = some m → cs[j]? = some (U8 m) := by
  rcases h.2 with ⟨rfl, h2, rfl⟩ | ⟨g, cap, cur, rfl, rfl, h3, h4, h5, h6⟩
  · omega
  · refine ⟨g, cap, cur, rfl, rfl, fun j m hj => ?_⟩
    have e1 : (u8s l)[j]? = some (U8 m) := by simp [u8s, hj]
    rw [← h6, List.getElem?_take] at e1
    split at e1
    · simpa using e1
    · cases e1
theorem byts_one (e b n : Nat) : Bytes e (.slice (some ⟨b, 0, none⟩) 1 1) [n] [(b, .cells #[U8 (n : Int)] e)] :=
  ⟨rfl, .inr ⟨b, 1, #[U8 (n : Int)], rfl, rfl, Nat.le_refl _, by decide, rfl, rfl⟩⟩
section
variable {P : Program} {f : Nat → Value} {dst : Option Nat} {ty : TypeId} {pos : String} {af : Array Edge} {gd : Option (Nat × Bool)} {w0 : World} {F : Addr → Value → Prop} {C : World → Prop} {E L : List (Nat × Obj)}
theorem v_strOfE {x : Operand} {Sx T e : Nat} {v : Value} {l : List Nat} (hS : bytesB P Sx = true) (hT : strB P T = true) (hx : ev f x = v) (hE : Bytes e v l E) (h0 : 0 < l.length) (hb : Byt l) :
    Val P f (Has w0 F (E ++ L)) ⟨dst, .convert Sx T x, ty, pos, af, gd⟩ (S l) := by
  obtain ⟨g, c, cs, rfl, rfl, hc⟩ := hE.block h0
  exact v_strOf hS hT hx rfl (.here) hb hc
theorem v_shl {x y : Operand} {t t' : TypeId} {a b c : Int} (hx : ev f x = .int .i64 a) (hy : ev f y = .int .i64 b) (hb : 0 ≤ b ∧ b ≤ 64) (hc : IntKind.i64.wrap (a * 2 ^ b.toNat) = c) : Val P f C ⟨dst, .binOp .shl t x y t', ty, pos, af, gd⟩ (.int .i64 c) :=
  ⟨fun w _ => by
    have h1 := shift_shl .i64 .i64 a b hb.1 (show b ≤ 64 from hb.2)
    rw [hc] at h1
    simp [execOp, hx, hy, eqGuard, binOp, h1]
    exact hc⟩
end
section
variable {P : Program} {fn : Func} {n t t2 t3 T b m ty : Nat} {fr : Nat × Nat} {cs : Array Value} {f : Nat → Value} {v : Value} {w0 : World} {F F0 : Addr → Value → Prop} {L K B' : List (Nat × Obj)} {R : (Addr → Value → Prop) → Value → List (Nat × Obj) → Prop}
theorem n_doneW (hr : fn.results = #[.tmp t]) (ht : t < n) (hm : More F0 F) (hs : ∀ w, Has w0 F L w → Has w0 F (B' ++ K) w) (hv : R F (f t) B') : nC (retQ P fn n (retW w0 F0 K R)) .ret f (Has w0 F L) :=
  fun w hw => ⟨f t, results_one hr ht w, B', F, hm, hs w hw, hv⟩
theorem n_done3 (hr : fn.results = #[.tmp t, .tmp t2, .tmp t3]) (ht : t < n) (ht2 : t2 < n) (ht3 : t3 < n) (hv : .tuple #[f t, f t2, f t3] = v) :
    nC (retQ P fn n (fun v' w' => v' = v ∧ Bel w0.heap.size w0 w')) .ret f (Has w0 F L) := fun w hw => by
  refine ⟨.tuple #[f t, f t2, f t3], ?_, hv, hw.1⟩
  have e : (Fa n f).tmps[t]?.getD undef = f t := by simp [Fa, ht]
  have e2 : (Fa n f).tmps[t2]?.getD undef = f t2 := by simp [Fa, ht2]
  have e3 : (Fa n f).tmps[t3]?.getD undef = f t3 := by simp [Fa, ht3]
  simp [results, hr, e, e2, e3]
theorem n_doneCT (hr : fn.results = #[.cell t T, .tmp t2]) (ht : t < n) (ht2 : t2 < n) (hp : f t = .pointer (some ⟨b, 0, none⟩))
    (hT : aggB P T m = true) (hl : Look L b (.cells cs ty fr)) (hm : cs.size = m) (hv : .tuple #[.agg cs, f t2] = v) : nC (retQ P fn n (fun v' w' => v' = v ∧ Bel w0.heap.size w0 w')) .ret f (Has w0 F L) := fun w hw => by
  refine ⟨.tuple #[.agg cs, f t2], ?_, hv, hw.1⟩
  have e : (Fa n f).tmps[t]?.getD undef = f t := by simp [Fa, ht]
  have e2 : (Fa n f).tmps[t2]?.getD undef = f t2 := by simp [Fa, ht2]
  subst hm
  have := run_loadN (P := P) (w := w) (b := b) (o := 0) (cs := cs.toList) (by simpa using hT) (fun j v hj => by
    rw [cell_has hw hl]; simpa using hj)
  simp only [Instr.loadAt, Instr.sureAddr, Sem.run_bind, Sem.run_pure, Result.andThen] at this
  simp [results, hr, e, e2, hp, asAddr, this]
theorem n_doneCTT (hr : fn.results = #[.cell t T, .tmp t2, .tmp t3]) (ht : t < n) (ht2 : t2 < n) (ht3 : t3 < n) (hp : f t = .pointer (some ⟨b, 0, none⟩))
    (hT : aggB P T m = true) (hl : Look L b (.cells cs ty fr)) (hm : cs.size = m) (hv : .tuple #[.agg cs, f t2, f t3] = v) : nC (retQ P fn n (fun v' w' => v' = v ∧ Bel w0.heap.size w0 w')) .ret f (Has w0 F L) := fun w hw => by
  refine ⟨.tuple #[.agg cs, f t2, f t3], ?_, hv, hw.1⟩
  have e : (Fa n f).tmps[t]?.getD undef = f t := by simp [Fa, ht]
  have e2 : (Fa n f).tmps[t2]?.getD undef = f t2 := by simp [Fa, ht2]
  have e3 : (Fa n f).tmps[t3]?.getD undef = f t3 := by simp [Fa, ht3]
  subst hm
  have := run_loadN (P := P) (w := w) (b := b) (o := 0) (cs := cs.toList) (by simpa using hT) (fun j v hj => by
    rw [cell_has hw hl]; simpa using hj)
  simp only [Instr.loadAt, Instr.sureAddr, Sem.run_bind, Sem.run_pure, Result.andThen] at this
  simp [results, hr, e, e2, e3, hp, asAddr, this]
end
theorem Has.less {w0 w : World} {F F' : Addr → Value → Prop} {L : List (Nat × Obj)} (h : Has w0 F' L w) (hm : More F F') : Has w0 F L w := ⟨h.1, h.2.1, h.2.2.1, fun a v hF => h.2.2.2 a v (hm a v hF)⟩
/-- a call that changes the blocks B, and of which no more is to be known than what it hands back -/
theorem s_callB {P : Program} {ops : Array Oper} {K : (Nat → Value) → World → Prop} {rest : List Oper} {f : Nat → Value} {d : Nat} {ty : TypeId} {pos : String} {af : Array Edge} {w0 : World} {F : Addr → Value → Prop} {B L : List (Nat × Obj)}
    {k : FuncId} {xs : List Operand} {ats : Array TypeId} {R : Value → List (Nat × Obj) → Prop} (hk : hasBody P k = true) (hg : GivesW P k (xs.map (ev f)) F B (fun _ v B' => R v B'))
    (kk : ∀ (v : Value) (B' : List (Nat × Obj)), R v B' → sC P ops K rest (upd f d v) (Has w0 F (B' ++ L))) :
    sC P ops K (⟨some d, .call ⟨.value (.func k), xs.toArray, ats⟩, ty, pos, af, none⟩ :: rest) f (Has w0 F (B ++ L)) :=
  s_callW hk hg fun _ v B' hm hr => s_weak (fun _ hw => hw.less hm) (kk v B' hr)
theorem Bytes.snoc {e : Nat} {v : Value} {l : List Nat} {E : List (Nat × Obj)} {x : Int} {b : Nat} (h : ListE e 1 v (l.length + 1) (u8s l ++ (U8 x).cells.toList) E) (hx : x = (b : Int)) : Bytes e v (l ++ [b]) E := by
  subst hx
  unfold Bytes
  rw [u8s_append, List.length_append]
  exact h
theorem Bytes.push {e : Nat} {v : Value} {l m : List Nat} {E : List (Nat × Obj)} (h : ListE e 1 v (l.length + m.length) (u8s l ++ u8s m) E) : Bytes e v (l ++ m) E := by
  unfold Bytes
  rw [u8s_append, List.length_append]
  exact h
/-! what is written, number by number -/
def bodyTo (a : ActS) (k : Nat) : List Nat := (a.list.take k).flatMap fun n => digs (zig n)
theorem body_five (a : ActS) : bodyTo a 5 = bodyOf a := by simp [bodyTo, bodyOf, ActS.list]
theorem body_step {a : ActS} {k : Nat} {n : Int} (h : a.list[k]? = some n) : bodyTo a (k + 1) = bodyTo a k ++ digs (zig n) := by
  unfold bodyTo
  rw [List.take_add_one, h]; simp
theorem noted_list {a : ActS} (h : noted a = true) {k : Nat} {n : Int} (hk : a.list[k]? = some n) : notedI n = true := by
  obtain ⟨h1, h2, h3, h4, h5⟩ := noted_all h
  have := List.mem_of_getElem? hk
  simp only [ActS.list, List.mem_cons, List.not_mem_nil, or_false] at this
  rcases this with rfl | rfl | rfl | rfl | rfl <;> assumption
theorem body_room {a : ActS} (h : noted a = true) : ∀ k, (bodyTo a k).length ≤ 5 * k
  | 0 => by simp [bodyTo]
  | k + 1 => by
    have ih := body_room h k
    cases hk : a.list[k]? with
    | none => unfold bodyTo at ih ⊢; rw [List.take_add_one, hk]; simp only [Option.toList_none, List.append_nil]; omega
    | some n =>
      have := digs_len5 (noted_list h hk)
      rw [body_step hk, List.length_append]; omega
theorem ActS.get (a : ActS) {k : Nat} (hk : k < 5) : ∃ n, a.list[k]? = some n ∧ a.cells[((k : Nat) : Int).toNat * 1]? = some (I n) := by
  have : k = 0 ∨ k = 1 ∨ k = 2 ∨ k = 3 ∨ k = 4 := by omega
  rcases this with rfl | rfl | rfl | rfl | rfl <;> exact ⟨_, rfl, rfl⟩
structure FB where
  k : Nat
  v : Value
  E : List (Nat × Obj)
structure AN where
  u : Nat
  m : List Nat
  v : Value
  E : List (Nat × Obj)
/-! numbers of at most five digits -/
structure Dig5 (t : List Nat) (j u : Nat) : Prop where
  j5 : j ≤ 5
  ub : u < 128 ^ j
  jl : j ≤ t.length
  rel : undig 5 t = (undig (5 - j) (t.drop j)).map fun p => (u + 128 ^ j * p.1, p.2)
theorem dig5_start (t : List Nat) : Dig5 t 0 0 := ⟨by omega, by decide, by omega, by
  simp only [Nat.sub_zero, List.drop_zero, Nat.pow_zero, Nat.one_mul, Nat.zero_add]
  cases undig 5 t <;> rfl⟩
theorem Dig5.step {t : List Nat} {j u b : Nat} (o : Dig5 t j u) (hb : t[j]? = some b) (h1 : ¬ b < 128) (h2 : b < 256) (hj : j < 5) : Dig5 t (j + 1) (u + b % 128 * 128 ^ j) := by
  have e : b % 128 = b - 128 := by omega
  rw [e]
  refine ⟨by omega, ?_, (List.getElem?_eq_some_iff.1 hb).1, ?_⟩
  · have := o.ub
    have h3 : (b - 128) * 128 ^ j ≤ 127 * 128 ^ j := Nat.mul_le_mul_right _ (by omega)
    rw [Nat.pow_succ]; omega
  · rw [o.rel, drop_cons hb, show 5 - j = (5 - (j + 1)) + 1 by omega, undig, if_neg (by omega)]
    cases undig (5 - (j + 1)) (t.drop (j + 1)) with
    | none => rfl
    | some p =>
      simp only [Option.map_some]
      congr 2
      rw [Nat.mul_add, Nat.pow_succ, ← Nat.mul_assoc, Nat.mul_comm (128 ^ j) (b - 128), Nat.add_assoc]
theorem Dig5.stop {t : List Nat} {j u : Nat} (o : Dig5 t j u) (h : t.length ≤ j ∨ 5 ≤ j) : undig 5 t = none := by
  have h5 := o.j5
  rw [o.rel]
  by_cases e : j = 5
  · subst e; rfl
  · rw [List.drop_eq_nil_of_le (by omega), show 5 - j = (4 - j) + 1 by omega]; rfl
theorem Dig5.last {t : List Nat} {j u b : Nat} (o : Dig5 t j u) (hb : t[j]? = some b) (h1 : b < 128) (hj : j < 5) : undig 5 t = some (u + b % 128 * 128 ^ j, t.drop (j + 1)) := by
  rw [Nat.mod_eq_of_lt h1, o.rel, drop_cons hb, show 5 - j = (4 - j) + 1 by omega, undig, if_pos h1, Option.map_some, Nat.mul_comm (128 ^ j) b]
theorem pow5 {j : Nat} (h : j < 5) : 128 ^ j ≤ 268435456 ∧ (2 : Int) ^ ((7 : Int) * ((j : Nat) : Int)).toNat = ((128 ^ j : Nat) : Int) := by
  have : j = 0 ∨ j = 1 ∨ j = 2 ∨ j = 3 ∨ j = 4 := by omega
  rcases this with rfl | rfl | rfl | rfl | rfl <;> exact ⟨by decide, rfl⟩
theorem dig5_fits {b p : Nat} (hp : p ≤ 268435456) : b % 128 * p ≤ 34359738368 := by
  have : b % 128 * p ≤ 127 * 268435456 := Nat.mul_le_mul (by omega) hp
  omega
theorem shl5 {b j : Nat} (hj : j < 5) : IntKind.i64.wrap (((b % 128 : Nat) : Int) * 2 ^ ((7 : Int) * ((j : Nat) : Int)).toNat) = ((b % 128 * 128 ^ j : Nat) : Int) := by
  rw [(pow5 hj).2, ← Int.natCast_mul]
  have := dig5_fits (b := b) (pow5 hj).1
  exact wr_in (by omega) (by omega)
def rnV (l : List Nat) : Int := match undig 5 l with
  | none => 0
  | some p => zag p.1
def rnK (l : List Nat) : Nat := match undig 5 l with
  | none => 0
  | some p => l.length - p.2.length
def rnB (l : List Nat) : Bool := (undig 5 l).isSome
def numR (l : List Nat) : Value := .tuple #[I (rnV l), I (rnK l : Nat), .bool (rnB l)]
theorem numR_no {l : List Nat} (h : undig 5 l = none) : .tuple #[I 0, I 0, .bool false] = numR l := by simp [numR, rnV, rnK, rnB, h]
theorem numR_yes {l : List Nat} {u j : Nat} (h : undig 5 l = some (u, l.drop (j + 1))) (hj : j < l.length) : .tuple #[I (zag u), I ((j : Int) + 1), .bool true] = numR l := by
  simp only [numR, rnV, rnK, rnB, h, Option.isSome_some, List.length_drop]
  congr 5
  omega
theorem zag_odd5 {u : Nat} (h : ¬ ((u % 2 : Nat) : Int) = 0) : (-((u : Int) + 1)).tdiv 2 = zag u := by
  unfold zag
  rw [if_pos (by omega), Int.neg_tdiv, show ((u : Int) + 1).tdiv 2 = (((u + 1) / 2 : Nat) : Int) from tdiv_nat (u + 1) 2]
  omega
theorem zag_even5 {u : Nat} (h : ((u % 2 : Nat) : Int) = 0) : ((u / 2 : Nat) : Int) = zag u := by unfold zag; rw [if_neg (by omega)]
theorem zag_bound (u : Nat) : -(u : Int) - 1 ≤ zag u ∧ zag u ≤ u := by unfold zag; split <;> omega
theorem undig_drop : ∀ (f : Nat) {l : List Nat} {u : Nat} {r : List Nat}, undig f l = some (u, r) → ∃ k, k ≤ l.length ∧ r = l.drop k
  | 0, l, u, r, h => by simp [undig] at h
  | f + 1, [], u, r, h => by simp [undig] at h
  | f + 1, b :: l, u, r, h => by
    unfold undig at h
    split at h
    · simp at h
      exact ⟨1, by simp, h.2.symm⟩
    · cases hq : undig f l with
      | none => rw [hq] at h; cases h
      | some p =>
        rw [hq] at h
        simp at h
        obtain ⟨k, h2, h3⟩ := undig_drop f (show undig f l = some (p.1, p.2) from hq)
        exact ⟨k + 1, by simp only [List.length_cons]; omega, by rw [← h.2, h3]; rfl⟩
theorem rn_yes {l : List Nat} (h : rnB l = true) : ∃ u, undig 5 l = some (u, l.drop (rnK l)) ∧ rnV l = zag u ∧ rnK l ≤ l.length := by
  unfold rnB at h
  cases hq : undig 5 l with
  | none => rw [hq] at h; cases h
  | some p =>
    obtain ⟨k, h2, h3⟩ := undig_drop 5 (show undig 5 l = some (p.1, p.2) from hq)
    have e : rnK l = k := by
      simp only [rnK, hq, h3, List.length_drop]; omega
    refine ⟨p.1, by rw [e, ← h3], by simp [rnV, hq], by omega⟩
theorem rn_no {l : List Nat} (h : rnB l = false) : undig 5 l = none := by
  unfold rnB at h
  cases hq : undig 5 l with
  | none => rfl
  | some p => rw [hq] at h; cases h
/-! five of them, one behind the other -/
def nums5 : Nat → List Nat → Option (List Nat × List Nat)
  | 0, l => some ([], l)
  | k + 1, l => match nums5 k l with
    | none => none
    | some (us, t) => (undig 5 t).map fun p => (us ++ [p.1], p.2)
theorem nums5_step {k : Nat} {l us t : List Nat} (h : nums5 k l = some (us, t)) : nums5 (k + 1) l = (undig 5 t).map fun p => (us ++ [p.1], p.2) := by simp only [nums5, h]
theorem nums5_none {k : Nat} {l : List Nat} (h : nums5 k l = none) : ∀ m, nums5 (k + m) l = none
  | 0 => h
  | m + 1 => by
    have := nums5_none h m
    rw [show k + (m + 1) = (k + m) + 1 by omega]
    simp only [nums5, this]
theorem nums5_body {x : ActS} (h : noted x = true) (r : List Nat) : nums5 5 (bodyOf x ++ r) = some ([zig x.kind, zig x.a, zig x.b, zig x.c, zig x.n], r) := by
  obtain ⟨h1, h2, h3, h4, h5⟩ := noted_all h
  have e1 := undig_digs 4 _ (digs (zig x.a) ++ (digs (zig x.b) ++ (digs (zig x.c) ++ (digs (zig x.n) ++ r)))) (zig_lt h1)
  have e2 := undig_digs 4 _ (digs (zig x.b) ++ (digs (zig x.c) ++ (digs (zig x.n) ++ r))) (zig_lt h2)
  have e3 := undig_digs 4 _ (digs (zig x.c) ++ (digs (zig x.n) ++ r)) (zig_lt h3)
  have e4 := undig_digs 4 _ (digs (zig x.n) ++ r) (zig_lt h4)
  have e5 := undig_digs 4 _ r (zig_lt h5)
  simp only [nums5, bodyOf, List.append_assoc]
  simp only [e1, e2, e3, e4, e5, Option.map_some]
  rfl
def gNums (l : List Nat) : Option (List Nat × List Nat) := nums5 5 (l.drop 1)
def zeroA : ActS := ⟨0, 0, 0, 0, 0⟩
def gAct (l : List Nat) : ActS := match gNums l with
  | none => zeroA
  | some p => actOf p.1
def gOk (l : List Nat) : Bool := (gNums l).isSome
def guessR (l : List Nat) : Value := .tuple #[.agg (gAct l).cells, .bool (gOk l)]
theorem guess_no {l : List Nat} (h : gNums l = none) : .tuple #[.agg zeroA.cells, .bool false] = guessR l := by simp [guessR, gAct, gOk, h]
theorem guess_yes {l us t : List Nat} (h : gNums l = some (us, t)) (hu : us.length = 5) : .tuple #[.agg (act5 us).cells, .bool true] = guessR l := by simp [guessR, gAct, gOk, h, act5_of hu]
structure GS where
  k : Nat
  us : List Nat
  rest : List Nat
structure GsOk (B : List Nat) (s : GS) : Prop where
  k5 : s.k ≤ 5
  ul : s.us.length = s.k
  run : nums5 s.k B = some (s.us, s.rest)
  byt : Byt s.rest
  len : s.rest.length ≤ B.length
theorem GsOk.start {l : List Nat} (hb : Byt l) : GsOk (l.drop 1) ⟨0, [], l.drop 1⟩ := ⟨Nat.zero_le _, rfl, rfl, hb.drop 1, Nat.le_refl _⟩
theorem GsOk.next {B : List Nat} {s : GS} (o : GsOk B s) (hk : s.k < 5) {u : Nat} (hu : undig 5 s.rest = some (u, s.rest.drop (rnK s.rest))) : GsOk B ⟨s.k + 1, s.us ++ [u], s.rest.drop (rnK s.rest)⟩ := by
  have h1 := o.len
  refine ⟨hk, by simp [o.ul], ?_, o.byt.drop _, by simp only [List.length_drop]; omega⟩
  rw [nums5_step o.run, hu]; rfl
theorem GsOk.gone {B : List Nat} {s : GS} (o : GsOk B s) (hk : s.k < 5) (hu : undig 5 s.rest = none) : nums5 5 B = none := by
  have h1 : nums5 (s.k + 1) B = none := by rw [nums5_step o.run, hu]; rfl
  have := nums5_none h1 (4 - s.k)
  rwa [show s.k + 1 + (4 - s.k) = 5 by omega] at this
theorem guess_nil {l : List Nat} (h : l = []) : gNums l = none := by subst h; rfl
/-! the frame in front -/
theorem stands_nums {x : ActS} {l : List Nat} (h : Stands x l) : ∃ t, gNums l = some ([zig x.kind, zig x.a, zig x.b, zig x.c, zig x.n], t) := by
  obtain ⟨nx, r, hr⟩ := h
  have e : l.drop 1 = bodyOf x ++ ([(sumOf (bodyOf x)).1 % 251, (sumOf (bodyOf x)).2 % 251] ++ r) := by rw [← hr]; simp [frameOf]
  exact ⟨_, by unfold gNums; rw [e]; exact nums5_body nx _⟩
theorem first_gone {l : List Nat} (h : gOk l = false) : first? l = none := (first_none _).2 fun x hx => by
  obtain ⟨t, ht⟩ := stands_nums hx
  simp [gOk, ht] at h
theorem first_other {l : List Nat} (h : gOk l = true) (hno : ¬ (noted (gAct l) = true ∧ frameOf (gAct l) <+: l)) : first? l = none := (first_none _).2 fun x hx => by
  obtain ⟨t, ht⟩ := stands_nums hx
  have e : gAct l = x := by simp only [gAct, ht]; exact actOf_zig x
  rw [e] at hno
  exact hno hx
theorem first_this {l : List Nat} (h1 : noted (gAct l) = true) (h2 : frameOf (gAct l) <+: l) : first? l = some (gAct l) := (first_iff _ _).2 ⟨h1, h2⟩
def rfAct (l : List Nat) : ActS := (first? l).getD zeroA
def rfLen (l : List Nat) : Nat := match first? l with
  | none => 0
  | some x => (frameOf x).length
def rfOk (l : List Nat) : Bool := (first? l).isSome
def frontR (l : List Nat) : Value := .tuple #[.agg (rfAct l).cells, I (rfLen l : Nat), .bool (rfOk l)]
theorem front_no {l : List Nat} (h : first? l = none) : .tuple #[.agg zeroA.cells, I 0, .bool false] = frontR l := by simp [frontR, rfAct, rfLen, rfOk, h]
theorem front_yes {l : List Nat} {x : ActS} (h : first? l = some x) : .tuple #[.agg x.cells, I ((frameOf x).length : Nat), .bool true] = frontR l := by simp [frontR, rfAct, rfLen, rfOk, h]
theorem rf_yes {l : List Nat} (h : rfOk l = true) : first? l = some (rfAct l) ∧ rfLen l = (frameOf (rfAct l)).length := by
  unfold rfOk at h
  cases hq : first? l with
  | none => rw [hq] at h; cases h
  | some x => exact ⟨by simp [rfAct, hq], by simp [rfAct, rfLen, hq]⟩
theorem rf_no {l : List Nat} (h : rfOk l = false) : first? l = none := by
  unfold rfOk at h
  cases hq : first? l with
  | none => rfl
  | some x => rw [hq] at h; cases h
/-- whether a text begins with another -/
def begins (l f : List Nat) : Bool := decide (l.take f.length = f)
theorem begins_iff {l f : List Nat} : begins l f = true ↔ f <+: l := by
  unfold begins
  rw [decide_eq_true_iff, List.prefix_iff_eq_take]
  exact eq_comm
theorem begins_short {l f : List Nat} (h : ¬ f.length ≤ l.length) : begins l f = false := by
  cases hq : begins l f with
  | false => rfl
  | true => exact absurd (begins_iff.1 hq).length_le h
section
variable {P : Program} {f : Nat → Value} {dst : Option Nat} {ty : TypeId} {pos : String} {af : Array Edge} {gd : Option (Nat × Bool)} {C : World → Prop}
def least (a b : Int) : Int := if b < a then b else a
theorem v_least {x y : Operand} {ats : Array TypeId} {a b : Int} (hx : ev f x = I a) (hy : ev f y = I b) : Val P f C ⟨dst, .call ⟨.builtin .min, #[x, y], ats⟩, ty, pos, af, gd⟩ (I (least a b)) :=
  ⟨fun w _ => by simp [execOp, resolve, invoke, builtin, hx, hy, Builtin.min_, Builtin.min2, least]⟩
end
end Go.Proofs.Ytmkboljfbmlebaa
/- Contracts of the developers' list, Good, fold, unfold, checksum, and of strings.HasPrefix. Conditions: bytes that lie in memory that is known; texts whose parts are bytes. -/
namespace Go.Proofs.Ytmkboljfbmlebaa
open Go.RowKit
set_option linter.unusedSimpArgs false
set_option linter.unusedVariables false
set_option maxRecDepth 100000
attribute [local irreducible] cC sC nC rC qw

theorem g_list (a : ActS) (w : World) : Gives Try.prog 76 [.agg a.cells] w (.agg a.cells) := by
  refine gives_of Try.func76 rfl Try.ntmps76 (by simp) ?_
  refine r_seq (by kernel_rfl) ?_
  refine s_box (v := .agg _) rfl (fun b1 => ?_)
  refine s_alloc (z := .agg zeroA.cells) (by kernel_rfl) (fun b2 => ?_)
  refine s_nil ?_
  refine r_seq (by kernel_rfl) ?_
  refine s_val (v_field (fo := 0) (by kernel_rfl) rfl) ?_
  refine s_val (v_load1 (v := .int .i64 _) (by kernel_rfl) rfl (.there .here) rfl) ?_
  refine s_val (v_field (fo := 1) (by kernel_rfl) rfl) ?_
  refine s_val (v_load1 (v := .int .i64 _) (by kernel_rfl) rfl (.there .here) rfl) ?_
  refine s_val (v_field (fo := 2) (by kernel_rfl) rfl) ?_
  refine s_val (v_load1 (v := .int .i64 _) (by kernel_rfl) rfl (.there .here) rfl) ?_
  refine s_val (v_field (fo := 3) (by kernel_rfl) rfl) ?_
  refine s_val (v_load1 (v := .int .i64 _) (by kernel_rfl) rfl (.there .here) rfl) ?_
  refine s_val (v_field (fo := 4) (by kernel_rfl) rfl) ?_
  refine s_val (v_load1 (v := .int .i64 _) (by kernel_rfl) rfl (.there .here) rfl) ?_
  refine s_val (v_build (vs := [(0, .int .i64 _), (1, .int .i64 _), (2, .int .i64 _), (3, .int .i64 _), (4, .int .i64 _)]) (cs := a.cells) rfl (by kernel_rfl)) ?_
  refine s_storeA (m := 5) (by kernel_rfl) rfl rfl .here rfl rfl (ActS.all1 _) ?_
  refine s_nil ?_
  refine c_ret ?_
  refine n_doneC (m := 5) rfl (by decide) rfl (by kernel_rfl) .here rfl (congrArg Value.agg ?_)
  rfl

theorem g_Good4 (a : ActS) (w : World) : Gives Try.prog 53 [.agg a.cells] w (.bool (noted a)) := by
  refine gives_of Try.func53 rfl Try.ntmps53 (by simp) ?_
  refine r_seq (by kernel_rfl) ?_
  refine s_box (v := .agg _) rfl (fun b1 => ?_)
  refine s_val (v_assign (v := .bool _) rfl) ?_
  refine s_nil ?_
  refine c_seq ?_
  refine r_seq (by kernel_rfl) ?_
  refine s_val (v_loadA (m := 5) (by kernel_rfl) rfl .here rfl) ?_
  refine s_call (by kernel_rfl) (fun w hw => g_list _ w) ?_
  refine s_val (v_move (v := .int .i64 _) rfl) ?_
  refine s_nil ?_
  refine c_block ?_
  refine c_rounds 6 ?_
  refine r_succ ?_
  refine r_seq (by kernel_rfl) ?_
  refine s_val (v_lss (k := .i64) rfl rfl) ?_
  refine s_nil ?_
  refine c_seq ?_
  refine c_condTh rfl rfl rfl ?_
  refine c_skip ?_
  refine n_then ?_
  refine c_seq ?_
  refine c_block ?_
  refine r_seq (by kernel_rfl) ?_
  refine s_val (v_indexS (len := 5) (t := 3) (m := 1) (k := .i64) (v := I a.kind) (by kernel_rfl) (by kernel_rfl) rfl rfl (by decide) rfl) ?_
  refine s_val (v_assign (v := .int .i64 _) rfl) ?_
  refine s_nil ?_
  refine r_seq (by kernel_rfl) ?_
  refine s_val (v_move (v := .int .i64 _) rfl) ?_
  refine s_val (v_lss (k := .i64) rfl rfl) ?_
  refine s_val (v_move (v := .bool _) rfl) ?_
  refine s_split (s := 12) rfl (fun h12 => ?_) (fun h12 => ?_)
  · refine s_pass rfl rfl h12 ?_
    refine s_pass rfl rfl h12 ?_
    refine s_val (v_pickT (v := .bool _) rfl h12 rfl) ?_
    refine s_nil ?_
    refine c_condTh rfl rfl rfl ?_
    refine r_seq (by kernel_rfl) ?_
    refine s_val (v_assign (v := .bool _) rfl) ?_
    refine s_nil ?_
    refine c_ret ?_
    refine n_bret ?_
    refine n_ret ?_
    refine n_ret ?_
    refine n_bret ?_
    refine n_ret ?_
    refine n_done rfl (by decide) (Eq.trans (b := .bool _) rfl (congrArg Value.bool ?_))
    symm
    rw [Bool.eq_false_iff]
    intro hno
    obtain ⟨q1, q2, q3, q4, q5⟩ := noted_all hno
    rw [notedI_iff] at q1 q2 q3 q4 q5
    simp only [decide_eq_true_eq, decide_eq_false_iff_not] at *
    omega
  refine s_want rfl rfl h12 ?_
  refine s_val (v_move (v := .int .i64 _) rfl) ?_
  refine s_want rfl rfl h12 ?_
  refine s_val (v_gtr (k := .i64) rfl rfl) ?_
  refine s_val (v_pickF (v := .bool _) rfl h12 rfl) ?_
  refine s_nil ?_
  refine c_cond rfl rfl (fun h15 => ?_) (fun h15 => ?_)
  · refine r_seq (by kernel_rfl) ?_
    refine s_val (v_assign (v := .bool _) rfl) ?_
    refine s_nil ?_
    refine c_ret ?_
    refine n_bret ?_
    refine n_ret ?_
    refine n_ret ?_
    refine n_bret ?_
    refine n_ret ?_
    refine n_done rfl (by decide) (Eq.trans (b := .bool _) rfl (congrArg Value.bool ?_))
    symm
    rw [Bool.eq_false_iff]
    intro hno
    obtain ⟨q1, q2, q3, q4, q5⟩ := noted_all hno
    rw [notedI_iff] at q1 q2 q3 q4 q5
    simp only [decide_eq_true_eq, decide_eq_false_iff_not] at *
    omega
  refine c_skip ?_
  refine n_bnormal ?_
  refine n_then ?_
  refine r_list (by kernel_rfl) ?_
  refine s_val (v_addL (c := 1) rfl rfl (by decide) (by decide)) ?_
  refine s_val (v_move (v := .int .i64 _) rfl) ?_
  refine s_end ?_
  refine n_thenR ?_
  refine r_succ ?_
  refine r_seq (by kernel_rfl) ?_
  refine s_val (v_lss (k := .i64) rfl rfl) ?_
  refine s_nil ?_
  refine c_seq ?_
  refine c_condTh rfl rfl rfl ?_
  refine c_skip ?_
  refine n_then ?_
  refine c_seq ?_
  refine c_block ?_
  refine r_seq (by kernel_rfl) ?_
  refine s_val (v_indexS (len := 5) (t := 3) (m := 1) (k := .i64) (v := I a.a) (by kernel_rfl) (by kernel_rfl) rfl rfl (by decide) rfl) ?_
  refine s_val (v_assign (v := .int .i64 _) rfl) ?_
  refine s_nil ?_
  refine r_seq (by kernel_rfl) ?_
  refine s_val (v_move (v := .int .i64 _) rfl) ?_
  refine s_val (v_lss (k := .i64) rfl rfl) ?_
  refine s_val (v_move (v := .bool _) rfl) ?_
  refine s_split (s := 12) rfl (fun h12 => ?_) (fun h12 => ?_)
  · refine s_pass rfl rfl h12 ?_
    refine s_pass rfl rfl h12 ?_
    refine s_val (v_pickT (v := .bool _) rfl h12 rfl) ?_
    refine s_nil ?_
    refine c_condTh rfl rfl rfl ?_
    refine r_seq (by kernel_rfl) ?_
    refine s_val (v_assign (v := .bool _) rfl) ?_
    refine s_nil ?_
    refine c_ret ?_
    refine n_bret ?_
    refine n_ret ?_
    refine n_ret ?_
    refine n_bret ?_
    refine n_ret ?_
    refine n_done rfl (by decide) (Eq.trans (b := .bool _) rfl (congrArg Value.bool ?_))
    symm
    rw [Bool.eq_false_iff]
    intro hno
    obtain ⟨q1, q2, q3, q4, q5⟩ := noted_all hno
    rw [notedI_iff] at q1 q2 q3 q4 q5
    simp only [decide_eq_true_eq, decide_eq_false_iff_not] at *
    omega
  refine s_want rfl rfl h12 ?_
  refine s_val (v_move (v := .int .i64 _) rfl) ?_
  refine s_want rfl rfl h12 ?_
  refine s_val (v_gtr (k := .i64) rfl rfl) ?_
  refine s_val (v_pickF (v := .bool _) rfl h12 rfl) ?_
  refine s_nil ?_
  refine c_cond rfl rfl (fun h15 => ?_) (fun h15 => ?_)
  · refine r_seq (by kernel_rfl) ?_
    refine s_val (v_assign (v := .bool _) rfl) ?_
    refine s_nil ?_
    refine c_ret ?_
    refine n_bret ?_
    refine n_ret ?_
    refine n_ret ?_
    refine n_bret ?_
    refine n_ret ?_
    refine n_done rfl (by decide) (Eq.trans (b := .bool _) rfl (congrArg Value.bool ?_))
    symm
    rw [Bool.eq_false_iff]
    intro hno
    obtain ⟨q1, q2, q3, q4, q5⟩ := noted_all hno
    rw [notedI_iff] at q1 q2 q3 q4 q5
    simp only [decide_eq_true_eq, decide_eq_false_iff_not] at *
    omega
  refine c_skip ?_
  refine n_bnormal ?_
  refine n_then ?_
  refine r_list (by kernel_rfl) ?_
  refine s_val (v_addL (c := 2) rfl rfl (by decide) (by decide)) ?_
  refine s_val (v_move (v := .int .i64 _) rfl) ?_
  refine s_end ?_
  refine n_thenR ?_
  refine r_succ ?_
  refine r_seq (by kernel_rfl) ?_
  refine s_val (v_lss (k := .i64) rfl rfl) ?_
  refine s_nil ?_
  refine c_seq ?_
  refine c_condTh rfl rfl rfl ?_
  refine c_skip ?_
  refine n_then ?_
  refine c_seq ?_
  refine c_block ?_
  refine r_seq (by kernel_rfl) ?_
  refine s_val (v_indexS (len := 5) (t := 3) (m := 1) (k := .i64) (v := I a.b) (by kernel_rfl) (by kernel_rfl) rfl rfl (by decide) rfl) ?_
  refine s_val (v_assign (v := .int .i64 _) rfl) ?_
  refine s_nil ?_
  refine r_seq (by kernel_rfl) ?_
  refine s_val (v_move (v := .int .i64 _) rfl) ?_
  refine s_val (v_lss (k := .i64) rfl rfl) ?_
  refine s_val (v_move (v := .bool _) rfl) ?_
  refine s_split (s := 12) rfl (fun h12 => ?_) (fun h12 => ?_)
  · refine s_pass rfl rfl h12 ?_
    refine s_pass rfl rfl h12 ?_
    refine s_val (v_pickT (v := .bool _) rfl h12 rfl) ?_
    refine s_nil ?_
    refine c_condTh rfl rfl rfl ?_
    refine r_seq (by kernel_rfl) ?_
    refine s_val (v_assign (v := .bool _) rfl) ?_
    refine s_nil ?_
    refine c_ret ?_
    refine n_bret ?_
    refine n_ret ?_
    refine n_ret ?_
    refine n_bret ?_
    refine n_ret ?_
    refine n_done rfl (by decide) (Eq.trans (b := .bool _) rfl (congrArg Value.bool ?_))
    symm
    rw [Bool.eq_false_iff]
    intro hno
    obtain ⟨q1, q2, q3, q4, q5⟩ := noted_all hno
    rw [notedI_iff] at q1 q2 q3 q4 q5
    simp only [decide_eq_true_eq, decide_eq_false_iff_not] at *
    omega
  refine s_want rfl rfl h12 ?_
  refine s_val (v_move (v := .int .i64 _) rfl) ?_
  refine s_want rfl rfl h12 ?_
  refine s_val (v_gtr (k := .i64) rfl rfl) ?_
  refine s_val (v_pickF (v := .bool _) rfl h12 rfl) ?_
  refine s_nil ?_
  refine c_cond rfl rfl (fun h15 => ?_) (fun h15 => ?_)
  · refine r_seq (by kernel_rfl) ?_
    refine s_val (v_assign (v := .bool _) rfl) ?_
    refine s_nil ?_
    refine c_ret ?_
    refine n_bret ?_
    refine n_ret ?_
    refine n_ret ?_
    refine n_bret ?_
    refine n_ret ?_
    refine n_done rfl (by decide) (Eq.trans (b := .bool _) rfl (congrArg Value.bool ?_))
    symm
    rw [Bool.eq_false_iff]
    intro hno
    obtain ⟨q1, q2, q3, q4, q5⟩ := noted_all hno
    rw [notedI_iff] at q1 q2 q3 q4 q5
    simp only [decide_eq_true_eq, decide_eq_false_iff_not] at *
    omega
  refine c_skip ?_
  refine n_bnormal ?_
  refine n_then ?_
  refine r_list (by kernel_rfl) ?_
  refine s_val (v_addL (c := 3) rfl rfl (by decide) (by decide)) ?_
  refine s_val (v_move (v := .int .i64 _) rfl) ?_
  refine s_end ?_
  refine n_thenR ?_
  refine r_succ ?_
  refine r_seq (by kernel_rfl) ?_
  refine s_val (v_lss (k := .i64) rfl rfl) ?_
  refine s_nil ?_
  refine c_seq ?_
  refine c_condTh rfl rfl rfl ?_
  refine c_skip ?_
  refine n_then ?_
  refine c_seq ?_
  refine c_block ?_
  refine r_seq (by kernel_rfl) ?_
  refine s_val (v_indexS (len := 5) (t := 3) (m := 1) (k := .i64) (v := I a.c) (by kernel_rfl) (by kernel_rfl) rfl rfl (by decide) rfl) ?_
  refine s_val (v_assign (v := .int .i64 _) rfl) ?_
  refine s_nil ?_
  refine r_seq (by kernel_rfl) ?_
  refine s_val (v_move (v := .int .i64 _) rfl) ?_
  refine s_val (v_lss (k := .i64) rfl rfl) ?_
  refine s_val (v_move (v := .bool _) rfl) ?_
  refine s_split (s := 12) rfl (fun h12 => ?_) (fun h12 => ?_)
  · refine s_pass rfl rfl h12 ?_
    refine s_pass rfl rfl h12 ?_
    refine s_val (v_pickT (v := .bool _) rfl h12 rfl) ?_
    refine s_nil ?_
    refine c_condTh rfl rfl rfl ?_
    refine r_seq (by kernel_rfl) ?_
    refine s_val (v_assign (v := .bool _) rfl) ?_
    refine s_nil ?_
    refine c_ret ?_
    refine n_bret ?_
    refine n_ret ?_
    refine n_ret ?_
    refine n_bret ?_
    refine n_ret ?_
    refine n_done rfl (by decide) (Eq.trans (b := .bool _) rfl (congrArg Value.bool ?_))
    symm
    rw [Bool.eq_false_iff]
    intro hno
    obtain ⟨q1, q2, q3, q4, q5⟩ := noted_all hno
    rw [notedI_iff] at q1 q2 q3 q4 q5
    simp only [decide_eq_true_eq, decide_eq_false_iff_not] at *
    omega
  refine s_want rfl rfl h12 ?_
  refine s_val (v_move (v := .int .i64 _) rfl) ?_
  refine s_want rfl rfl h12 ?_
  refine s_val (v_gtr (k := .i64) rfl rfl) ?_
  refine s_val (v_pickF (v := .bool _) rfl h12 rfl) ?_
  refine s_nil ?_
  refine c_cond rfl rfl (fun h15 => ?_) (fun h15 => ?_)
  · refine r_seq (by kernel_rfl) ?_
    refine s_val (v_assign (v := .bool _) rfl) ?_
    refine s_nil ?_
    refine c_ret ?_
    refine n_bret ?_
    refine n_ret ?_
    refine n_ret ?_
    refine n_bret ?_
    refine n_ret ?_
    refine n_done rfl (by decide) (Eq.trans (b := .bool _) rfl (congrArg Value.bool ?_))
    symm
    rw [Bool.eq_false_iff]
    intro hno
    obtain ⟨q1, q2, q3, q4, q5⟩ := noted_all hno
    rw [notedI_iff] at q1 q2 q3 q4 q5
    simp only [decide_eq_true_eq, decide_eq_false_iff_not] at *
    omega
  refine c_skip ?_
  refine n_bnormal ?_
  refine n_then ?_
  refine r_list (by kernel_rfl) ?_
  refine s_val (v_addL (c := 4) rfl rfl (by decide) (by decide)) ?_
  refine s_val (v_move (v := .int .i64 _) rfl) ?_
  refine s_end ?_
  refine n_thenR ?_
  refine r_succ ?_
  refine r_seq (by kernel_rfl) ?_
  refine s_val (v_lss (k := .i64) rfl rfl) ?_
  refine s_nil ?_
  refine c_seq ?_
  refine c_condTh rfl rfl rfl ?_
  refine c_skip ?_
  refine n_then ?_
  refine c_seq ?_
  refine c_block ?_
  refine r_seq (by kernel_rfl) ?_
  refine s_val (v_indexS (len := 5) (t := 3) (m := 1) (k := .i64) (v := I a.n) (by kernel_rfl) (by kernel_rfl) rfl rfl (by decide) rfl) ?_
  refine s_val (v_assign (v := .int .i64 _) rfl) ?_
  refine s_nil ?_
  refine r_seq (by kernel_rfl) ?_
  refine s_val (v_move (v := .int .i64 _) rfl) ?_
  refine s_val (v_lss (k := .i64) rfl rfl) ?_
  refine s_val (v_move (v := .bool _) rfl) ?_
  refine s_split (s := 12) rfl (fun h12 => ?_) (fun h12 => ?_)
  · refine s_pass rfl rfl h12 ?_
    refine s_pass rfl rfl h12 ?_
    refine s_val (v_pickT (v := .bool _) rfl h12 rfl) ?_
    refine s_nil ?_
    refine c_condTh rfl rfl rfl ?_
    refine r_seq (by kernel_rfl) ?_
    refine s_val (v_assign (v := .bool _) rfl) ?_
    refine s_nil ?_
    refine c_ret ?_
    refine n_bret ?_
    refine n_ret ?_
    refine n_ret ?_
    refine n_bret ?_
    refine n_ret ?_
    refine n_done rfl (by decide) (Eq.trans (b := .bool _) rfl (congrArg Value.bool ?_))
    symm
    rw [Bool.eq_false_iff]
    intro hno
    obtain ⟨q1, q2, q3, q4, q5⟩ := noted_all hno
    rw [notedI_iff] at q1 q2 q3 q4 q5
    simp only [decide_eq_true_eq, decide_eq_false_iff_not] at *
    omega
  refine s_want rfl rfl h12 ?_
  refine s_val (v_move (v := .int .i64 _) rfl) ?_
  refine s_want rfl rfl h12 ?_
  refine s_val (v_gtr (k := .i64) rfl rfl) ?_
  refine s_val (v_pickF (v := .bool _) rfl h12 rfl) ?_
  refine s_nil ?_
  refine c_cond rfl rfl (fun h15 => ?_) (fun h15 => ?_)
  · refine r_seq (by kernel_rfl) ?_
    refine s_val (v_assign (v := .bool _) rfl) ?_
    refine s_nil ?_
    refine c_ret ?_
    refine n_bret ?_
    refine n_ret ?_
    refine n_ret ?_
    refine n_bret ?_
    refine n_ret ?_
    refine n_done rfl (by decide) (Eq.trans (b := .bool _) rfl (congrArg Value.bool ?_))
    symm
    rw [Bool.eq_false_iff]
    intro hno
    obtain ⟨q1, q2, q3, q4, q5⟩ := noted_all hno
    rw [notedI_iff] at q1 q2 q3 q4 q5
    simp only [decide_eq_true_eq, decide_eq_false_iff_not] at *
    omega
  refine c_skip ?_
  refine n_bnormal ?_
  refine n_then ?_
  refine r_list (by kernel_rfl) ?_
  refine s_val (v_addL (c := 5) rfl rfl (by decide) (by decide)) ?_
  refine s_val (v_move (v := .int .i64 _) rfl) ?_
  refine s_end ?_
  refine n_thenR ?_
  refine r_succ ?_
  refine r_seq (by kernel_rfl) ?_
  refine s_val (v_lss (k := .i64) rfl rfl) ?_
  refine s_nil ?_
  refine c_seq ?_
  refine c_condFh rfl rfl rfl ?_
  refine c_exit ?_
  refine n_exit ?_
  refine n_exit ?_
  refine n_bhere ?_
  refine n_then ?_
  refine r_seq (by kernel_rfl) ?_
  refine s_val (v_assign (v := .bool _) rfl) ?_
  refine s_nil ?_
  refine c_ret ?_
  refine n_done rfl (by decide) (Eq.trans (b := .bool _) rfl (congrArg Value.bool ?_))
  symm
  simp only [noted, notedI, Bool.and_eq_true, decide_eq_true_eq]
  simp only [decide_eq_true_eq, decide_eq_false_iff_not] at *
  omega

theorem g_fold (n : Int) (w : World) (hn : notedI n = true) : Gives Try.prog 87 [I n] w (I ((zig n : Nat) : Int)) := by
  have hn2 := notedI_iff.1 hn
  refine gives_of Try.func87 rfl Try.ntmps87 (by simp) ?_
  refine r_seq (by kernel_rfl) ?_
  refine s_val (v_assign (v := .int .i64 _) rfl) ?_
  refine s_nil ?_
  refine c_seq ?_
  refine r_seq (by kernel_rfl) ?_
  refine s_val (v_move (v := .int .i64 _) rfl) ?_
  refine s_val (v_lss (k := .i64) rfl rfl) ?_
  refine s_nil ?_
  refine c_cond rfl rfl (fun h4 => ?_) (fun h4 => ?_)
  · refine r_seq (by kernel_rfl) ?_
    refine s_val (v_move (v := .int .i64 _) rfl) ?_
    refine s_val (v_mul rfl rfl (by omega)) ?_
    refine s_val (v_sub rfl rfl (by omega)) ?_
    refine s_val (v_assign (v := .int .i64 _) rfl) ?_
    refine s_nil ?_
    refine c_ret ?_
    refine n_ret ?_
    refine n_done rfl (by decide) (Eq.trans (b := .int .i64 _) rfl (congrArg (Value.int .i64) ?_))
    exact zig_neg (of_decide_eq_true h4)
  refine c_skip ?_
  refine n_then ?_
  refine r_seq (by kernel_rfl) ?_
  refine s_val (v_move (v := .int .i64 _) rfl) ?_
  refine s_val (v_mul rfl rfl (by omega)) ?_
  refine s_val (v_assign (v := .int .i64 _) rfl) ?_
  refine s_nil ?_
  refine c_ret ?_
  refine n_done rfl (by decide) (Eq.trans (b := .int .i64 _) rfl (congrArg (Value.int .i64) ?_))
  exact zig_pos (of_decide_eq_false h4)

theorem g_unfold (u : Nat) (w : World) (hu : u ≤ 1125899906842624) : Gives Try.prog 108 [I (u : Nat)] w (I (zag u)) := by
  refine gives_of Try.func108 rfl Try.ntmps108 (by simp) ?_
  refine r_seq (by kernel_rfl) ?_
  refine s_val (v_assign (v := .int .i64 _) rfl) ?_
  refine s_nil ?_
  refine c_seq ?_
  refine r_seq (by kernel_rfl) ?_
  refine s_val (v_move (v := .int .i64 _) rfl) ?_
  refine s_val (v_rem (c := ((u % 2 : Nat) : Int)) rfl rfl (by decide) (tmod_nat _ 2)) ?_
  refine s_val (v_neq (k := .i64) rfl rfl) ?_
  refine s_nil ?_
  refine c_condNR rfl rfl (fun h5 => ?_) (fun h5 => ?_)
  · refine c_skip ?_
    refine n_then ?_
    refine r_seq (by kernel_rfl) ?_
    refine s_val (v_move (v := .int .i64 _) rfl) ?_
    refine s_val (v_quo (c := ((u / 2 : Nat) : Int)) rfl rfl (by decide) (by rw [show ((u : Nat) : Int).tdiv 2 = ((u / 2 : Nat) : Int) from tdiv_nat u 2]; exact wr_in (by omega) (by omega))) ?_
    refine s_val (v_assign (v := .int .i64 _) rfl) ?_
    refine s_nil ?_
    refine c_ret ?_
    refine n_done rfl (by decide) (Eq.trans (b := .int .i64 _) rfl (congrArg (Value.int .i64) ?_))
    exact zag_even5 (of_decide_eq_true h5)
  refine r_seq (by kernel_rfl) ?_
  refine s_val (v_move (v := .int .i64 _) rfl) ?_
  refine s_val (v_add rfl rfl (by omega)) ?_
  refine s_val (v_neg rfl (by omega)) ?_
  refine s_val (v_quo (c := zag u) rfl rfl (by decide) (by rw [zag_odd5 (of_decide_eq_false h5)]; have := zag_bound u; exact wr_in (by omega) (by omega))) ?_
  refine s_val (v_assign (v := .int .i64 _) rfl) ?_
  refine s_nil ?_
  refine c_ret ?_
  refine n_ret ?_
  refine n_done rfl (by decide) (Eq.trans (b := .int .i64 _) rfl (congrArg (Value.int .i64) ?_))
  rfl

theorem g_checksum (a0 : Option Addr) (c0 : Nat) (l : List Nat) (w : World) (hx : BytesAt (At w) a0 l) (hb : Byt l) (hl : l.length ≤ 1000) : Gives Try.prog 78 [.slice a0 l.length c0] w (.tuple #[U8 (((sumOf l).1 % 251 : Nat) : Int), U8 (((sumOf l).2 % 251 : Nat) : Int)]) := by
  refine gives_of Try.func78 rfl Try.ntmps78 (by simp) ?_
  refine r_seq (by kernel_rfl) ?_
  refine s_val (v_assign (v := .int .u8 _) rfl) ?_
  refine s_val (v_assign (v := .int .u8 _) rfl) ?_
  refine s_nil ?_
  refine r_seq (by kernel_rfl) ?_
  refine s_val (v_assign (v := .int .i64 _) rfl) ?_
  refine s_val (v_assign (v := .int .i64 _) rfl) ?_
  refine s_nil ?_
  refine c_seq ?_
  refine r_seq (by kernel_rfl) ?_
  refine s_val (v_move (v := .slice _ _ _) rfl) ?_
  refine s_val (v_lenS (T := 84) (m := 1) (by kernel_rfl) rfl rfl) ?_
  refine s_val (v_move (v := .int .i64 _) rfl) ?_
  refine s_nil ?_
  refine c_block ?_
  refine c_loop (σ := Nat) (fun (k : Nat) f => ∃ g, (k ≤ l.length) ∧ f = (upd (upd (upd (upd (upd g 4 (I (sumOf (l.take k)).1)) 5 (I (sumOf (l.take k)).2)) 8 (.slice a0 l.length c0)) 9 (I l.length)) 10 (I k))) (fun (k : Nat) => Has w (At w) []) (fun (k : Nat) => l.length - k) 0 ⟨_, Nat.zero_le _, live5 rfl rfl rfl rfl rfl⟩ (fun w hw => hw) ?_
  rintro k _ ⟨g, hkl0, rfl⟩
  refine r_seq (by kernel_rfl) ?_
  refine s_val (v_lss (k := .i64) rfl rfl) ?_
  refine s_nil ?_
  refine c_seq ?_
  refine c_condR rfl rfl (fun h11 => ?_) (fun h11 => ?_)
  · have hkl : k = l.length := by have := of_decide_eq_false h11; omega
    subst hkl
    rw [List.take_of_length_le (Nat.le_refl _)]
    refine c_exit ?_
    refine n_exit ?_
    refine n_exit ?_
    refine n_bhere ?_
    refine n_then ?_
    refine r_seq (by kernel_rfl) ?_
    refine s_val (v_move (v := .int .i64 _) rfl) ?_
    refine s_val (v_rem (c := (((sumOf l).1 % 251 : Nat) : Int)) rfl rfl (by decide) (tmod_nat _ 251)) ?_
    refine s_val (v_toU8 (by kernel_rfl) rfl ⟨by omega, by omega⟩) ?_
    refine s_val (v_move (v := .int .i64 _) rfl) ?_
    refine s_val (v_rem (c := (((sumOf l).2 % 251 : Nat) : Int)) rfl rfl (by decide) (tmod_nat _ 251)) ?_
    refine s_val (v_toU8 (by kernel_rfl) rfl ⟨by omega, by omega⟩) ?_
    refine s_val (v_assign (v := .int .u8 _) rfl) ?_
    refine s_val (v_assign (v := .int .u8 _) rfl) ?_
    refine s_nil ?_
    refine c_ret ?_
    exact n_doneT rfl (by decide) (by decide) rfl
  have hk0 := of_decide_eq_true h11
  obtain ⟨b, o, m, ha0, hm, hcm⟩ := hx.get (j := k) (by omega)
  have hm256 := hb m (List.mem_of_getElem? hm)
  have hsb := sum_bound hb k
  have hkk : k * (1 + 255 * k) ≤ 1000 * (1 + 255 * 1000) := Nat.mul_le_mul (by omega) (by omega)
  have hss := sum_step hm
  refine c_skip ?_
  refine n_then ?_
  refine c_seq ?_
  refine c_block ?_
  refine r_seq (by kernel_rfl) ?_
  refine s_val (v_idxS (size := 1) (k := .i64) (by kernel_rfl) (congrArg (fun a => Value.slice a l.length c0) ha0) rfl ⟨by omega, by omega⟩) ?_
  refine s_val (v_load1o (v := U8 m) (by kernel_rfl) rfl (by simpa using hcm)) ?_
  refine s_val (v_assign (v := .int .u8 _) rfl) ?_
  refine s_nil ?_
  refine r_seq (by kernel_rfl) ?_
  refine s_val (v_move (v := .int .i64 _) rfl) ?_
  refine s_val (v_move (v := .int .u8 _) rfl) ?_
  refine s_val (v_ofU8 (by kernel_rfl) rfl ⟨by omega, by omega⟩) ?_
  refine s_val (v_add rfl rfl (by omega)) ?_
  refine s_val (v_assign (v := .int .i64 _) rfl) ?_
  refine s_nil ?_
  refine r_list (by kernel_rfl) ?_
  refine s_val (v_move (v := .int .i64 _) rfl) ?_
  refine s_val (v_move (v := .int .i64 _) rfl) ?_
  refine s_val (v_add rfl rfl (by omega)) ?_
  refine s_val (v_assign (v := .int .i64 _) rfl) ?_
  refine s_end ?_
  refine n_bnormal ?_
  refine n_then ?_
  refine r_list (by kernel_rfl) ?_
  refine s_val (v_add rfl rfl (by omega)) ?_
  refine s_val (v_move (v := .int .i64 _) rfl) ?_
  refine s_end ?_
  refine n_round (k + 1) ⟨_, (by omega), live5 (congrArg I (by rw [hss]; rfl)) (congrArg I (by rw [hss]; push_cast; rfl)) rfl rfl rfl⟩ (fun _ hw => hw) (by omega)

theorem g_HasPrefix0 (l f : List Nat) (w : World) (hl : Byt l) (hf : Byt f) : Gives Try.prog 102 [S l, S f] w (.bool (begins l f)) := by
  refine gives_of Try.func102 rfl Try.ntmps102 (by simp) ?_
  refine r_seq (by kernel_rfl) ?_
  refine s_val (v_assign (v := .bool _) rfl) ?_
  refine s_nil ?_
  refine r_seq (by kernel_rfl) ?_
  refine s_val (v_move (v := S _) rfl) ?_
  refine s_val (v_strLen (by kernel_rfl) rfl rfl) ?_
  refine s_val (v_move (v := S _) rfl) ?_
  refine s_val (v_strLen (by kernel_rfl) rfl rfl) ?_
  refine s_val (v_geq (k := .i64) rfl rfl) ?_
  refine s_val (v_move (v := .bool _) rfl) ?_
  refine s_splitR (s := 10) rfl (fun h10 => ?_) (fun h10 => ?_)
  · refine s_pass rfl rfl h10 ?_
    refine s_pass rfl rfl h10 ?_
    refine s_pass rfl rfl h10 ?_
    refine s_pass rfl rfl h10 ?_
    refine s_pass rfl rfl h10 ?_
    refine s_pass rfl rfl h10 ?_
    refine s_val (v_pickF (v := .bool _) rfl h10 rfl) ?_
    refine s_val (v_assign (v := .bool _) rfl) ?_
    refine s_nil ?_
    refine c_ret ?_
    refine n_done rfl (by decide) (Eq.trans (b := .bool _) rfl (congrArg Value.bool ?_))
    exact (begins_short (by have := of_decide_eq_false h10; omega)).symm
  refine s_want rfl rfl h10 ?_
  refine s_val (v_move (v := S _) rfl) ?_
  refine s_want rfl rfl h10 ?_
  refine s_val (v_move (v := S _) rfl) ?_
  refine s_want rfl rfl h10 ?_
  refine s_val (v_strLen (by kernel_rfl) rfl rfl) ?_
  refine s_want rfl rfl h10 ?_
  refine s_val (v_strHi (by kernel_rfl) rfl rfl ⟨by omega, by have := of_decide_eq_true h10; omega⟩) ?_
  refine s_want rfl rfl h10 ?_
  refine s_val (v_move (v := S _) rfl) ?_
  refine s_want rfl rfl h10 ?_
  refine s_val (v_strEq rfl rfl (hl.take _) hf) ?_
  refine s_val (v_pickT (v := .bool _) rfl h10 rfl) ?_
  refine s_val (v_assign (v := .bool _) rfl) ?_
  refine s_nil ?_
  refine c_ret ?_
  refine n_done rfl (by decide) (Eq.trans (b := .bool _) rfl (congrArg Value.bool ?_))
  rfl

theorem g_HasPrefix (l f : List Nat) (w : World) (hl : Byt l) (hf : Byt f) : Gives Try.prog 89 [S l, S f] w (.bool (begins l f)) := by
  refine gives_of Try.func89 rfl Try.ntmps89 (by simp) ?_
  refine r_seq (by kernel_rfl) ?_
  refine s_val (v_assign (v := .bool _) rfl) ?_
  refine s_nil ?_
  refine r_seq (by kernel_rfl) ?_
  refine s_val (v_move (v := S _) rfl) ?_
  refine s_val (v_move (v := S _) rfl) ?_
  refine s_call (by kernel_rfl) (fun w hw => g_HasPrefix0 l f w hl hf) ?_
  refine s_val (v_assign (v := .bool _) rfl) ?_
  refine s_nil ?_
  refine c_ret ?_
  refine n_done rfl (by decide) (Eq.trans (b := .bool _) rfl (congrArg Value.bool ?_))
  rfl

end Go.Proofs.Ytmkboljfbmlebaa
/- Contracts of the developers' appendNumber and readNumber. Conditions: a list of bytes of the caller's own; texts of a few million bytes at most. -/
namespace Go.Proofs.Ytmkboljfbmlebaa
open Go.RowKit
set_option linter.unusedSimpArgs false
set_option linter.unusedVariables false
set_option maxRecDepth 100000
attribute [local irreducible] cC sC nC rC qw

theorem g_appendNumber (F : Addr → Value → Prop) (E0 : List (Nat × Obj)) (v0 : Value) (l : List Nat) (n : Int) (hB : Bytes 5 v0 l E0) (hn : notedI n = true) (hl : l.length ≤ 1000) : GivesW Try.prog 77 [v0, I n] F (E0) (fun _ v B' => Bytes 5 v (l ++ digs (zig n)) B') := by
  refine givesW_of Try.func77 rfl Try.ntmps77 (by simp) (fun w K => ?_)
  have hz5 := zig_lt hn
  refine r_seq (by kernel_rfl) ?_
  refine s_val (v_assign (v := .slice _ _ _) rfl) ?_
  refine s_nil ?_
  refine r_seq (by kernel_rfl) ?_
  refine s_val (v_move (v := .int .i64 _) rfl) ?_
  refine s_call (by kernel_rfl) (fun w hw => g_fold n w hn) ?_
  refine s_val (v_assign (v := .int .i64 _) rfl) ?_
  refine s_nil ?_
  refine c_seq ?_
  refine c_block ?_
  refine c_loop (σ := AN) (fun (s : AN) f => ∃ g, (digs (zig n) = s.m ++ digs s.u ∧ s.u < 128 ^ 5 ∧ s.m.length + (digs s.u).length ≤ 5 ∧ Bytes 5 s.v (l ++ s.m) s.E) ∧ f = (upd (upd g 0 (s.v)) 5 (I (s.u : Nat)))) (fun (s : AN) => Has w F (s.E ++ K)) (fun (s : AN) => s.u) ⟨zig n, [], v0, E0⟩ ⟨_, ⟨rfl, hz5, by simpa using digs_len5 hn, by simpa using hB⟩, live2 rfl rfl⟩ (fun w hw => hw) ?_
  rintro s _ ⟨g, ⟨hs1, hs2, hs3, hs4⟩, rfl⟩
  refine c_seq ?_
  refine r_seq (by kernel_rfl) ?_
  refine s_val (v_move (v := .int .i64 _) rfl) ?_
  refine s_val (v_geq (k := .i64) rfl rfl) ?_
  refine s_nil ?_
  refine c_condR rfl rfl (fun h9 => ?_) (fun h9 => ?_)
  · have hu := of_decide_eq_false h9
    refine c_exit ?_
    refine n_exit ?_
    refine n_exit ?_
    refine n_bhere ?_
    refine n_then ?_
    refine r_seq (by kernel_rfl) ?_
    refine s_val (v_move (v := _) rfl) ?_
    refine s_val (v_move (v := .int .i64 _) rfl) ?_
    refine s_val (v_toU8 (by kernel_rfl) rfl ⟨by omega, by omega⟩) ?_
    refine s_build1 (v := .int .u8 _) (e := 5) (m := 1) (by_ := 1) (by kernel_rfl) rfl rfl rfl (fill_scalar rfl) (fun b22 => ?_)
    refine s_push (e := 5) (m := 1) (by_ := 1) (by kernel_rfl) rfl rfl rfl rfl rfl hs4 rfl (all_scalar rfl rfl) (by rw [List.length_append]; omega) (fun v23 E23 hE23 => ?_)
    have hB23 : Bytes 5 v23 (l ++ digs (zig n)) E23 := by rw [hs1, digs_lo (by omega), ← List.append_assoc]; exact Bytes.snoc hE23 rfl
    refine s_val (v_assign (v := _) rfl) ?_
    refine s_nil ?_
    refine c_ret ?_
    exact n_doneW rfl (by decide) (fun _ _ h => h) (fun w hw => hw) hB23
  have hu := of_decide_eq_true h9
  refine c_skip ?_
  refine n_then ?_
  refine c_block ?_
  refine r_seq (by kernel_rfl) ?_
  refine s_val (v_move (v := _) rfl) ?_
  refine s_val (v_move (v := .int .i64 _) rfl) ?_
  refine s_val (v_rem (c := ((s.u % 128 : Nat) : Int)) rfl rfl (by decide) (tmod_nat _ 128)) ?_
  refine s_val (v_add rfl rfl (by omega)) ?_
  refine s_val (v_toU8 (by kernel_rfl) rfl ⟨by omega, by omega⟩) ?_
  refine s_build1 (v := .int .u8 _) (e := 5) (m := 1) (by_ := 1) (by kernel_rfl) rfl rfl rfl (fill_scalar rfl) (fun b15 => ?_)
  refine s_push (e := 5) (m := 1) (by_ := 1) (by kernel_rfl) rfl rfl rfl rfl rfl hs4 rfl (all_scalar rfl rfl) (by rw [List.length_append]; omega) (fun v16 E16 hE16 => ?_)
  have hB16 : Bytes 5 v16 (l ++ (s.m ++ [128 + s.u % 128])) E16 := by rw [← List.append_assoc]; exact Bytes.snoc hE16 (by omega)
  refine s_val (v_assign (v := _) rfl) ?_
  refine s_nil ?_
  refine r_list (by kernel_rfl) ?_
  refine s_val (v_move (v := .int .i64 _) rfl) ?_
  refine s_val (v_quo (c := ((s.u / 128 : Nat) : Int)) rfl rfl (by decide) (by rw [show ((s.u : Nat) : Int).tdiv 128 = ((s.u / 128 : Nat) : Int) from tdiv_nat s.u 128]; exact wr_in (by omega) (by omega))) ?_
  refine s_val (v_assign (v := .int .i64 _) rfl) ?_
  refine s_end ?_
  refine n_bnormal ?_
  refine n_round (s := s) ⟨s.u / 128, s.m ++ [128 + s.u % 128], v16, E16⟩ ⟨_, ⟨by rw [hs1, digs_hi (by omega)]; simp, by simp only; omega, by rw [digs_hi (by omega)] at hs3; simp only [List.length_append, List.length_cons, List.length_nil] at hs3 ⊢; omega, hB16⟩, live2 rfl rfl⟩ (fun _ hw => hw) (by simp only; omega)

theorem g_readNumber (l : List Nat) (w : World) (hb : Byt l) (hl : l.length ≤ 8388608) : Gives Try.prog 101 [S l] w (numR l) := by
  refine gives_of Try.func101 rfl Try.ntmps101 (by simp) ?_
  refine r_seq (by kernel_rfl) ?_
  refine s_val (v_assign (v := .int .i64 _) rfl) ?_
  refine s_val (v_assign (v := .int .i64 _) rfl) ?_
  refine s_val (v_assign (v := .bool _) rfl) ?_
  refine s_nil ?_
  refine r_seq (by kernel_rfl) ?_
  refine s_val (v_assign (v := .int .i64 _) rfl) ?_
  refine s_nil ?_
  refine c_seq ?_
  refine r_seq (by kernel_rfl) ?_
  refine s_val (v_move (v := S _) rfl) ?_
  refine s_val (v_strLen (by kernel_rfl) rfl rfl) ?_
  refine s_val (v_least rfl rfl) ?_
  refine s_val (v_move (v := .int .i64 _) rfl) ?_
  refine s_nil ?_
  refine c_block ?_
  refine c_loop (σ := Nat × Nat) (fun (q : Nat × Nat) f => ∃ g, (Dig5 l q.1 q.2) ∧ f = (upd (upd (upd (upd g 0 (S l)) 5 (I (q.2 : Nat))) 10 (I (least l.length 5))) 11 (I (q.1 : Nat)))) (fun (q : Nat × Nat) => Has w (At w) []) (fun (q : Nat × Nat) => 5 - q.1) (0, 0) ⟨_, dig5_start _, live4 rfl rfl rfl rfl⟩ (fun w hw => hw) ?_
  rintro q _ ⟨g, hd, rfl⟩
  refine r_seq (by kernel_rfl) ?_
  refine s_val (v_lss (k := .i64) rfl rfl) ?_
  refine s_nil ?_
  refine c_seq ?_
  refine c_condR rfl rfl (fun h12 => ?_) (fun h12 => ?_)
  · refine c_exit ?_
    refine n_exit ?_
    refine n_exit ?_
    refine n_bhere ?_
    refine n_then ?_
    refine r_seq (by kernel_rfl) ?_
    refine s_val (v_assign (v := .int .i64 _) rfl) ?_
    refine s_val (v_assign (v := .int .i64 _) rfl) ?_
    refine s_val (v_assign (v := .bool _) rfl) ?_
    refine s_nil ?_
    refine c_ret ?_
    exact n_done3 rfl (by decide) (by decide) (by decide) (numR_no (hd.stop (by have := of_decide_eq_false h12; unfold least at this; split at this <;> omega)))
  have hj5 : q.1 < 5 ∧ q.1 < l.length := by have := of_decide_eq_true h12; unfold least at this; split at this <;> omega
  obtain ⟨hj5, hjl⟩ := hj5
  obtain ⟨b, hbb⟩ : ∃ b, l[q.1]? = some b := ⟨l[q.1], List.getElem?_eq_getElem hjl⟩
  have hb256 : b < 256 := hb b (List.mem_of_getElem? hbb)
  have hpw := (pow5 hj5).1
  have hfit := dig5_fits (b := b) hpw
  have hub := hd.ub
  refine c_skip ?_
  refine n_then ?_
  refine c_seq ?_
  refine c_block ?_
  refine r_seq (by kernel_rfl) ?_
  refine s_val (v_move (v := .int .i64 _) rfl) ?_
  refine s_val (v_assign (v := .int .i64 _) rfl) ?_
  refine s_nil ?_
  refine r_seq (by kernel_rfl) ?_
  refine s_val (v_move (v := S _) rfl) ?_
  refine s_val (v_move (v := .int .i64 _) rfl) ?_
  refine s_val (v_strIdx (by kernel_rfl) rfl rfl (by omega) hbb hb256) ?_
  refine s_val (v_ofU8 (by kernel_rfl) rfl ⟨by omega, by omega⟩) ?_
  refine s_val (v_assign (v := .int .i64 _) rfl) ?_
  refine s_nil ?_
  refine r_seq (by kernel_rfl) ?_
  refine s_val (v_move (v := .int .i64 _) rfl) ?_
  refine s_val (v_move (v := .int .i64 _) rfl) ?_
  refine s_val (v_rem (c := ((b % 128 : Nat) : Int)) rfl rfl (by decide) (tmod_nat _ 128)) ?_
  refine s_val (v_move (v := .int .i64 _) rfl) ?_
  refine s_val (v_mul rfl rfl (by omega)) ?_
  refine s_val (v_shl (c := ((b % 128 * 128 ^ q.1 : Nat) : Int)) rfl rfl ⟨by omega, by omega⟩ (shl5 hj5)) ?_
  refine s_val (v_add rfl rfl (by omega)) ?_
  refine s_val (v_assign (v := .int .i64 _) rfl) ?_
  refine s_nil ?_
  rw [show (q.2 : Int) + ((b % 128 * 128 ^ q.1 : Nat) : Int) = (((q.2 + b % 128 * 128 ^ q.1) : Nat) : Int) from (Int.natCast_add _ _).symm]
  refine r_seq (by kernel_rfl) ?_
  refine s_val (v_move (v := .int .i64 _) rfl) ?_
  refine s_val (v_lss (k := .i64) rfl rfl) ?_
  refine s_nil ?_
  refine c_condR rfl rfl (fun h26 => ?_) (fun h26 => ?_)
  · refine c_skip ?_
    refine n_bnormal ?_
    refine n_then ?_
    refine r_list (by kernel_rfl) ?_
    refine s_val (v_add rfl rfl (by omega)) ?_
    refine s_val (v_move (v := .int .i64 _) rfl) ?_
    refine s_end ?_
    refine n_round (s := q) (q.1 + 1, (q.2 + b % 128 * 128 ^ q.1)) ⟨_, hd.step hbb (by have := of_decide_eq_false h26; omega) hb256 hj5, live4 rfl rfl rfl rfl⟩ (fun _ hw => hw) (by dsimp only; omega)
  have hlast := hd.last hbb (by have := of_decide_eq_true h26; omega) hj5
  refine r_seq (by kernel_rfl) ?_
  refine s_val (v_move (v := .int .i64 _) rfl) ?_
  refine s_call (by kernel_rfl) (fun w hw => g_unfold (q.2 + b % 128 * 128 ^ q.1) w (by omega)) ?_
  refine s_val (v_move (v := .int .i64 _) rfl) ?_
  refine s_val (v_add rfl rfl (by omega)) ?_
  refine s_val (v_assign (v := .int .i64 _) rfl) ?_
  refine s_val (v_assign (v := .int .i64 _) rfl) ?_
  refine s_val (v_assign (v := .bool _) rfl) ?_
  refine s_nil ?_
  refine c_ret ?_
  refine n_bret ?_
  refine n_ret ?_
  refine n_ret ?_
  refine n_bret ?_
  refine n_ret ?_
  exact n_done3 rfl (by decide) (by decide) (by decide) (numR_yes hlast (by omega))

end Go.Proofs.Ytmkboljfbmlebaa
/- Contract of the developers' guess. Condition: texts of a few million bytes at most. -/
namespace Go.Proofs.Ytmkboljfbmlebaa
open Go.RowKit
set_option linter.unusedSimpArgs false
set_option linter.unusedVariables false
set_option maxRecDepth 100000
attribute [local irreducible] cC sC nC rC qw

set_option maxHeartbeats 1000000 in
theorem g_guess (l : List Nat) (w : World) (hb : Byt l) (hl : l.length ≤ 8388608) : Gives Try.prog 88 [S l] w (guessR l) := by
  refine gives_of Try.func88 rfl Try.ntmps88 (by simp) ?_
  refine r_seq (by kernel_rfl) ?_
  refine s_alloc (z := .agg zeroA.cells) (by kernel_rfl) (fun b2 => ?_)
  refine s_val (v_assign (v := .bool _) rfl) ?_
  refine s_nil ?_
  refine c_seq ?_
  refine r_seq (by kernel_rfl) ?_
  refine s_val (v_move (v := S _) rfl) ?_
  refine s_val (v_strEq rfl rfl hb byt_nil) ?_
  refine s_nil ?_
  refine c_cond rfl rfl (fun h11 => ?_) (fun h11 => ?_)
  · refine r_seq (by kernel_rfl) ?_
    refine s_val (v_build (vs := []) (cs := zeroA.cells) rfl (by kernel_rfl)) ?_
    refine s_storeA (m := 5) (by kernel_rfl) rfl rfl .here rfl rfl (ActS.all1 _) ?_
    refine s_val (v_assign (v := .bool _) rfl) ?_
    refine s_nil ?_
    refine c_ret ?_
    refine n_ret ?_
    exact n_doneCT (m := 5) rfl (by decide) (by decide) rfl (by kernel_rfl) .here rfl (guess_no (guess_nil (of_decide_eq_true h11)))
  have hl1 : 1 ≤ l.length := by
    rcases Nat.eq_zero_or_pos l.length with h | h
    · exact absurd (List.eq_nil_of_length_eq_zero h) (of_decide_eq_false h11)
    · exact h
  refine c_skip ?_
  refine n_then ?_
  refine r_seq (by kernel_rfl) ?_
  refine s_val (v_move (v := S _) rfl) ?_
  refine s_val (v_strLo (by kernel_rfl) rfl rfl ⟨by decide, by omega⟩) ?_
  refine s_val (v_assign (v := S _) rfl) ?_
  refine s_nil ?_
  refine r_seq (by kernel_rfl) ?_
  refine s_alloc (z := .agg (vrow [])) (by kernel_rfl) (fun b5 => ?_)
  refine s_nil ?_
  refine c_seq ?_
  refine r_seq (by kernel_rfl) ?_
  refine s_val (v_move (v := .int .i64 _) rfl) ?_
  refine s_nil ?_
  refine c_block ?_
  refine c_loop (σ := GS) (fun (s : GS) f => ∃ g, (GsOk (l.drop 1) s) ∧ f = (upd (upd (upd (upd (upd g 0 (S l)) 2 (.pointer (some ⟨b2, 0, none⟩))) 4 (S s.rest)) 5 (.pointer (some ⟨b5, 0, none⟩))) 15 (I (s.k : Nat)))) (fun (s : GS) => Has w (At w) [(b5, .cells (vrow s.us) 85), (b2, .cells zeroA.cells 54)]) (fun (s : GS) => 5 - s.k) ⟨0, [], l.drop 1⟩ ⟨_, GsOk.start hb, live5 rfl rfl rfl rfl rfl⟩ (fun w hw => hw) ?_
  rintro s _ ⟨g, hs, rfl⟩
  refine r_seq (by kernel_rfl) ?_
  refine s_val (v_lss (k := .i64) rfl rfl) ?_
  refine s_nil ?_
  refine c_seq ?_
  refine c_condR rfl rfl (fun h16 => ?_) (fun h16 => ?_)
  · have hk55 : s.k = 5 := by have := of_decide_eq_false h16; have := hs.k5; omega
    refine c_exit ?_
    refine n_exit ?_
    refine n_exit ?_
    refine n_bhere ?_
    refine n_then ?_
    refine r_seq (by kernel_rfl) ?_
    refine s_val (v_idxA (len := 5) (size := 1) (k := .i64) (by kernel_rfl) rfl rfl (by decide)) ?_
    refine s_val (v_load1 (v := I (vnum s.us 0)) (by kernel_rfl) rfl .here (vrow_at s.us 0 (by decide))) ?_
    refine s_val (v_idxA (len := 5) (size := 1) (k := .i64) (by kernel_rfl) rfl rfl (by decide)) ?_
    refine s_val (v_load1 (v := I (vnum s.us 1)) (by kernel_rfl) rfl .here (vrow_at s.us 1 (by decide))) ?_
    refine s_val (v_idxA (len := 5) (size := 1) (k := .i64) (by kernel_rfl) rfl rfl (by decide)) ?_
    refine s_val (v_load1 (v := I (vnum s.us 2)) (by kernel_rfl) rfl .here (vrow_at s.us 2 (by decide))) ?_
    refine s_val (v_idxA (len := 5) (size := 1) (k := .i64) (by kernel_rfl) rfl rfl (by decide)) ?_
    refine s_val (v_load1 (v := I (vnum s.us 3)) (by kernel_rfl) rfl .here (vrow_at s.us 3 (by decide))) ?_
    refine s_val (v_idxA (len := 5) (size := 1) (k := .i64) (by kernel_rfl) rfl rfl (by decide)) ?_
    refine s_val (v_load1 (v := I (vnum s.us 4)) (by kernel_rfl) rfl .here (vrow_at s.us 4 (by decide))) ?_
    refine s_val (v_build (vs := [(0, .int .i64 _), (1, .int .i64 _), (2, .int .i64 _), (3, .int .i64 _), (4, .int .i64 _)]) (cs := (act5 s.us).cells) rfl (by kernel_rfl)) ?_
    refine s_storeA (m := 5) (by kernel_rfl) rfl rfl (.there .here) rfl rfl (ActS.all1 _) ?_
    refine s_val (v_assign (v := .bool _) rfl) ?_
    refine s_nil ?_
    refine c_ret ?_
    exact n_doneCT (m := 5) rfl (by decide) (by decide) rfl (by kernel_rfl) (.there .here) rfl (guess_yes (by have := hs.run; rw [hk55] at this; exact this) (hs.ul.trans hk55))
  have hk5 : s.k < 5 := by have := of_decide_eq_true h16; omega
  have hlen := hs.len
  rw [List.length_drop] at hlen
  refine c_skip ?_
  refine n_then ?_
  refine c_seq ?_
  refine c_block ?_
  refine r_seq (by kernel_rfl) ?_
  refine s_val (v_move (v := .int .i64 _) rfl) ?_
  refine s_val (v_assign (v := .int .i64 _) rfl) ?_
  refine s_nil ?_
  refine r_seq (by kernel_rfl) ?_
  refine s_val (v_move (v := S _) rfl) ?_
  refine s_call (by kernel_rfl) (fun w hw => g_readNumber s.rest w hs.byt (by omega)) ?_
  refine s_val (v_move (v := .tuple _) rfl) ?_
  refine s_val (v_extract rfl rfl) ?_
  refine s_val (v_extract rfl rfl) ?_
  refine s_val (v_extract rfl rfl) ?_
  refine s_val (v_assign (v := .int .i64 _) rfl) ?_
  refine s_val (v_assign (v := .int .i64 _) rfl) ?_
  refine s_val (v_assign (v := .bool _) rfl) ?_
  refine s_nil ?_
  refine c_seq ?_
  refine r_seq (by kernel_rfl) ?_
  refine s_val (v_move (v := .bool _) rfl) ?_
  refine s_val (v_not rfl) ?_
  refine s_nil ?_
  refine c_condN rfl rfl (fun h25 => ?_) (fun h25 => ?_)
  · refine r_seq (by kernel_rfl) ?_
    refine s_val (v_build (vs := []) (cs := zeroA.cells) rfl (by kernel_rfl)) ?_
    refine s_storeA (m := 5) (by kernel_rfl) rfl rfl (.there .here) rfl rfl (ActS.all1 _) ?_
    refine s_val (v_assign (v := .bool _) rfl) ?_
    refine s_nil ?_
    refine c_ret ?_
    refine n_ret ?_
    refine n_bret ?_
    refine n_ret ?_
    refine n_ret ?_
    refine n_bret ?_
    refine n_ret ?_
    exact n_doneCT (m := 5) rfl (by decide) (by decide) rfl (by kernel_rfl) (.there .here) rfl (guess_no (hs.gone hk5 (rn_no h25)))
  obtain ⟨u, hu, hval, hkl⟩ := rn_yes h25
  refine c_skip ?_
  refine n_then ?_
  refine r_seq (by kernel_rfl) ?_
  refine s_val (v_move (v := .int .i64 _) rfl) ?_
  refine s_val (v_move (v := .int .i64 _) rfl) ?_
  refine s_val (v_idxA (len := 5) (size := 1) (k := .i64) (by kernel_rfl) rfl rfl ⟨by omega, by omega⟩) ?_
  refine s_store1 (v := .int .i64 _) (by kernel_rfl) rfl rfl .here ⟨by simp only [Array.size_setIfInBounds, vrow_size]; omega, rfl⟩ rfl ?_
  refine s_nil ?_
  refine r_list (by kernel_rfl) ?_
  refine s_val (v_move (v := S _) rfl) ?_
  refine s_val (v_move (v := .int .i64 _) rfl) ?_
  refine s_val (v_strLo (by kernel_rfl) rfl rfl ⟨by omega, by omega⟩) ?_
  refine s_val (v_assign (v := S _) rfl) ?_
  refine s_end ?_
  refine n_bnormal ?_
  refine n_then ?_
  refine r_list (by kernel_rfl) ?_
  refine s_val (v_add rfl rfl (by omega)) ?_
  refine s_val (v_move (v := .int .i64 _) rfl) ?_
  refine s_end ?_
  refine n_round (s := s) ⟨s.k + 1, s.us ++ [u], s.rest.drop (rnK s.rest)⟩ ⟨_, hs.next hk5 hu, live5 rfl rfl rfl rfl rfl⟩ (fun _ hw => by rw [← vrow_set hs.ul hk5, ← hval]; exact hw) (by dsimp only; omega)

end Go.Proofs.Ytmkboljfbmlebaa
/- Contract of the developers' book.Frame. No condition. -/
namespace Go.Proofs.Ytmkboljfbmlebaa
open Go.RowKit
set_option linter.unusedSimpArgs false
set_option linter.unusedVariables false
set_option maxRecDepth 100000
attribute [local irreducible] cC sC nC rC qw

set_option maxHeartbeats 1000000 in
theorem g_Frame (a : ActS) (w : World) : Gives Try.prog 49 [.agg a.cells] w (frameR a) := by
  refine gives_of Try.func49 rfl Try.ntmps49 (by simp) ?_
  refine r_seq (by kernel_rfl) ?_
  refine s_box (v := .agg _) rfl (fun b1 => ?_)
  refine s_val (v_assign (v := S []) rfl) ?_
  refine s_val (v_assign (v := .int .i64 _) rfl) ?_
  refine s_nil ?_
  refine c_seq ?_
  refine r_seq (by kernel_rfl) ?_
  refine s_val (v_loadA (m := 5) (by kernel_rfl) rfl .here rfl) ?_
  refine s_call (by kernel_rfl) (fun w hw => g_Good4 a w) ?_
  refine s_val (v_not rfl) ?_
  refine s_nil ?_
  refine c_condN rfl rfl (fun h12 => ?_) (fun h12 => ?_)
  · refine r_seq (by kernel_rfl) ?_
    refine s_val (v_assign (v := S []) rfl) ?_
    refine s_val (v_assign (v := .int .i64 _) rfl) ?_
    refine s_nil ?_
    refine c_ret ?_
    refine n_ret ?_
    exact n_doneT rfl (by decide) (by decide) (by rw [frameR_no h12]; rfl)
  have h11 : noted a = true := h12
  have hbl := body_len h11
  refine c_skip ?_
  refine n_then ?_
  refine r_seq (by kernel_rfl) ?_
  refine s_val (v_assign (v := .slice _ _ _) rfl) ?_
  refine s_nil ?_
  refine c_seq ?_
  refine r_seq (by kernel_rfl) ?_
  refine s_val (v_loadA (m := 5) (by kernel_rfl) rfl .here rfl) ?_
  refine s_call (by kernel_rfl) (fun w hw => g_list a w) ?_
  refine s_val (v_move (v := .int .i64 _) rfl) ?_
  refine s_nil ?_
  refine c_block ?_
  refine c_loop (σ := FB) (fun (s : FB) f => ∃ g, (s.k ≤ 5 ∧ Bytes 5 s.v (bodyTo a s.k) s.E) ∧ f = (upd (upd (upd (upd g 1 (.pointer (some ⟨b1, 0, none⟩))) 4 (s.v)) 14 (.agg a.cells)) 15 (I (s.k : Nat)))) (fun (s : FB) => Has w (At w) (s.E ++ [(b1, .cells a.cells 54)])) (fun (s : FB) => 5 - s.k) ⟨0, .slice none 0 0, []⟩ ⟨_, ⟨by decide, byts_nil _⟩, live4 rfl rfl rfl rfl⟩ (fun w hw => hw) ?_
  rintro s _ ⟨g, ⟨hk, hs⟩, rfl⟩
  refine r_seq (by kernel_rfl) ?_
  refine s_val (v_lss (k := .i64) rfl rfl) ?_
  refine s_nil ?_
  refine c_seq ?_
  refine c_cond rfl rfl (fun h16 => ?_) (fun h16 => ?_)
  · have hk5 : s.k < 5 := by have := of_decide_eq_true h16; omega
    obtain ⟨n, hnk, hcn⟩ := a.get hk5
    have hroom := body_room h11 s.k
    refine c_skip ?_
    refine n_then ?_
    refine c_seq ?_
    refine c_block ?_
    refine r_seq (by kernel_rfl) ?_
    refine s_val (v_indexS (len := 5) (t := 3) (m := 1) (k := .i64) (v := I n) (by kernel_rfl) (by kernel_rfl) rfl rfl ⟨by omega, by omega⟩ hcn) ?_
    refine s_val (v_assign (v := .int .i64 _) rfl) ?_
    refine s_nil ?_
    refine r_list (by kernel_rfl) ?_
    refine s_val (v_move (v := _) rfl) ?_
    refine s_val (v_move (v := .int .i64 _) rfl) ?_
    refine s_callB (by kernel_rfl) (g_appendNumber (At w) s.E s.v (bodyTo a s.k) n hs (noted_list h11 hnk) (by omega)) (fun v20 E20 hR20 => ?_)
    refine s_val (v_assign (v := _) rfl) ?_
    refine s_end ?_
    refine n_bnormal ?_
    refine n_then ?_
    refine r_list (by kernel_rfl) ?_
    refine s_val (v_add rfl rfl (by omega)) ?_
    refine s_val (v_move (v := .int .i64 _) rfl) ?_
    refine s_end ?_
    refine n_round (s := s) ⟨s.k + 1, v20, E20⟩ ⟨_, ⟨hk5, by rw [body_step hnk]; exact hR20⟩, live4 rfl rfl rfl rfl⟩ (fun _ hw => hw) (by dsimp only; omega)
  refine c_exit ?_
  refine n_exit ?_
  refine n_exit ?_
  refine n_bhere ?_
  refine n_then ?_
  have hk55 : s.k = 5 := by have := of_decide_eq_false h16; omega
  rw [hk55, body_five] at hs
  obtain ⟨g4, c4, cs4, hv4, hE4, hc4⟩ := hs.block (by omega)
  rw [hv4]
  refine c_weak (C' := Has w (At w) [(g4, .cells cs4 5), (b1, .cells a.cells 54)]) (fun _ hw => by rw [hE4] at hw; exact hw) ?_
  refine r_seq (by kernel_rfl) ?_
  refine s_val (v_move (v := .slice _ _ _) rfl) ?_
  refine s_val (v_lenS (T := 84) (m := 1) (by kernel_rfl) rfl rfl) ?_
  refine s_val (v_toU8 (by kernel_rfl) rfl ⟨by omega, by omega⟩) ?_
  refine s_build1 (v := .int .u8 _) (e := 5) (m := 1) (by_ := 1) (by kernel_rfl) rfl rfl rfl (fill_scalar rfl) (fun b25 => ?_)
  refine s_val (v_assign (v := .slice _ _ _) rfl) ?_
  refine s_nil ?_
  refine r_seq (by kernel_rfl) ?_
  refine s_val (v_move (v := .slice _ _ _) rfl) ?_
  refine s_val (v_move (v := .slice _ _ _) rfl) ?_
  refine s_pushM (E := [(b25, .cells #[U8 ((bodyOf a).length : Nat)] 5)]) (e := 5) (m := 1) (by_ := 1) (mm := (bodyOf a).length) (news := u8s (bodyOf a)) (by kernel_rfl) rfl rfl rfl rfl rfl (byts_one _ b25 (bodyOf a).length) (by rw [u8s_len]; omega) (fun w1 hw j u hj => ?_) (u8s_one _) (by omega) (by simp only [List.length_cons, List.length_nil]; omega) (fun v28 E28 hE28 => ?_)
  · obtain ⟨m, hm, rfl⟩ : ∃ m, (bodyOf a)[j]? = some m ∧ u = U8 (m : Int) := by
      cases hq : (bodyOf a)[j]? with
      | none => simp [u8s, hq] at hj
      | some m => exact ⟨m, rfl, by simpa [u8s, hq] using hj.symm⟩
    rw [Nat.zero_add, cell_has hw (.there .here)]; exact hc4 j m hm
  have hB28 : Bytes 5 v28 ((bodyOf a).length :: bodyOf a) E28 := Bytes.push (l := [(bodyOf a).length]) hE28
  refine s_val (v_assign (v := _) rfl) ?_
  refine s_nil ?_
  refine r_seq (by kernel_rfl) ?_
  refine s_val (v_move (v := .slice _ _ _) rfl) ?_
  refine s_call (by kernel_rfl) (fun w hw => g_checksum (some ⟨g4, 0, none⟩) c4 (bodyOf a) w (.inr ⟨g4, 0, rfl, fun j m hj => by show World.cell? _ _ = _; rw [Nat.zero_add, cell_has hw (Look.app .here)]; exact hc4 j m hj⟩) (fun b hb => body_byte a b hb) (by omega)) ?_
  refine s_val (v_move (v := .tuple _) rfl) ?_
  refine s_val (v_extract rfl rfl) ?_
  refine s_val (v_extract rfl rfl) ?_
  refine s_val (v_assign (v := .int .u8 _) rfl) ?_
  refine s_val (v_assign (v := .int .u8 _) rfl) ?_
  refine s_nil ?_
  refine r_seq (by kernel_rfl) ?_
  refine s_val (v_move (v := _) rfl) ?_
  refine s_val (v_move (v := .int .u8 _) rfl) ?_
  refine s_val (v_move (v := .int .u8 _) rfl) ?_
  refine s_buildS (e := 5) (vs := [(0, .int .u8 _), (1, .int .u8 _)]) (cs := #[U8 (((sumOf (bodyOf a)).1 % 251 : Nat) : Int), U8 (((sumOf (bodyOf a)).2 % 251 : Nat) : Int)]) rfl (by kernel_rfl) (fun b37 => ?_)
  refine s_pushN (e := 5) (m := 1) (by_ := 1) (mm := 2) (by kernel_rfl) rfl rfl rfl rfl rfl hB28 rfl (by simp [Value.oneCell']) (by decide) (by simp only [List.length_cons]; omega) (fun v38 E38 hE38 => ?_)
  have hB38 : Bytes 5 v38 (((bodyOf a).length :: bodyOf a) ++ [(sumOf (bodyOf a)).1 % 251, (sumOf (bodyOf a)).2 % 251]) E38 := Bytes.push (m := [(sumOf (bodyOf a)).1 % 251, (sumOf (bodyOf a)).2 % 251]) hE38
  refine s_val (v_strOfE (l := frameOf a) (by kernel_rfl) (by kernel_rfl) rfl hB38 (by rw [frame_len]; omega) (frame_byte h11)) ?_
  refine s_val (v_assign (v := S _) rfl) ?_
  refine s_val (v_assign (v := .int .i64 _) rfl) ?_
  refine s_nil ?_
  refine c_ret ?_
  exact n_doneT rfl (by decide) (by decide) (by rw [frameR_yes h11]; rfl)

end Go.Proofs.Ytmkboljfbmlebaa
/- Contract of the developers' readFrame. Condition: texts of a few million bytes at most. -/
namespace Go.Proofs.Ytmkboljfbmlebaa
open Go.RowKit
set_option linter.unusedSimpArgs false
set_option linter.unusedVariables false
set_option maxRecDepth 100000
attribute [local irreducible] cC sC nC rC qw

set_option maxHeartbeats 1000000 in
theorem g_readFrame (l : List Nat) (w : World) (hb : Byt l) (hl : l.length ≤ 8388608) : Gives Try.prog 81 [S l] w (frontR l) := by
  refine gives_of Try.func81 rfl Try.ntmps81 (by simp) ?_
  refine r_seq (by kernel_rfl) ?_
  refine s_alloc (z := .agg zeroA.cells) (by kernel_rfl) (fun b2 => ?_)
  refine s_val (v_assign (v := .int .i64 _) rfl) ?_
  refine s_val (v_assign (v := .bool _) rfl) ?_
  refine s_nil ?_
  refine r_seq (by kernel_rfl) ?_
  refine s_val (v_move (v := S _) rfl) ?_
  refine s_call (by kernel_rfl) (fun w hw => g_guess l w hb hl) ?_
  refine s_val (v_move (v := .tuple _) rfl) ?_
  refine s_val (v_extract rfl rfl) ?_
  refine s_val (v_extract rfl rfl) ?_
  refine s_alloc (z := .agg zeroA.cells) (by kernel_rfl) (fun b5 => ?_)
  refine s_storeA (m := 5) (by kernel_rfl) rfl rfl .here rfl rfl (ActS.all1 _) ?_
  refine s_val (v_assign (v := .bool _) rfl) ?_
  refine s_nil ?_
  refine c_seq ?_
  refine r_seq (by kernel_rfl) ?_
  refine s_val (v_move (v := .bool _) rfl) ?_
  refine s_val (v_not rfl) ?_
  refine s_nil ?_
  refine c_condN rfl rfl (fun h15 => ?_) (fun h15 => ?_)
  · refine r_seq (by kernel_rfl) ?_
    refine s_val (v_build (vs := []) (cs := zeroA.cells) rfl (by kernel_rfl)) ?_
    refine s_storeA (m := 5) (by kernel_rfl) rfl rfl (.there .here) rfl rfl (ActS.all1 _) ?_
    refine s_val (v_assign (v := .int .i64 _) rfl) ?_
    refine s_val (v_assign (v := .bool _) rfl) ?_
    refine s_nil ?_
    refine c_ret ?_
    refine n_ret ?_
    exact n_doneCTT (m := 5) rfl (by decide) (by decide) (by decide) rfl (by kernel_rfl) (.there .here) rfl (front_no (first_gone h15))
  refine c_skip ?_
  refine n_then ?_
  refine r_seq (by kernel_rfl) ?_
  refine s_val (v_loadA (m := 5) (by kernel_rfl) rfl .here rfl) ?_
  refine s_call (by kernel_rfl) (fun w hw => g_Frame (gAct l) w) ?_
  refine s_val (v_move (v := .tuple _) rfl) ?_
  refine s_val (v_extract rfl rfl) ?_
  refine s_val (v_extract rfl rfl) ?_
  refine s_val (v_assign (v := S _) rfl) ?_
  refine s_val (v_assign (v := .int .i64 _) rfl) ?_
  refine s_nil ?_
  refine c_seq ?_
  refine r_seq (by kernel_rfl) ?_
  refine s_val (v_move (v := .int .i64 _) rfl) ?_
  refine s_val (v_neq (k := .i64) rfl rfl) ?_
  refine s_val (v_move (v := .bool _) rfl) ?_
  refine s_splitN (s := 24) rfl (fun h24 => ?_) (fun h24 => ?_)
  · refine s_pass rfl rfl (congrArg not h24) ?_
    refine s_pass rfl rfl (congrArg not h24) ?_
    refine s_pass rfl rfl (congrArg not h24) ?_
    refine s_pass rfl rfl (congrArg not h24) ?_
    refine s_val (v_pickT (v := .bool _) rfl (congrArg not h24) rfl) ?_
    refine s_nil ?_
    refine c_condTh rfl rfl rfl ?_
    refine r_seq (by kernel_rfl) ?_
    refine s_val (v_build (vs := []) (cs := zeroA.cells) rfl (by kernel_rfl)) ?_
    refine s_storeA (m := 5) (by kernel_rfl) rfl rfl (.there .here) rfl rfl (ActS.all1 _) ?_
    refine s_val (v_assign (v := .int .i64 _) rfl) ?_
    refine s_val (v_assign (v := .bool _) rfl) ?_
    refine s_nil ?_
    refine c_ret ?_
    refine n_ret ?_
    exact n_doneCTT (m := 5) rfl (by decide) (by decide) (by decide) rfl (by kernel_rfl) (.there .here) rfl (front_no (first_other h15 (fun h => absurd (by simp [fErr, h.1]) (of_decide_eq_false h24))))
  have hnx := fErr_ok (of_decide_eq_true h24)
  have hft : fText (gAct l) = frameOf (gAct l) := by simp [fText, hnx]
  refine s_want rfl rfl (congrArg not h24) ?_
  refine s_val (v_move (v := S _) rfl) ?_
  refine s_want rfl rfl (congrArg not h24) ?_
  refine s_val (v_move (v := S _) rfl) ?_
  refine s_want rfl rfl (congrArg not h24) ?_
  refine s_call (by kernel_rfl) (fun w hw => g_HasPrefix l (fText (gAct l)) w hb (fText_byt _)) ?_
  refine s_want rfl rfl (congrArg not h24) ?_
  refine s_val (v_not rfl) ?_
  refine s_val (v_pickF (v := .bool _) rfl (congrArg not h24) rfl) ?_
  refine s_nil ?_
  refine c_condN rfl rfl (fun h29 => ?_) (fun h29 => ?_)
  · refine r_seq (by kernel_rfl) ?_
    refine s_val (v_build (vs := []) (cs := zeroA.cells) rfl (by kernel_rfl)) ?_
    refine s_storeA (m := 5) (by kernel_rfl) rfl rfl (.there .here) rfl rfl (ActS.all1 _) ?_
    refine s_val (v_assign (v := .int .i64 _) rfl) ?_
    refine s_val (v_assign (v := .bool _) rfl) ?_
    refine s_nil ?_
    refine c_ret ?_
    refine n_ret ?_
    exact n_doneCTT (m := 5) rfl (by decide) (by decide) (by decide) rfl (by kernel_rfl) (.there .here) rfl (front_no (first_other h15 (fun h => absurd ((begins_iff (l := l) (f := fText (gAct l))).2 (by rw [hft]; exact h.2)) (by rw [h29]; decide))))
  refine c_skip ?_
  refine n_then ?_
  refine r_seq (by kernel_rfl) ?_
  refine s_val (v_loadA (m := 5) (by kernel_rfl) rfl .here rfl) ?_
  refine s_val (v_move (v := S _) rfl) ?_
  refine s_val (v_strLen (by kernel_rfl) rfl rfl) ?_
  refine s_storeA (m := 5) (by kernel_rfl) rfl rfl (.there .here) rfl rfl (ActS.all1 _) ?_
  refine s_val (v_assign (v := .int .i64 _) rfl) ?_
  refine s_val (v_assign (v := .bool _) rfl) ?_
  refine s_nil ?_
  refine c_ret ?_
  exact n_doneCTT (m := 5) rfl (by decide) (by decide) (by decide) rfl (by kernel_rfl) (.there .here) rfl (by rw [hft]; exact front_yes (first_this hnx (by rw [← hft]; exact begins_iff.1 h29)))

end Go.Proofs.Ytmkboljfbmlebaa
/- Contract of the developers' book.Read. Condition: texts of a few million bytes at most. -/
namespace Go.Proofs.Ytmkboljfbmlebaa
open Go.RowKit
set_option linter.unusedSimpArgs false
set_option linter.unusedVariables false
set_option maxRecDepth 100000
attribute [local irreducible] cC sC nC rC qw

set_option maxHeartbeats 1000000 in
theorem g_Read (l : List Nat) (w : World) (hb : Byt l) (hl : l.length ≤ 8388608) : GivesF Try.prog 51 [S l] w (ReadF l) := by
  refine givesF_of Try.func51 rfl Try.ntmps51 (by simp) ?_
  refine r_seq (by kernel_rfl) ?_
  refine s_val (v_assign (v := .slice _ _ _) rfl) ?_
  refine s_val (v_assign (v := .int .i64 _) rfl) ?_
  refine s_nil ?_
  refine r_seq (by kernel_rfl) ?_
  refine s_val (v_assign (v := .slice _ _ _) rfl) ?_
  refine s_nil ?_
  refine r_seq (by kernel_rfl) ?_
  refine s_val (v_assign (v := .int .i64 _) rfl) ?_
  refine s_nil ?_
  refine c_block ?_
  refine c_loop (σ := RB) (fun (s : RB) f => ∃ g, (RbOk 54 l s) ∧ f = (upd (upd (upd g 0 (S l)) 4 (s.v)) 5 (I ((bytesOf s.xs).length : Nat)))) (fun (s : RB) => Has w (At w) (s.E ++ [])) (fun (s : RB) => l.length - (bytesOf s.xs).length) ⟨[], .slice none 0 0, []⟩ ⟨_, ⟨listE_nil _ _, Nat.zero_le _, rfl, Nat.le_refl _⟩, live3 rfl rfl rfl⟩ (fun w hw => hw) ?_
  rintro s _ ⟨g, ho, rfl⟩
  refine c_block ?_
  have hfront := ho.front
  refine r_seq (by kernel_rfl) ?_
  refine s_val (v_move (v := S _) rfl) ?_
  refine s_val (v_move (v := .int .i64 _) rfl) ?_
  refine s_val (v := S (l.drop (bytesOf s.xs).length)) (v_strLo (a := l) (i := ((bytesOf s.xs).length : Nat)) (by kernel_rfl) rfl rfl ⟨by omega, by omega⟩) ?_
  refine s_call (by kernel_rfl) (fun w hw => g_readFrame (l.drop (bytesOf s.xs).length) w (hb.drop _) (by rw [List.length_drop]; omega)) ?_
  refine s_val (v_move (v := .tuple _) rfl) ?_
  refine s_val (v_extract rfl rfl) ?_
  refine s_val (v_extract rfl rfl) ?_
  refine s_val (v_extract rfl rfl) ?_
  refine s_alloc (z := .agg zeroA.cells) (by kernel_rfl) (fun b6 => ?_)
  refine s_storeA (m := 5) (by kernel_rfl) rfl rfl .here rfl rfl (ActS.all1 _) ?_
  refine s_val (v_assign (v := .int .i64 _) rfl) ?_
  refine s_val (v_assign (v := .bool _) rfl) ?_
  refine s_nil ?_
  refine c_seq ?_
  refine r_seq (by kernel_rfl) ?_
  refine s_val (v_move (v := .bool _) rfl) ?_
  refine s_val (v_not rfl) ?_
  refine s_nil ?_
  refine c_condN rfl rfl (fun h18 => ?_) (fun h18 => ?_)
  · refine r_seq (by kernel_rfl) ?_
    refine s_val (v_move (v := _) rfl) ?_
    refine s_val (v_move (v := .int .i64 _) rfl) ?_
    refine s_val (v_assign (v := _) rfl) ?_
    refine s_val (v_assign (v := .int .i64 _) rfl) ?_
    refine s_nil ?_
    refine c_ret ?_
    refine n_ret ?_
    refine n_bret ?_
    refine n_ret ?_
    refine n_bret ?_
    refine n_doneTF rfl (by decide) (by decide) (fun w hw => ?_)
    exact ho.done (rf_no h18) (own_fresh hw.tail)
  refine c_skip ?_
  refine n_then ?_
  refine c_weak (C' := Has w (At w) (s.E ++ [(b6, .cells (rfAct (l.drop (bytesOf s.xs).length)).cells 54)])) (fun _ hw => by
    have h1 := hw.sub (L' := (b6, .cells (rfAct (l.drop (bytesOf s.xs).length)).cells 54) :: (s.E ++ [])) (List.Sublist.refl _)
    rw [List.append_nil] at h1
    exact h1.perm (List.perm_append_comm (l₁ := [_]))) ?_
  have hfr := rf_yes h18
  have height := ho.eight
  have hfl := frame_len (rfAct (l.drop (bytesOf s.xs).length))
  have hpre := ((first_iff _ _).1 hfr.1).2.length_le
  rw [List.length_drop] at hpre
  refine r_seq (by kernel_rfl) ?_
  refine s_val (v_move (v := _) rfl) ?_
  refine s_val (v_loadA (m := 5) (by kernel_rfl) rfl (.app .here) rfl) ?_
  refine s_build1 (v := .agg _) (e := 54) (m := 5) (by_ := 40) (by kernel_rfl) rfl rfl rfl (fill_one rfl) (fun b23 => ?_)
  refine s_push (e := 54) (m := 5) (by_ := 40) (by kernel_rfl) rfl rfl rfl rfl rfl ho.list rfl (ActS.all1 _) (by omega) (fun v24 E24 hE24 => ?_)
  refine s_val (v_assign (v := _) rfl) ?_
  refine s_nil ?_
  refine r_list (by kernel_rfl) ?_
  refine s_val (v_move (v := .int .i64 _) rfl) ?_
  refine s_val (v_move (v := .int .i64 _) rfl) ?_
  refine s_val (v_add rfl rfl (by omega)) ?_
  refine s_val (v_assign (v := .int .i64 _) rfl) ?_
  refine s_end ?_
  refine n_bnormal ?_
  refine n_round (s := s) ⟨s.xs ++ [rfAct (l.drop (bytesOf s.xs).length)], v24, E24⟩ ⟨_, (ho.next hfr.1 hE24).1, live3 rfl rfl (congrArg I (by have h1 := (ho.next hfr.1 hE24).2; have h2 := hfr.2; dsimp only; omega))⟩ (fun _ hw => hw.sub (List.Sublist.append (List.Sublist.refl _) (List.nil_sublist _))) (by have h1 := (ho.next hfr.1 hE24).2; have h2 := (ho.next hfr.1 hE24).1.front; dsimp only at h2 ⊢; omega)

end Go.Proofs.Ytmkboljfbmlebaa
