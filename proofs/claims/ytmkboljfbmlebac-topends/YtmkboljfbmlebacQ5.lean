/- What the laws of this place stand on, part 5. Each part names its own conditions in what it states. -/
import Derived.Test.YtmkboljfbmlebacQ4
import Derived.Test.YtmkboljfbmlebacRows
namespace Go.Proofs.Ytmkboljfbmlebac
open Go.RowKit
set_option linter.unusedSimpArgs false
set_option linter.unusedVariables false
def GivesW (P : Program) (k : FuncId) (args : List Value) (F : Addr → Value → Prop) (B : List (Nat × Obj)) (R : (Addr → Value → Prop) → Value → List (Nat × Obj) → Prop) : Prop :=
 ∀ (w0 : World) (K : List (Nat × Obj)) (w : World), Has w0 F (B ++ K) w → Calls P k args.toArray w fun e w' => ∃ v B' F', e = .returned v ∧ More F F' ∧ Has w0 F' (B' ++ K) w' ∧ R F' v B'
def retW (w0 : World) (F : Addr → Value → Prop) (K : List (Nat × Obj)) (R : (Addr → Value → Prop) → Value → List (Nat × Obj) → Prop) : Value → World → Prop :=
 fun v w' => ∃ B' F', More F F' ∧ Has w0 F' (B' ++ K) w' ∧ R F' v B'
theorem givesW_of {P : Program} {k : FuncId} {fn : Func} {c : Code} {m : Nat} {args : List Value} {B : List (Nat × Obj)} {F : Addr → Value → Prop} {R : (Addr → Value → Prop) → Value → List (Nat × Obj) → Prop}
   (hf : P.funcs[k]? = some fn) (hb : fn.body = some c) (hn : fn.ntmps = m) (hl : args.length ≤ m)
   (h : ∀ w0 K, cC P m c (retQ P fn m (retW w0 F K R)) (argF args) (Has w0 F (B ++ K))) : GivesW P k args F B R := fun w0 K w hw => by
 refine calls_of_wp hf hb ?_
 rw [hn, Fa_args m args hl]
 refine wp_mono (h w0 K w hw) ?_
 rintro e a w' ⟨f, rfl, hr⟩
 cases e <;> simp only [retQ] at hr
 · obtain ⟨v, h1, B', F', h2, h3, h4⟩ := hr; exact ⟨rfl, v, h1, v, B', F', rfl, h2, h3, h4⟩
 · obtain ⟨v, h1, B', F', h2, h3, h4⟩ := hr; exact ⟨rfl, v, h1, v, B', F', rfl, h2, h3, h4⟩
section
variable {P : Program} {ops : Array Oper} {K : (Nat → Value) → World → Prop} {rest : List Oper} {f : Nat → Value} {d : Nat} {ty : TypeId} {pos : String} {af : Array Edge} {w0 : World} {F : Addr → Value → Prop} {B E L : List (Nat × Obj)}
theorem s_weak {C C' : World → Prop} (hc : ∀ w, C w → C' w) (h : sC P ops K rest f C') : sC P ops K rest f C := fun w hw => h w (hc w hw)
theorem s_callW {k : FuncId} {xs : List Operand} {ats : Array TypeId} {R : (Addr → Value → Prop) → Value → List (Nat × Obj) → Prop} (hk : hasBody P k = true) (hg : GivesW P k (xs.map (ev f)) F B R)
   (kk : ∀ (F' : Addr → Value → Prop) (v : Value) (B' : List (Nat × Obj)), More F F' → R F' v B' → sC P ops K rest (upd f d v) (Has w0 F' (B' ++ L))) :
   sC P ops K (⟨some d, .call ⟨.value (.func k), xs.toArray, ats⟩, ty, pos, af, none⟩ :: rest) f (Has w0 F (B ++ L)) := by
 intro w hw
 unfold sw
 rw [if_pos wanted_free]
 unfold opk
 rw [run_call hk w]
 exact (hg w0 L w hw).mono fun e w' ⟨v, B', F', he, hm, h', hr⟩ => ⟨_, he, kk F' v B' hm hr w' h'⟩
theorem s_pushM {T e m by_ n mm c : Nat} {ats : Array TypeId} {x y : Operand} {v : Value} {xs news : List Value} {b o : Nat} (hT : rowB P T e m by_ = true) (hm : Nat.ble 1 m = true) (hbb : Nat.ble 1 by_ = true) (hat : ats = #[T, T])
   (hx : ev f x = v) (hy : ev f y = .slice (some ⟨b, o, none⟩) mm c) (hE : ListE e m v n xs E) (hl : news.length = mm * m) (hnews : ∀ w, Has w0 F (E ++ L) w → ∀ j u, news[j]? = some u → w.cell? ⟨b, o + j, none⟩ = some u) (h1 : ∀ u ∈ news, u.oneCell' = true) (hpos : 0 < mm) (hbytes : (n + mm) * by_ ≤ 140737488355328)
   (kk : ∀ v' E', ListE e m v' (n + mm) (xs ++ news) E' → sC P ops K rest (upd f d v') (Has w0 F (E' ++ L))) :
   sC P ops K (⟨some d, .call ⟨.builtin .append, #[x, y], ats⟩, ty, pos, af, none⟩ :: rest) f (Has w0 F (E ++ L)) := by
 intro w hw
 subst hat
 unfold sw
 rw [if_pos wanted_free]
 unfold opk
 obtain ⟨v', E', w', hr, hE', hw'⟩ := run_appendE (P := P) (w0 := w0) (F := F) (L := L) (c := c) (ty := ty) (b := b) (o := o) (mm := mm) (news := news) hT (Nat.le_of_ble_eq_true hm) hE hw hl (hnews w hw) h1 hpos hbytes (Nat.le_of_ble_eq_true hbb)
 have : (execOp (ev f) ⟨some d, .call ⟨.builtin .append, #[x, y], #[T, T]⟩, ty, pos, af, none⟩).run P w = .ok (.value v') w' := by
   simp [execOp, resolve, invoke, builtin, hx, hy, hr]
 rw [this]
 exact kk v' E' hE' w' hw'
theorem s_pushN {T e m by_ n mm : Nat} {ats : Array TypeId} {x y : Operand} {v : Value} {xs : List Value} {b : Nat} {cs : Array Value} (hT : rowB P T e m by_ = true) (hm : Nat.ble 1 m = true) (hbb : Nat.ble 1 by_ = true) (hat : ats = #[T, T])
   (hx : ev f x = v) (hy : ev f y = .slice (some ⟨b, 0, none⟩) mm mm) (hE : ListE e m v n xs E) (hs : cs.size = mm * m) (h1 : cs.all (·.oneCell') = true) (hpos : 0 < mm) (hbytes : (n + mm) * by_ ≤ 140737488355328)
   (kk : ∀ v' E', ListE e m v' (n + mm) (xs ++ cs.toList) E' → sC P ops K rest (upd f d v') (Has w0 F (E' ++ L))) :
   sC P ops K (⟨some d, .call ⟨.builtin .append, #[x, y], ats⟩, ty, pos, af, none⟩ :: rest) f (Has w0 F ((b, .cells cs e) :: (E ++ L))) := by
 intro w hw
 subst hat
 unfold sw
 rw [if_pos wanted_free]
 unfold opk
 obtain ⟨v', E', w', hr, hE', hw'⟩ := run_appendE (P := P) (w0 := w0) (F := F) (L := L) (c := mm) (ty := ty) (b := b) (o := 0) (mm := mm) (news := cs.toList) hT (Nat.le_of_ble_eq_true hm) hE hw.tail (by simp [hs]) (fun j u hj => by
   rw [Nat.zero_add, cell_has hw .here]; simpa using hj) (fun u hu => by rw [Array.all_eq_true_iff_forall_mem] at h1; exact h1 u (by simpa using hu)) hpos hbytes (Nat.le_of_ble_eq_true hbb)
 have : (execOp (ev f) ⟨some d, .call ⟨.builtin .append, #[x, y], #[T, T]⟩, ty, pos, af, none⟩).run P w = .ok (.value v') w' := by
   simp [execOp, resolve, invoke, builtin, hx, hy, hr]
 rw [this]
 exact kk v' E' hE' w' hw'
end
def u8s (l : List Nat) : List Value := l.map fun n : Nat => U8 (n : Int)
theorem u8s_len (l : List Nat) : (u8s l).length = l.length := by simp [u8s]
theorem u8s_append (l m : List Nat) : u8s (l ++ m) = u8s l ++ u8s m := by simp [u8s]
theorem u8s_one (l : List Nat) : ∀ u ∈ u8s l, u.oneCell' = true := fun u hu => by
 obtain ⟨q, _, rfl⟩ := List.mem_map.1 hu
 rfl
def BytesAt (F : Addr → Value → Prop) (a : Option Addr) (l : List Nat) : Prop := l = [] ∨ ∃ b o, a = some ⟨b, o, none⟩ ∧ ∀ (j m : Nat), l[j]? = some m → F ⟨b, o + j, none⟩ (U8 m)
theorem BytesAt.get {F : Addr → Value → Prop} {a : Option Addr} {l : List Nat} (h : BytesAt F a l) {j : Nat} (hj : j < l.length) : ∃ b o m, a = some ⟨b, o, none⟩ ∧ l[j]? = some m ∧ F ⟨b, o + j, none⟩ (U8 m) := by
 rcases h with rfl | ⟨b, o, h1, h2⟩
 · simp at hj
 · exact ⟨b, o, l[j], h1, by simp [hj], h2 j _ (by simp [hj])⟩
abbrev Bytes (e : Nat) (v : Value) (l : List Nat) (E : List (Nat × Obj)) : Prop := ListE e 1 v l.length (u8s l) E
theorem byts_nil (e : Nat) : Bytes e (.slice none 0 0) [] [] := listE_nil e 1
theorem Bytes.slice {e : Nat} {v : Value} {l : List Nat} {E : List (Nat × Obj)} (h : Bytes e v l E) : ∃ a c, v = .slice a l.length c ∧ ∀ {w0 w : World} {F : Addr → Value → Prop} {L : List (Nat × Obj)}, Has w0 F L w → (∀ p ∈ E, p ∈ L) → BytesAt (At w) a l := by
 rcases h.2 with ⟨rfl, h2, rfl⟩ | ⟨g, cap, cur, rfl, rfl, h3, h4, h5, h6⟩
 · exact ⟨none, 0, by rw [h2], fun _ _ => .inl (List.eq_nil_of_length_eq_zero h2)⟩
 · refine ⟨_, _, rfl, fun {w0 w F L} hw hs => .inr ⟨g, 0, rfl, fun j m hj => ?_⟩⟩
   show w.cell? _ = _
   rw [Nat.zero_add, cell_of_row w g j cur e (0, 0) (hw.2.2.1 (g, .cells cur e (0, 0)) (hs _ (by simp))).2]
   have e1 : (u8s l)[j]? = some (U8 m) := by simp [u8s, hj]
   rw [← h6, List.getElem?_take] at e1
   split at e1
   · simpa using e1
   · cases e1
theorem Bytes.block {e : Nat} {v : Value} {l : List Nat} {E : List (Nat × Obj)} (h : Bytes e v l E) (h0 : 0 < l.length) : ∃ g c cs, v = .slice (some ⟨g, 0, none⟩) l.length c ∧ E = [(g, .cells cs e (0, 0))] ∧ ∀ (j m : Nat), l[j]? = some m → cs[j]? = some (U8 m) := by
 rcases h.2 with ⟨rfl, h2, rfl⟩ | ⟨g, cap, cur, rfl, rfl, h3, h4, h5, h6⟩
 · omega
 · refine ⟨g, cap, cur, rfl, rfl, fun j m hj => ?_⟩
   have e1 : (u8s l)[j]? = some (U8 m) := by simp [u8s, hj]
   rw [← h6, List.getElem?_take] at e1
   split at e1
   · simpa using e1
   · cases e1
theorem byts_one (e b n : Nat) : Bytes e (.slice (some ⟨b, 0, none⟩) 1 1) [n] [(b, .cells #[U8 (n : Int)] e)] :=
 ⟨rfl, .inr ⟨b, 1, #[U8 (n : Int)], rfl, rfl, Nat.le_refl _, by decide, rfl, rfl⟩⟩
section
variable {P : Program} {f : Nat → Value} {dst : Option Nat} {ty : TypeId} {pos : String} {af : Array Edge} {gd : Option (Nat × Bool)} {w0 : World} {F : Addr → Value → Prop} {C : World → Prop} {E L : List (Nat × Obj)}
theorem v_strOfE {x : Operand} {Sx T e : Nat} {v : Value} {l : List Nat} (hS : bytesB P Sx = true) (hT : strB P T = true) (hx : ev f x = v) (hE : Bytes e v l E) (h0 : 0 < l.length) (hb : Byt l) :
   Val P f (Has w0 F (E ++ L)) ⟨dst, .convert Sx T x, ty, pos, af, gd⟩ (S l) := by
 obtain ⟨g, c, cs, rfl, rfl, hc⟩ := hE.block h0
 exact v_strOf hS hT hx rfl (.here) hb hc
theorem v_shl {x y : Operand} {t t' : TypeId} {a b c : Int} (hx : ev f x = .int .i64 a) (hy : ev f y = .int .i64 b) (hb : 0 ≤ b ∧ b ≤ 64) (hc : IntKind.i64.wrap (a * 2 ^ b.toNat) = c) : Val P f C ⟨dst, .binOp .shl t x y t', ty, pos, af, gd⟩ (.int .i64 c) :=
 ⟨fun w _ => by
   have h1 := shift_shl .i64 .i64 a b hb.1 (show b ≤ 64 from hb.2)
   rw [hc] at h1
   simp [execOp, hx, hy, eqGuard, binOp, h1]
   exact hc⟩
end
section
variable {P : Program} {fn : Func} {n t t2 t3 T b m ty : Nat} {fr : Nat × Nat} {cs : Array Value} {f : Nat → Value} {v : Value} {w0 : World} {F F0 : Addr → Value → Prop} {L K B' : List (Nat × Obj)} {R : (Addr → Value → Prop) → Value → List (Nat × Obj) → Prop}
theorem n_doneW (hr : fn.results = #[.tmp t]) (ht : t < n) (hm : More F0 F) (hs : ∀ w, Has w0 F L w → Has w0 F (B' ++ K) w) (hv : R F (f t) B') : nC (retQ P fn n (retW w0 F0 K R)) .ret f (Has w0 F L) :=
 fun w hw => ⟨f t, results_one hr ht w, B', F, hm, hs w hw, hv⟩
theorem n_done3 (hr : fn.results = #[.tmp t, .tmp t2, .tmp t3]) (ht : t < n) (ht2 : t2 < n) (ht3 : t3 < n) (hv : .tuple #[f t, f t2, f t3] = v) :
   nC (retQ P fn n (fun v' w' => v' = v ∧ Bel w0.heap.size w0 w')) .ret f (Has w0 F L) := fun w hw => by
 refine ⟨.tuple #[f t, f t2, f t3], ?_, hv, hw.1⟩
 have e : (Fa n f).tmps[t]?.getD undef = f t := by simp [Fa, ht]
 have e2 : (Fa n f).tmps[t2]?.getD undef = f t2 := by simp [Fa, ht2]
 have e3 : (Fa n f).tmps[t3]?.getD undef = f t3 := by simp [Fa, ht3]
 simp [results, hr, e, e2, e3]
theorem n_doneCT (hr : fn.results = #[.cell t T, .tmp t2]) (ht : t < n) (ht2 : t2 < n) (hp : f t = .pointer (some ⟨b, 0, none⟩))
   (hT : aggB P T m = true) (hl : Look L b (.cells cs ty fr)) (hm : cs.size = m) (hv : .tuple #[.agg cs, f t2] = v) : nC (retQ P fn n (fun v' w' => v' = v ∧ Bel w0.heap.size w0 w')) .ret f (Has w0 F L) := fun w hw => by
 refine ⟨.tuple #[.agg cs, f t2], ?_, hv, hw.1⟩
 have e : (Fa n f).tmps[t]?.getD undef = f t := by simp [Fa, ht]
 have e2 : (Fa n f).tmps[t2]?.getD undef = f t2 := by simp [Fa, ht2]
 subst hm
 have := run_loadN (P := P) (w := w) (b := b) (o := 0) (cs := cs.toList) (by simpa using hT) (fun j v hj => by
   rw [cell_has hw hl]; simpa using hj)
 simp only [Instr.loadAt, Instr.sureAddr, Sem.run_bind, Sem.run_pure, Result.andThen] at this
 simp [results, hr, e, e2, hp, asAddr, this]
theorem n_doneCTT (hr : fn.results = #[.cell t T, .tmp t2, .tmp t3]) (ht : t < n) (ht2 : t2 < n) (ht3 : t3 < n) (hp : f t = .pointer (some ⟨b, 0, none⟩))
   (hT : aggB P T m = true) (hl : Look L b (.cells cs ty fr)) (hm : cs.size = m) (hv : .tuple #[.agg cs, f t2, f t3] = v) : nC (retQ P fn n (fun v' w' => v' = v ∧ Bel w0.heap.size w0 w')) .ret f (Has w0 F L) := fun w hw => by
 refine ⟨.tuple #[.agg cs, f t2, f t3], ?_, hv, hw.1⟩
 have e : (Fa n f).tmps[t]?.getD undef = f t := by simp [Fa, ht]
 have e2 : (Fa n f).tmps[t2]?.getD undef = f t2 := by simp [Fa, ht2]
 have e3 : (Fa n f).tmps[t3]?.getD undef = f t3 := by simp [Fa, ht3]
 subst hm
 have := run_loadN (P := P) (w := w) (b := b) (o := 0) (cs := cs.toList) (by simpa using hT) (fun j v hj => by
   rw [cell_has hw hl]; simpa using hj)
 simp only [Instr.loadAt, Instr.sureAddr, Sem.run_bind, Sem.run_pure, Result.andThen] at this
 simp [results, hr, e, e2, e3, hp, asAddr, this]
end
theorem Has.less {w0 w : World} {F F' : Addr → Value → Prop} {L : List (Nat × Obj)} (h : Has w0 F' L w) (hm : More F F') : Has w0 F L w := ⟨h.1, h.2.1, h.2.2.1, fun a v hF => h.2.2.2 a v (hm a v hF)⟩
theorem s_callB {P : Program} {ops : Array Oper} {K : (Nat → Value) → World → Prop} {rest : List Oper} {f : Nat → Value} {d : Nat} {ty : TypeId} {pos : String} {af : Array Edge} {w0 : World} {F : Addr → Value → Prop} {B L : List (Nat × Obj)}
   {k : FuncId} {xs : List Operand} {ats : Array TypeId} {R : Value → List (Nat × Obj) → Prop} (hk : hasBody P k = true) (hg : GivesW P k (xs.map (ev f)) F B (fun _ v B' => R v B'))
   (kk : ∀ (v : Value) (B' : List (Nat × Obj)), R v B' → sC P ops K rest (upd f d v) (Has w0 F (B' ++ L))) :
   sC P ops K (⟨some d, .call ⟨.value (.func k), xs.toArray, ats⟩, ty, pos, af, none⟩ :: rest) f (Has w0 F (B ++ L)) :=
 s_callW hk hg fun _ v B' hm hr => s_weak (fun _ hw => hw.less hm) (kk v B' hr)
theorem Bytes.snoc {e : Nat} {v : Value} {l : List Nat} {E : List (Nat × Obj)} {x : Int} {b : Nat} (h : ListE e 1 v (l.length + 1) (u8s l ++ (U8 x).cells.toList) E) (hx : x = (b : Int)) : Bytes e v (l ++ [b]) E := by
 subst hx
 unfold Bytes
 rw [u8s_append, List.length_append]
 exact h
theorem Bytes.push {e : Nat} {v : Value} {l m : List Nat} {E : List (Nat × Obj)} (h : ListE e 1 v (l.length + m.length) (u8s l ++ u8s m) E) : Bytes e v (l ++ m) E := by
 unfold Bytes
 rw [u8s_append, List.length_append]
 exact h
def bodyTo (a : ActS) (k : Nat) : List Nat := (a.list.take k).flatMap fun n => digs (zig n)
theorem body_five (a : ActS) : bodyTo a 5 = bodyOf a := by simp [bodyTo, bodyOf, ActS.list]
theorem body_step {a : ActS} {k : Nat} {n : Int} (h : a.list[k]? = some n) : bodyTo a (k + 1) = bodyTo a k ++ digs (zig n) := by
 unfold bodyTo
 rw [List.take_add_one, h]; simp
theorem noted_list {a : ActS} (h : noted a = true) {k : Nat} {n : Int} (hk : a.list[k]? = some n) : notedI n = true := by
 obtain ⟨h1, h2, h3, h4, h5⟩ := noted_all h
 have := List.mem_of_getElem? hk
 simp only [ActS.list, List.mem_cons, List.not_mem_nil, or_false] at this
 rcases this with rfl | rfl | rfl | rfl | rfl <;> assumption
theorem body_room {a : ActS} (h : noted a = true) : ∀ k, (bodyTo a k).length ≤ 5 * k
 | 0 => by simp [bodyTo]
 | k + 1 => by
   have ih := body_room h k
   cases hk : a.list[k]? with
   | none => unfold bodyTo at ih ⊢; rw [List.take_add_one, hk]; simp only [Option.toList_none, List.append_nil]; omega
   | some n =>
     have := digs_len5 (noted_list h hk)
     rw [body_step hk, List.length_append]; omega
theorem ActS.get (a : ActS) {k : Nat} (hk : k < 5) : ∃ n, a.list[k]? = some n ∧ a.cells[((k : Nat) : Int).toNat * 1]? = some (I n) := by
 have : k = 0 ∨ k = 1 ∨ k = 2 ∨ k = 3 ∨ k = 4 := by omega
 rcases this with rfl | rfl | rfl | rfl | rfl <;> exact ⟨_, rfl, rfl⟩
structure FB where
 k : Nat
 v : Value
 E : List (Nat × Obj)
structure AN where
 u : Nat
 m : List Nat
 v : Value
 E : List (Nat × Obj)
structure Dig5 (t : List Nat) (j u : Nat) : Prop where
 j5 : j ≤ 5
 ub : u < 128 ^ j
 jl : j ≤ t.length
 rel : undig 5 t = (undig (5 - j) (t.drop j)).map fun p => (u + 128 ^ j * p.1, p.2)
theorem dig5_start (t : List Nat) : Dig5 t 0 0 := ⟨by omega, by decide, by omega, by
 simp only [Nat.sub_zero, List.drop_zero, Nat.pow_zero, Nat.one_mul, Nat.zero_add]
 cases undig 5 t <;> rfl⟩
theorem Dig5.step {t : List Nat} {j u b : Nat} (o : Dig5 t j u) (hb : t[j]? = some b) (h1 : ¬ b < 128) (h2 : b < 256) (hj : j < 5) : Dig5 t (j + 1) (u + b % 128 * 128 ^ j) := by
 have e : b % 128 = b - 128 := by omega
 rw [e]
 refine ⟨by omega, ?_, (List.getElem?_eq_some_iff.1 hb).1, ?_⟩
 · have := o.ub
   have h3 : (b - 128) * 128 ^ j ≤ 127 * 128 ^ j := Nat.mul_le_mul_right _ (by omega)
   rw [Nat.pow_succ]; omega
 · rw [o.rel, drop_cons hb, show 5 - j = (5 - (j + 1)) + 1 by omega, undig, if_neg (by omega)]
   cases undig (5 - (j + 1)) (t.drop (j + 1)) with
   | none => rfl
   | some p =>
     simp only [Option.map_some]
     congr 2
     rw [Nat.mul_add, Nat.pow_succ, ← Nat.mul_assoc, Nat.mul_comm (128 ^ j) (b - 128), Nat.add_assoc]
theorem Dig5.stop {t : List Nat} {j u : Nat} (o : Dig5 t j u) (h : t.length ≤ j ∨ 5 ≤ j) : undig 5 t = none := by
 have h5 := o.j5
 rw [o.rel]
 by_cases e : j = 5
 · subst e; rfl
 · rw [List.drop_eq_nil_of_le (by omega), show 5 - j = (4 - j) + 1 by omega]; rfl
theorem Dig5.last {t : List Nat} {j u b : Nat} (o : Dig5 t j u) (hb : t[j]? = some b) (h1 : b < 128) (hj : j < 5) : undig 5 t = some (u + b % 128 * 128 ^ j, t.drop (j + 1)) := by
 rw [Nat.mod_eq_of_lt h1, o.rel, drop_cons hb, show 5 - j = (4 - j) + 1 by omega, undig, if_pos h1, Option.map_some, Nat.mul_comm (128 ^ j) b]
theorem pow5 {j : Nat} (h : j < 5) : 128 ^ j ≤ 268435456 ∧ (2 : Int) ^ ((7 : Int) * ((j : Nat) : Int)).toNat = ((128 ^ j : Nat) : Int) := by
 have : j = 0 ∨ j = 1 ∨ j = 2 ∨ j = 3 ∨ j = 4 := by omega
 rcases this with rfl | rfl | rfl | rfl | rfl <;> exact ⟨by decide, rfl⟩
theorem dig5_fits {b p : Nat} (hp : p ≤ 268435456) : b % 128 * p ≤ 34359738368 := by
 have : b % 128 * p ≤ 127 * 268435456 := Nat.mul_le_mul (by omega) hp
 omega
theorem shl5 {b j : Nat} (hj : j < 5) : IntKind.i64.wrap (((b % 128 : Nat) : Int) * 2 ^ ((7 : Int) * ((j : Nat) : Int)).toNat) = ((b % 128 * 128 ^ j : Nat) : Int) := by
 rw [(pow5 hj).2, ← Int.natCast_mul]
 have := dig5_fits (b := b) (pow5 hj).1
 exact wr_in (by omega) (by omega)
def rnV (l : List Nat) : Int := match undig 5 l with
 | none => 0
 | some p => zag p.1
def rnK (l : List Nat) : Nat := match undig 5 l with
 | none => 0
 | some p => l.length - p.2.length
def rnB (l : List Nat) : Bool := (undig 5 l).isSome
def numR (l : List Nat) : Value := .tuple #[I (rnV l), I (rnK l : Nat), .bool (rnB l)]
theorem numR_no {l : List Nat} (h : undig 5 l = none) : .tuple #[I 0, I 0, .bool false] = numR l := by simp [numR, rnV, rnK, rnB, h]
theorem numR_yes {l : List Nat} {u j : Nat} (h : undig 5 l = some (u, l.drop (j + 1))) (hj : j < l.length) : .tuple #[I (zag u), I ((j : Int) + 1), .bool true] = numR l := by
 simp only [numR, rnV, rnK, rnB, h, Option.isSome_some, List.length_drop]
 congr 5
 omega
theorem zag_odd5 {u : Nat} (h : ¬ ((u % 2 : Nat) : Int) = 0) : (-((u : Int) + 1)).tdiv 2 = zag u := by
 unfold zag
 rw [if_pos (by omega), Int.neg_tdiv, show ((u : Int) + 1).tdiv 2 = (((u + 1) / 2 : Nat) : Int) from tdiv_nat (u + 1) 2]
 omega
theorem zag_even5 {u : Nat} (h : ((u % 2 : Nat) : Int) = 0) : ((u / 2 : Nat) : Int) = zag u := by unfold zag; rw [if_neg (by omega)]
theorem zag_bound (u : Nat) : -(u : Int) - 1 ≤ zag u ∧ zag u ≤ u := by unfold zag; split <;> omega
theorem undig_drop : ∀ (f : Nat) {l : List Nat} {u : Nat} {r : List Nat}, undig f l = some (u, r) → ∃ k, k ≤ l.length ∧ r = l.drop k
 | 0, l, u, r, h => by simp [undig] at h
 | f + 1, [], u, r, h => by simp [undig] at h
 | f + 1, b :: l, u, r, h => by
   unfold undig at h
   split at h
   · simp at h
     exact ⟨1, by simp, h.2.symm⟩
   · cases hq : undig f l with
     | none => rw [hq] at h; cases h
     | some p =>
       rw [hq] at h
       simp at h
       obtain ⟨k, h2, h3⟩ := undig_drop f (show undig f l = some (p.1, p.2) from hq)
       exact ⟨k + 1, by simp only [List.length_cons]; omega, by rw [← h.2, h3]; rfl⟩
theorem rn_yes {l : List Nat} (h : rnB l = true) : ∃ u, undig 5 l = some (u, l.drop (rnK l)) ∧ rnV l = zag u ∧ rnK l ≤ l.length := by
 unfold rnB at h
 cases hq : undig 5 l with
 | none => rw [hq] at h; cases h
 | some p =>
   obtain ⟨k, h2, h3⟩ := undig_drop 5 (show undig 5 l = some (p.1, p.2) from hq)
   have e : rnK l = k := by
     simp only [rnK, hq, h3, List.length_drop]; omega
   refine ⟨p.1, by rw [e, ← h3], by simp [rnV, hq], by omega⟩
theorem rn_no {l : List Nat} (h : rnB l = false) : undig 5 l = none := by
 unfold rnB at h
 cases hq : undig 5 l with
 | none => rfl
 | some p => rw [hq] at h; cases h
def nums5 : Nat → List Nat → Option (List Nat × List Nat)
 | 0, l => some ([], l)
 | k + 1, l => match nums5 k l with
   | none => none
   | some (us, t) => (undig 5 t).map fun p => (us ++ [p.1], p.2)
theorem nums5_step {k : Nat} {l us t : List Nat} (h : nums5 k l = some (us, t)) : nums5 (k + 1) l = (undig 5 t).map fun p => (us ++ [p.1], p.2) := by simp only [nums5, h]
theorem nums5_none {k : Nat} {l : List Nat} (h : nums5 k l = none) : ∀ m, nums5 (k + m) l = none
 | 0 => h
 | m + 1 => by
   have := nums5_none h m
   rw [show k + (m + 1) = (k + m) + 1 by omega]
   simp only [nums5, this]
theorem nums5_body {x : ActS} (h : noted x = true) (r : List Nat) : nums5 5 (bodyOf x ++ r) = some ([zig x.kind, zig x.a, zig x.b, zig x.c, zig x.n], r) := by
 obtain ⟨h1, h2, h3, h4, h5⟩ := noted_all h
 have e1 := undig_digs 4 _ (digs (zig x.a) ++ (digs (zig x.b) ++ (digs (zig x.c) ++ (digs (zig x.n) ++ r)))) (zig_lt h1)
 have e2 := undig_digs 4 _ (digs (zig x.b) ++ (digs (zig x.c) ++ (digs (zig x.n) ++ r))) (zig_lt h2)
 have e3 := undig_digs 4 _ (digs (zig x.c) ++ (digs (zig x.n) ++ r)) (zig_lt h3)
 have e4 := undig_digs 4 _ (digs (zig x.n) ++ r) (zig_lt h4)
 have e5 := undig_digs 4 _ r (zig_lt h5)
 simp only [nums5, bodyOf, List.append_assoc]
 simp only [e1, e2, e3, e4, e5, Option.map_some]
 rfl
def gNums (l : List Nat) : Option (List Nat × List Nat) := nums5 5 (l.drop 1)
def zeroA : ActS := ⟨0, 0, 0, 0, 0⟩
def gAct (l : List Nat) : ActS := match gNums l with
 | none => zeroA
 | some p => actOf p.1
def gOk (l : List Nat) : Bool := (gNums l).isSome
def guessR (l : List Nat) : Value := .tuple #[.agg (gAct l).cells, .bool (gOk l)]
theorem guess_no {l : List Nat} (h : gNums l = none) : .tuple #[.agg zeroA.cells, .bool false] = guessR l := by simp [guessR, gAct, gOk, h]
theorem guess_yes {l us t : List Nat} (h : gNums l = some (us, t)) (hu : us.length = 5) : .tuple #[.agg (act5 us).cells, .bool true] = guessR l := by simp [guessR, gAct, gOk, h, act5_of hu]
structure GS where
 k : Nat
 us : List Nat
 rest : List Nat
structure GsOk (B : List Nat) (s : GS) : Prop where
 k5 : s.k ≤ 5
 ul : s.us.length = s.k
 run : nums5 s.k B = some (s.us, s.rest)
 byt : Byt s.rest
 len : s.rest.length ≤ B.length
theorem GsOk.start {l : List Nat} (hb : Byt l) : GsOk (l.drop 1) ⟨0, [], l.drop 1⟩ := ⟨Nat.zero_le _, rfl, rfl, hb.drop 1, Nat.le_refl _⟩
theorem GsOk.next {B : List Nat} {s : GS} (o : GsOk B s) (hk : s.k < 5) {u : Nat} (hu : undig 5 s.rest = some (u, s.rest.drop (rnK s.rest))) : GsOk B ⟨s.k + 1, s.us ++ [u], s.rest.drop (rnK s.rest)⟩ := by
 have h1 := o.len
 refine ⟨hk, by simp [o.ul], ?_, o.byt.drop _, by simp only [List.length_drop]; omega⟩
 rw [nums5_step o.run, hu]; rfl
theorem GsOk.gone {B : List Nat} {s : GS} (o : GsOk B s) (hk : s.k < 5) (hu : undig 5 s.rest = none) : nums5 5 B = none := by
 have h1 : nums5 (s.k + 1) B = none := by rw [nums5_step o.run, hu]; rfl
 have := nums5_none h1 (4 - s.k)
 rwa [show s.k + 1 + (4 - s.k) = 5 by omega] at this
theorem guess_nil {l : List Nat} (h : l = []) : gNums l = none := by subst h; rfl
theorem stands_nums {x : ActS} {l : List Nat} (h : Stands x l) : ∃ t, gNums l = some ([zig x.kind, zig x.a, zig x.b, zig x.c, zig x.n], t) := by
 obtain ⟨nx, r, hr⟩ := h
 have e : l.drop 1 = bodyOf x ++ ([(sumOf (bodyOf x)).1 % 251, (sumOf (bodyOf x)).2 % 251] ++ r) := by rw [← hr]; simp [frameOf]
 exact ⟨_, by unfold gNums; rw [e]; exact nums5_body nx _⟩
theorem first_gone {l : List Nat} (h : gOk l = false) : first? l = none := (first_none _).2 fun x hx => by
 obtain ⟨t, ht⟩ := stands_nums hx
 simp [gOk, ht] at h
theorem first_other {l : List Nat} (h : gOk l = true) (hno : ¬ (noted (gAct l) = true ∧ frameOf (gAct l) <+: l)) : first? l = none := (first_none _).2 fun x hx => by
 obtain ⟨t, ht⟩ := stands_nums hx
 have e : gAct l = x := by simp only [gAct, ht]; exact actOf_zig x
 rw [e] at hno
 exact hno hx
theorem first_this {l : List Nat} (h1 : noted (gAct l) = true) (h2 : frameOf (gAct l) <+: l) : first? l = some (gAct l) := (first_iff _ _).2 ⟨h1, h2⟩
def rfAct (l : List Nat) : ActS := (first? l).getD zeroA
def rfLen (l : List Nat) : Nat := match first? l with
 | none => 0
 | some x => (frameOf x).length
def rfOk (l : List Nat) : Bool := (first? l).isSome
def frontR (l : List Nat) : Value := .tuple #[.agg (rfAct l).cells, I (rfLen l : Nat), .bool (rfOk l)]
theorem front_no {l : List Nat} (h : first? l = none) : .tuple #[.agg zeroA.cells, I 0, .bool false] = frontR l := by simp [frontR, rfAct, rfLen, rfOk, h]
theorem front_yes {l : List Nat} {x : ActS} (h : first? l = some x) : .tuple #[.agg x.cells, I ((frameOf x).length : Nat), .bool true] = frontR l := by simp [frontR, rfAct, rfLen, rfOk, h]
theorem rf_yes {l : List Nat} (h : rfOk l = true) : first? l = some (rfAct l) ∧ rfLen l = (frameOf (rfAct l)).length := by
 unfold rfOk at h
 cases hq : first? l with
 | none => rw [hq] at h; cases h
 | some x => exact ⟨by simp [rfAct, hq], by simp [rfAct, rfLen, hq]⟩
theorem rf_no {l : List Nat} (h : rfOk l = false) : first? l = none := by
 unfold rfOk at h
 cases hq : first? l with
 | none => rfl
 | some x => rw [hq] at h; cases h
def begins (l f : List Nat) : Bool := decide (l.take f.length = f)
theorem begins_iff {l f : List Nat} : begins l f = true ↔ f <+: l := by
 unfold begins
 rw [decide_eq_true_iff, List.prefix_iff_eq_take]
 exact eq_comm
theorem begins_short {l f : List Nat} (h : ¬ f.length ≤ l.length) : begins l f = false := by
 cases hq : begins l f with
 | false => rfl
 | true => exact absurd (begins_iff.1 hq).length_le h
section
variable {P : Program} {f : Nat → Value} {dst : Option Nat} {ty : TypeId} {pos : String} {af : Array Edge} {gd : Option (Nat × Bool)} {C : World → Prop}
def least (a b : Int) : Int := if b < a then b else a
theorem v_least {x y : Operand} {ats : Array TypeId} {a b : Int} (hx : ev f x = I a) (hy : ev f y = I b) : Val P f C ⟨dst, .call ⟨.builtin .min, #[x, y], ats⟩, ty, pos, af, gd⟩ (I (least a b)) :=
 ⟨fun w _ => by simp [execOp, resolve, invoke, builtin, hx, hy, Builtin.min_, Builtin.min2, least]⟩
end
end Go.Proofs.Ytmkboljfbmlebac
namespace Go.Proofs.Ytmkboljfbmlebac
open Go.RowKit
set_option linter.unusedSimpArgs false
set_option linter.unusedVariables false
set_option maxRecDepth 100000
section
variable {P : Program} {ops : Array Oper} {K : (Nat → Value) → World → Prop} {rest : List Oper} {f : Nat → Value} {d : Nat} {ty : TypeId} {pos : String} {af : Array Edge} {w0 : World} {F : Addr → Value → Prop} {B L : List (Nat × Obj)}
theorem s_callWC {k : FuncId} {x : Operand} {xs : List Operand} {caps : List Value} {ats : Array TypeId} {R : (Addr → Value → Prop) → Value → List (Nat × Obj) → Prop} (hx : ev f x = .func (.func k) #[] caps.toArray) (hk : hasBody P k = true) (hg : GivesW P k (xs.map (ev f) ++ caps) F B R)
   (kk : ∀ (F' : Addr → Value → Prop) (v : Value) (B' : List (Nat × Obj)), More F F' → R F' v B' → sC P ops K rest (upd f d v) (Has w0 F' (B' ++ L))) :
   sC P ops K (⟨some d, .call ⟨.value x, xs.toArray, ats⟩, ty, pos, af, none⟩ :: rest) f (Has w0 F (B ++ L)) := by
 intro w hw
 unfold sw
 rw [if_pos wanted_free]
 unfold opk
 rw [run_callC hx hk w]
 exact (hg w0 L w hw).mono fun e w' ⟨v, B', F', he, hm, h', hr⟩ => ⟨_, he, kk F' v B' hm hr w' h'⟩
end
section
variable {P : Program} {fn : Func} {n t t2 : Nat} {f : Nat → Value} {w0 : World} {F0 F : Addr → Value → Prop} {L K B' : List (Nat × Obj)} {R : (Addr → Value → Prop) → Value → List (Nat × Obj) → Prop}
theorem n_doneW2 (hr : fn.results = #[.tmp t, .tmp t2]) (ht : t < n) (ht2 : t2 < n) (hm : More F0 F) (hs : ∀ w, Has w0 F L w → Has w0 F (B' ++ K) w) (hv : R F (.tuple #[f t, f t2]) B') : nC (retQ P fn n (retW w0 F0 K R)) .ret f (Has w0 F L) :=
 fun w hw => by
   refine ⟨.tuple #[f t, f t2], ?_, B', F, hm, hs w hw, hv⟩
   have e : (Fa n f).tmps[t]?.getD undef = f t := by simp [Fa, ht]
   have e2 : (Fa n f).tmps[t2]?.getD undef = f t2 := by simp [Fa, ht2]
   simp [results, hr, e, e2]
theorem n_doneI2 {v : Value} (hr : fn.results = #[.tmp t, .tmp t2]) (ht : t < n) (ht2 : t2 < n) (hv : .tuple #[f t, f t2] = v) :
   nC (retQ P fn n (fun v' w' => v' = v ∧ Bel w0.heap.size w0 w')) .ret f (Has w0 F L) := fun w hw => by
 refine ⟨.tuple #[f t, f t2], ?_, hv, hw.1⟩
 have e : (Fa n f).tmps[t]?.getD undef = f t := by simp [Fa, ht]
 have e2 : (Fa n f).tmps[t2]?.getD undef = f t2 := by simp [Fa, ht2]
 simp [results, hr, e, e2]
end
section
variable {P : Program} {f : Nat → Value} {C : World → Prop} {dst : Option Nat} {ty : TypeId} {pos : String} {af : Array Edge} {gd : Option (Nat × Bool)}
def ptrB (P : Program) (T : TypeId) : Bool := match P.underlying T with
 | some (.pointer _) => true
 | _ => false
theorem v_ptrNil {T t' : TypeId} {x y : Operand} {a : Option Addr} (hT : ptrB P T = true) (hx : ev f x = .pointer a) (hy : ev f y = .pointer none) : Val P f C ⟨dst, .binOp .eql T x y t', ty, pos, af, gd⟩ (.bool a.isNone) := by
 refine ⟨fun w _ => ?_⟩
 unfold ptrB at hT
 split at hT
 · rename_i e hu
   have hg : (eqGuard .eql T x y (.pointer a) (.pointer none)).run P w = .ok () w := by
     simp [eqGuard]
   have he : (Op.equal T (.pointer a) (.pointer none)).run P w = .ok a.isNone w := by
     unfold Op.equal
     show (Op.equalIn (_ + 1) T _ _).run P w = _
     unfold Op.equalIn
     simp only [Sem.run_bind]
     rw [run_underlying hu]
     cases a <;> simp
   simp [execOp, hx, hy, hg, binOp, he]
 · cases hT
end
def PaysO (pa : Option Addr) (pl pc : Nat) (ps : List PayS) (E : List (Nat × Obj)) : Prop :=
 ps.length = pl ∧ pl ≤ pc ∧ ((pl = 0 ∧ E = []) ∨ ∃ b t cs, pa = some ⟨b, 0, none⟩ ∧ E = [(b, .cells cs t (0, 0))] ∧ cs.size = pc * 6 ∧ CellsOf cs ps)
theorem PaysE.o {pa : Option Addr} {pl pc : Nat} {ps : List PayS} {E : List (Nat × Obj)} (h : PaysE pa pl pc ps E) : PaysO pa pl pc ps E := ⟨h.1, h.2.1, h.2.2.imp (fun e => ⟨e.2.1, e.2.2.2⟩) id⟩
theorem PaysO.known {F : Addr → Value → Prop} {pa : Option Addr} {pl pc : Nat} {ps : List PayS} {E : List (Nat × Obj)} (h : PaysO pa pl pc ps E) (hk : Knows F E) : PaysIn F pa pl ps := by
 refine ⟨h.1, ?_⟩
 rcases h.2.2 with ⟨h0, _⟩ | ⟨b, t, cs, rfl, rfl, h1, h2⟩
 · exact .inl h0
 · refine .inr ⟨b, 0, rfl, fun j p hj k v hv => ?_⟩
   rw [Nat.zero_add]
   exact hk b cs t (0, 0) (by simp) _ _ (h2 j p hj k v hv)
theorem PaysO.some {pa : Option Addr} {pl pc : Nat} {ps : List PayS} {E : List (Nat × Obj)} (h : PaysO pa pl pc ps E) (h0 : 0 < pl) : ∃ b t cs, pa = some ⟨b, 0, none⟩ ∧ E = [(b, .cells cs t (0, 0))] ∧ cs.size = pc * 6 ∧ CellsOf cs ps := by
 rcases h.2.2 with ⟨h1, _⟩ | h
 · omega
 · exact h
def IntsO (xs : List Int) (v : Value) (E : List (Nat × Obj)) : Prop :=
 ∃ a c, v = .slice a xs.length c ∧ xs.length ≤ c ∧ ((xs = [] ∧ E = []) ∨ ∃ b t cs, a = some ⟨b, 0, none⟩ ∧ E = [(b, .cells cs t (0, 0))] ∧ cs.size = c ∧ ∀ (j : Nat) (x : Int), xs[j]? = some x → cs[j]? = some (I x))
theorem ListE.ints {e : Nat} {v : Value} {xs : List Int} {E : List (Nat × Obj)} (h : ListE e 1 v xs.length (xs.map I) E) : IntsO xs v E := by
 rcases h.2 with ⟨rfl, h2, h3⟩ | ⟨g, cap, cur, rfl, rfl, h3, h4, h5, h6⟩
 · exact ⟨none, 0, by rw [h2], by omega, .inl ⟨List.length_eq_zero_iff.1 h2, h3⟩⟩
 · refine ⟨_, cap, rfl, h3, .inr ⟨g, e, cur, rfl, rfl, by omega, fun j x hj => ?_⟩⟩
   have hjl := (List.getElem?_eq_some_iff.1 hj).1
   have : (cur.toList.take (xs.length * 1))[j]? = some (I x) := by rw [h6]; simp [hj]
   rw [List.getElem?_take, if_pos (by omega)] at this
   simpa using this
theorem IntsO.known {F : Addr → Value → Prop} {xs : List Int} {a : Option Addr} {l c : Nat} {E : List (Nat × Obj)} (h : IntsO xs (.slice a l c) E) (hk : Knows F E) : IntsAt F a xs := by
 obtain ⟨a', c', hv, hc, h⟩ := h
 simp only [Value.slice.injEq] at hv
 obtain ⟨rfl, rfl, rfl⟩ := hv
 rcases h with ⟨h, _⟩ | ⟨b, t, cs, rfl, rfl, h1, h2⟩
 · exact .inl h
 · exact .inr ⟨b, 0, rfl, fun j x hj => by rw [Nat.zero_add]; exact hk b cs t (0, 0) (by simp) j _ (h2 j x hj)⟩
def Lies (w : World) (B : List (Nat × Obj)) : Prop := ∀ p ∈ B, w.heap[p.1]? = some p.2
theorem lies_of {w0 w : World} {F : Addr → Value → Prop} {B L : List (Nat × Obj)} (h : Has w0 F L w) (hs : ∀ p ∈ B, p ∈ L) : Lies w B := fun p hp => (h.2.2.1 p (hs p hp)).2
def BGood (s : BankS) : Prop := ∃ log lost, BOk s log lost
theorem bgood_new : BGood newB := ⟨_, _, bok_new⟩
theorem BGood.act {s : BankS} (h : BGood s) (a : ActS) : BGood (doM s a).1 := by
 obtain ⟨log, lost, h⟩ := h
 obtain ⟨log', lost', _, h'⟩ := h.act a
 exact ⟨log', lost', h'⟩
structure BankOk where
 Rep : (Addr → Value → Prop) → Nat → List (Nat × Obj) → BankS → Prop
 mono : ∀ {F F' : Addr → Value → Prop} {b : Nat} {B : List (Nat × Obj)} {s : BankS}, Rep F b B s → More F F' → Rep F' b B s
 new : ∀ w, GivesE Try.prog 10 [] w (fun v E => ∃ b, v = .pointer (some ⟨b, 0, none⟩) ∧ ∀ F, Rep F b E newB)
 act : ∀ (F : Addr → Value → Prop) (b : Nat) (B : List (Nat × Obj)) (s : BankS) (a : ActS), BGood s → Rep F b B s → GivesW Try.prog 6 [.pointer (some ⟨b, 0, none⟩), .agg a.cells] F B (fun F' v B' => ∃ v1 E B1, B' = E ++ B1 ∧ v = .agg (repC (doM s a).2.code (doM s a).2.n v1) ∧ IntsO (doM s a).2.done v1 E ∧ Rep F' b B1 (doM s a).1)
 house : ∀ (w : World) (b : Nat) (B : List (Nat × Obj)) (s : BankS), BGood s → Rep (At w) b B s → Lies w B → GivesE Try.prog 17 [.pointer (some ⟨b, 0, none⟩)] w (fun v E => ∃ h : H, v = .agg h.cells ∧ h.core = s.c ∧ PaysO h.pa h.pl h.pc s.ps E)
 book : ∀ (w : World) (b : Nat) (B : List (Nat × Obj)) (s : BankS), BGood s → Rep (At w) b B s → Lies w B → Gives Try.prog 15 [.pointer (some ⟨b, 0, none⟩)] w (.tuple #[S s.text, .bool (!s.down)])
section
variable {ops : Array Oper} {K : (Nat → Value) → World → Prop} {rest : List Oper} {f : Nat → Value} {d : Nat} {ty : TypeId} {pos : String} {af : Array Edge} {w0 : World} {F : Addr → Value → Prop} {B L : List (Nat × Obj)}
theorem s_do (bk : BankOk) {b : Nat} {s : BankS} {a : ActS} {x y : Operand} {ats : Array TypeId} (hg : BGood s) (hr : bk.Rep F b B s) (hx : ev f x = .pointer (some ⟨b, 0, none⟩)) (hy : ev f y = .agg a.cells)
   (kk : ∀ (F' : Addr → Value → Prop) (v1 : Value) (E B1 : List (Nat × Obj)), More F F' → IntsO (doM s a).2.done v1 E → bk.Rep F' b B1 (doM s a).1 → sC Try.prog ops K rest (upd f d (.agg (repC (doM s a).2.code (doM s a).2.n v1))) (Has w0 F' (E ++ (B1 ++ L)))) :
   sC Try.prog ops K (⟨some d, .call ⟨.value (.func 6), #[x, y], ats⟩, ty, pos, af, none⟩ :: rest) f (Has w0 F (B ++ L)) := by
 refine s_callW (xs := [x, y]) (R := _) (by kernel_rfl) (show GivesW _ _ ([x, y].map (ev f)) F B _ from (by simp only [List.map_cons, List.map_nil, hx, hy]; exact bk.act F b B s a hg hr)) ?_
 rintro F' v B' hm ⟨v1, E, B1, rfl, rfl, hi, hr'⟩
 refine s_weak (fun w hw => ?_) (kk F' v1 E B1 hm hi hr')
 rw [List.append_assoc] at hw; exact hw
end
end Go.Proofs.Ytmkboljfbmlebac
namespace Go.Proofs.Ytmkboljfbmlebac
open Go.RowKit
set_option linter.unusedSimpArgs false
set_option linter.unusedVariables false
def aPay : ActS := ⟨1, 0, 1, 0, 7⟩
def aFund : ActS := ⟨6, 0, 0, 0, 7⟩
def lC1 : H := { newM.core with next := newM.core.next + 1 }
def lP1 : List PayS := [] ++ [newPay newM.core aPay]
def lC2 : H := { lC1 with has := up1 lC1.has 0 (lC1.has 0 + 7) }
def lS2 : QS := QS.go ⟨lC2, lP1, []⟩ 0
theorem rest_sweep {s : QS} {b : Nat} (h : ∀ i : Nat, i < 4 → firstM s.c s.ps i = none) (hb : b < 4) : sweepFrom b 0 s = s := by
 have m : ∀ k : Nat, k % 4 < 4 := fun k => Nat.mod_lt _ (by omega)
 rw [sweep_idle (by omega) (drain_end (h b hb)) rfl, sweep_idle (by omega) (drain_end (h _ (m _))) rfl, sweep_idle (by omega) (drain_end (h _ (m _))) rfl, sweep_idle (by omega) (drain_end (h _ (m _))) rfl, sweep_end (by omega)]
theorem lSweep1 : sweepM lC1 lP1 = ⟨lC1, lP1, []⟩ := by
 unfold sweepM
 rw [show goodB lC1 lP1 = true by kernel_rfl, cond_true]
 refine rest_sweep (fun i hi => ?_) (by omega)
 have : i = 0 ∨ i = 1 ∨ i = 2 ∨ i = 3 := by omega
 rcases this with rfl | rfl | rfl | rfl <;> (show _ = _; kernel_rfl)
theorem lSweep2 : sweepM lC2 lP1 = lS2 := by
 unfold sweepM
 rw [show goodB lC2 lP1 = true by kernel_rfl, cond_true]
 have r : ∀ i : Nat, i < 4 → firstM lS2.c lS2.ps i = none := fun i hi => by
   have : i = 0 ∨ i = 1 ∨ i = 2 ∨ i = 3 := by omega
   rcases this with rfl | rfl | rfl | rfl <;> (show _ = _; kernel_rfl)
 have d : drain (0 : Nat) ⟨lC2, lP1, []⟩ = lS2 := by
   rw [drain_go (i := 0) (by kernel_rfl)]
   exact drain_end (r 0 (by omega))
 rw [sweep_busy (by omega) d (by decide)]
 exact rest_sweep r (by omega)
theorem lNext1 : nextM newM.core [] aPay = ⟨lC1, lP1, 0, 0, []⟩ := by
 have e : nextM newM.core [] aPay = sweepN lC1 lP1 0 [] := by kernel_rfl
 rw [e]
 unfold sweepN
 rw [lSweep1]
 rfl
theorem lNext2 : nextM lC1 lP1 aFund = ⟨lS2.c, lS2.ps, 0, 0, [0]⟩ := by
 have e : nextM lC1 lP1 aFund = sweepN lC2 lP1 0 [] := by kernel_rfl
 rw [e]
 unfold sweepN
 rw [lSweep2]
 rfl
def lB1 : BankS := ⟨lC1, lP1, frameOf aPay, false, -1, 1⟩
theorem lDo1 : doM newB aPay = (lB1, ⟨0, 0, []⟩) := by
 have h : nextM newB.c newB.ps aPay = ⟨lC1, lP1, 0, 0, []⟩ := lNext1
 unfold doM
 rw [h]
 show _ = _
 kernel_rfl
theorem lDo2 : (doM lB1 aFund).2 = ⟨0, 0, [0]⟩ ∧ (doM lB1 aFund).1.down = false ∧ (doM lB1 aFund).1.text = frameOf aPay ++ frameOf aFund ∧ (doM lB1 aFund).1.c = lS2.c := by
 have h : nextM lB1.c lB1.ps aFund = ⟨lS2.c, lS2.ps, 0, 0, [0]⟩ := lNext2
 have e : doM lB1 aFund = ({ lB1 with acts := 2, text := frameOf aPay ++ frameOf aFund, c := lS2.c, ps := lS2.ps }, ⟨0, 0, [0]⟩) := by
   unfold doM
   rw [h]
   show _ = _
   kernel_rfl
 rw [e]
 exact ⟨rfl, rfl, rfl, rfl⟩
theorem lHas : lS2.c.has 1 = 7 := by kernel_rfl
end Go.Proofs.Ytmkboljfbmlebac
namespace Go.Proofs.Ytmkboljfbmlebac
open Go.RowKit
set_option linter.unusedSimpArgs false
set_option linter.unusedVariables false
structure PlG (κ : Type) where
 i : Nat
 F : Addr → Value → Prop
 s : BankS
 b : Nat
 B : List (Nat × Obj)
 c : κ
abbrev repOf (r : RepS) (v : Value) : Value := .agg (repC r.code r.n v)
def Looks (bk : BankOk) {κ : Type} (CB : κ → List (Nat × Obj)) (J : Nat → BankS → κ → (Addr → Value → Prop) → Prop) (xs : List ActS) (kf : FuncId) (caps : List Value) (F : Addr → Value → Prop) : Prop :=
 ∀ (F1 : Addr → Value → Prop) (i : Nat) (s : BankS) (c : κ) (x : ActS) (b : Nat) (B E : List (Nat × Obj)) (a1 : Option Addr) (c1 : Nat), More F F1 → xs[i]? = some x → i < 80 → J i s c F1 → BGood s → s = playM newB (xs.take i) → bk.Rep F1 b B (doM s x).1 → IntsO (doM s x).2.done (.slice a1 (doM s x).2.done.length c1) E →
   GivesW Try.prog kf ([.pointer (some ⟨b, 0, none⟩), .agg x.cells, repOf (doM s x).2 (.slice a1 (doM s x).2.done.length c1)] ++ caps) F1 (E ++ (B ++ CB c)) (fun F2 v B' => v = .bool true ∧ ∃ c', B' = B ++ CB c' ∧ J (i + 1) (doM s x).1 c' F2)
def Played (bk : BankOk) {κ : Type} (CB : κ → List (Nat × Obj)) (J : Nat → BankS → κ → (Addr → Value → Prop) → Prop) (xs : List ActS) (F : Addr → Value → Prop) (v : Value) (B' : List (Nat × Obj)) : Prop :=
 ∃ b B c, v = .tuple #[.pointer (some ⟨b, 0, none⟩), .bool true] ∧ B' = B ++ CB c ∧ bk.Rep F b B (playM newB (xs.take 80)) ∧ BGood (playM newB (xs.take 80)) ∧ J (xs.take 80).length (playM newB (xs.take 80)) c F
theorem play_snoc : ∀ (l : List ActS) (s : BankS) (x : ActS), playM s (l ++ [x]) = (doM (playM s l) x).1
 | [], _, _ => rfl
 | a :: r, s, x => play_snoc r (doM s a).1 x
theorem play_step {xs : List ActS} {i : Nat} {x : ActS} (h : xs[i]? = some x) : playM newB (xs.take (i + 1)) = (doM (playM newB (xs.take i)) x).1 := by
 rw [List.take_add_one, h]
 exact play_snoc _ _ _
theorem bgood_play (l : List ActS) : BGood (playM newB l) := by
 obtain ⟨log, lost, h⟩ := play_ok l bok_new
 exact ⟨log, lost, h⟩
theorem play_all {xs : List ActS} {i : Nat} (hi : i ≤ xs.length) (h80 : i ≤ 80) (h : ¬ (i < xs.length ∧ i < 80)) : xs.take i = xs.take 80 ∧ (xs.take 80).length = i := by
 have : (xs.take 80).length = i := by rw [List.length_take]; omega
 refine ⟨?_, this⟩
 rcases Nat.lt_or_ge i 80 with h1 | h1
 · rw [List.take_of_length_le (by omega), List.take_of_length_le (by omega)]
 · have : i = 80 := by omega
   subst this; rfl
theorem sub_last {α : Type} {A B C : List α} {x : α} : (A ++ (B ++ C)).Sublist (A ++ (B ++ (x :: C))) := List.Sublist.append (List.Sublist.refl _) (List.Sublist.append (List.Sublist.refl _) (List.sublist_cons_self _ _))
theorem alive_has {h : H} (e : h.core = (doM (doM newB aPay).1 aFund).1.c) : h.has 1 = 7 := by
 rw [lDo1] at e
 rw [lDo2.2.2.2] at e
 have : h.core.has 1 = 7 := by rw [e]; exact lHas
 exact this
theorem alive_text : Byt (doM (doM newB aPay).1 aFund).1.text ∧ ¬ (doM (doM newB aPay).1 aFund).1.text = [] := by
 rw [lDo1]
 rw [lDo2.2.2.1]
 exact ⟨Byt.append (frame_byte (by decide)) (frame_byte (by decide)), by simp [frameOf]⟩
theorem bgood_byt {s : BankS} (h : BGood s) : Byt s.text := by
 obtain ⟨log, lost, h⟩ := h
 cases hd : s.down with
 | false =>
   rw [(h.inv.up hd).1]
   exact bytes_byt h.inv.noted
 | true =>
   obtain ⟨a, m, _, hn, ht, _⟩ := h.inv.low hd
   rw [ht]
   exact Byt.append (bytes_byt h.inv.noted) (fun b hb => frame_byte hn b (List.mem_of_mem_take hb))
theorem looks_plain (bk : BankOk) (xs : List ActS) (kf : FuncId) (F : Addr → Value → Prop)
   (h : ∀ (F1 : Addr → Value → Prop) (s : BankS) (r : RepS) (x : ActS) (b : Nat) (B E : List (Nat × Obj)) (a1 : Option Addr) (l1 c1 : Nat), BGood s → bk.Rep F1 b B s → GivesW Try.prog kf [.pointer (some ⟨b, 0, none⟩), .agg x.cells, repOf r (.slice a1 l1 c1)] F1 (E ++ B) (fun F2 v B' => v = .bool true ∧ B' = B)) :
   Looks bk (fun _ : Unit => []) (fun _ _ _ _ => True) xs kf [] F := by
 intro F1 i s c x b B E a1 c1 hF hx hi hJ hg hs hr ho w0 K w hw
 rw [List.append_nil] at hw ⊢
 exact (h F1 (doM s x).1 (doM s x).2 x b B E a1 _ c1 (hg.act x) hr w0 K w hw).mono fun e w' ⟨v, B', F', h1, h2, h3, h4, h5⟩ => ⟨v, B', F', h1, h2, h3, h4, (), by rw [List.append_nil]; exact h5, trivial⟩
theorem bgood_inv {s : BankS} (h : BGood s) : Inv 200 s.c s.ps ∧ Rests s.c s.ps := by
 obtain ⟨log, lost, h⟩ := h
 exact h.house
end Go.Proofs.Ytmkboljfbmlebac
namespace Go.Proofs.Ytmkboljfbmlebac
open Go.RowKit
set_option linter.unusedSimpArgs false
set_option linter.unusedVariables false
section
variable {Hh : Type} {enc : TypeId × Value → Hh} {P : Program} {w : World} {base : Nat} {spare : Nat → Bool} {held : Bool}
theorem open_act {T : TypeId} (hB : flatB P 4 T 5 = true) {fuel : Nat} {cs : List Value} {x : DataW Hh × List MemPlace} (hx : DataW.trod enc P w base spare held fuel T cs = some x) : ∃ a : ActS, cs.toArray = a.cells := by
 obtain ⟨hl, hI⟩ := read_flat 4 T 5 hB _ _ _ hx
 match cs, hl with
 | [c0, c1, c2, c3, c4], _ =>
   refine ⟨⟨intV c0, intV c1, intV c2, intV c3, intV c4⟩, ?_⟩
   have e0 := intV_of (hI c0 (by simp))
   have e1 := intV_of (hI c1 (by simp))
   have e2 := intV_of (hI c2 (by simp))
   have e3 := intV_of (hI c3 (by simp))
   have e4 := intV_of (hI c4 (by simp))
   simp only [ActS.cells]
   rw [e0, e1, e2, e3, e4]
theorem acts_of_slice {e : TypeId} {a : Addr} {len m : Nat} (hm : len ≤ m) (hc : P.cellsOf e = 5) (hf : flatB P 4 e 5 = true) {n : Nat} {D : Nat → DataW Hh} {Pl : Nat → List MemPlace}
   (h : ∀ i, i < m → ∃ cs', w.cells? base (a.add (i * P.cellsOf e)) (P.cellsOf e) = some cs' ∧ DataW.trod enc P w base spare held n e cs' = some (D i, Pl i)) : ∃ xs : List ActS, xs.length = len ∧ ActsAt (At w) (some a) xs := by
 have h' : ∀ i, i < len → ∃ p : ActS, ∀ (k : Nat) (v : Value), p.cells[k]? = some v → w.cell? (a.add (i * 5 + k)) = some v := by
   intro i hi
   obtain ⟨cs', h1, h2⟩ := h i (by omega)
   rw [hc] at h1
   obtain ⟨hl, hI⟩ := read_flat 4 e 5 hf _ _ _ h2
   obtain ⟨_, _, hcell⟩ := World.cells?_some h1
   match cs', hl with
   | [c0, c1, c2, c3, c4], _ =>
     refine ⟨⟨intV c0, intV c1, intV c2, intV c3, intV c4⟩, fun k v hv => ?_⟩
     have e0 := intV_of (hI c0 (by simp))
     have e1 := intV_of (hI c1 (by simp))
     have e2 := intV_of (hI c2 (by simp))
     have e3 := intV_of (hI c3 (by simp))
     have e4 := intV_of (hI c4 (by simp))
     simp only [ActS.cells, e0, e1, e2, e3, e4] at hv
     have hk : k < 5 := by
       rcases Nat.lt_or_ge k 5 with h | h
       · exact h
       · rw [Array.getElem?_eq_none (by simpa using h)] at hv; cases hv
     have := hcell k hk
     rw [Deep.add_add] at this
     rw [this]
     simpa using hv
 by_cases h0 : len = 0
 · exact ⟨[], by rw [h0]; rfl, .inl rfl⟩
 have hsp : a.spot = none := by
   obtain ⟨p, hp⟩ := h' 0 (by omega)
   have := hp 0 (I p.kind) rfl
   simpa [Addr.add] using World.cell?_spot this
 obtain ⟨b, o, sp⟩ := a
 simp at hsp
 subst hsp
 have hch : ∀ i, ∃ p : ActS, i < len → ∀ (k : Nat) (v : Value), p.cells[k]? = some v → w.cell? ⟨b, o + i * 5 + k, none⟩ = some v := by
   intro i
   by_cases hi : i < len
   · obtain ⟨p, hp⟩ := h' i hi
     refine ⟨p, fun _ k v hv => ?_⟩
     have := hp k v hv
     rw [add_off] at this
     rw [Nat.add_assoc]; exact this
   · exact ⟨⟨0, 0, 0, 0, 0⟩, fun hh => absurd hh hi⟩
 refine ⟨(List.range len).map fun i => Classical.choose (hch i), by simp, .inr ⟨b, o, rfl, fun j p hj k v hv => ?_⟩⟩
 have hjl : j < len := by
   have := (List.getElem?_eq_some_iff.1 hj).1
   simpa using this
 have : p = Classical.choose (hch j) := by
   rw [List.getElem?_map, List.getElem?_range hjl] at hj
   simpa using hj.symm
 subst this
 exact Classical.choose_spec (hch j) hjl k v hv
def actsB (P : Program) (T : TypeId) : Bool := match P.underlying T with
 | some (.slice e) => Nat.beq (P.cellsOf e) 5 && flatB P 4 e 5
 | _ => false
theorem open_acts {T : TypeId} (hB : actsB P T = true) {fuel : Nat} {cs : List Value} {x : DataW Hh × List MemPlace} (hx : DataW.trod enc P w base spare held fuel T cs = some x) :
   ∃ (a : Option Addr) (c : Nat) (xs : List ActS), cs = [.slice a xs.length c] ∧ ActsAt (At w) a xs ∧ xs.length ≤ c ∧ c ≤ maxLen := by
 unfold actsB at hB
 split at hB
 · rename_i e hue
   simp only [Bool.and_eq_true] at hB
   obtain ⟨he5, hfe⟩ := hB
   have he5 := Nat.eq_of_beq_eq_true he5
   rcases Deep.open_slice hue hx with ⟨hcs, _⟩ | ⟨a, len, cap, mm, n, D, Pl, hcs, _, hlc, hcm, hmm, _, hel⟩
   · exact ⟨none, 0, [], hcs, .inl rfl, Nat.le_refl _, Nat.zero_le _⟩
   · obtain ⟨xs, hl, hxs⟩ := acts_of_slice (len := len) (by rw [hmm]; split <;> omega) he5 hfe hel
     subst hl
     exact ⟨some a, cap, xs, hcs, hxs, hlc, hcm⟩
 · cases hB
end
end Go.Proofs.Ytmkboljfbmlebac
namespace Go.Proofs.Ytmkboljfbmlebac
open Go.RowKit
set_option linter.unusedSimpArgs false
set_option linter.unusedVariables false
set_option maxRecDepth 100000
attribute [local irreducible] cC sC nC rC qw
set_option maxHeartbeats 1000000 in
theorem g_alive (bk : BankOk) (w : World) : Gives Try.prog 9 [] w (.bool true) := by
 refine gives_of Try.func9 rfl Try.ntmps9 (by simp) ?_
 refine r_seq (by kernel_rfl) ?_
 refine s_val (v_assign (v := .bool _) rfl) ?_
 refine s_nil ?_
 refine r_seq (by kernel_rfl) ?_
 refine s_callE (by kernel_rfl) (fun w hw => bk.new w) (fun v6 E6 hR6 => ?_)
 obtain ⟨b6, rfl, hr6⟩ := hR6
 refine s_val (v_assign (v := .pointer _) rfl) ?_
 refine s_nil ?_
 refine c_seq ?_
 refine r_seq (by kernel_rfl) ?_
 refine s_val (v_move (v := .pointer _) rfl) ?_
 refine s_val (v_ptrNil (by kernel_rfl) rfl rfl) ?_
 refine s_nil ?_
 refine c_condFh rfl rfl rfl ?_
 refine c_skip ?_
 refine n_then ?_
 refine r_seq (by kernel_rfl) ?_
 refine s_val (v_move (v := .pointer _) rfl) ?_
 refine s_val (v_build (vs := [(0, .int .i64 _), (1, .int .i64 _), (2, .int .i64 _), (4, .int .i64 _)]) (cs := aPay.cells) rfl (by kernel_rfl)) ?_
 refine s_do bk bgood_new (hr6 _) rfl rfl (fun F11 v11 E11 B11 hF11 hi11 hr11 => ?_)
 obtain ⟨a11, c11, rfl, hl11, ho11⟩ := hi11
 refine s_val (v_move (v := .pointer _) rfl) ?_
 refine s_val (v_build (vs := [(0, .int .i64 _), (1, .int .i64 _), (4, .int .i64 _)]) (cs := aFund.cells) rfl (by kernel_rfl)) ?_
 refine s_weak (fun w1 hw => hw.perm (perm_front (A := E11) (E := B11))) ?_
 refine s_do bk (bgood_new.act _) hr11 rfl rfl (fun F14 v14 E14 B14 hF14 hi14 hr14 => ?_)
 obtain ⟨a14, c14, rfl, hl14, ho14⟩ := hi14
 refine s_alloc (z := .agg (repC 0 0 (.slice none 0 0))) (by kernel_rfl) (fun b2 => ?_)
 refine s_alloc (z := .agg (repC 0 0 (.slice none 0 0))) (by kernel_rfl) (fun b3 => ?_)
 refine s_storeA (m := 3) (by kernel_rfl) rfl rfl (.there .here) rfl rfl rep_all ?_
 refine s_storeA (m := 3) (by kernel_rfl) rfl rfl .here rfl rfl rep_all ?_
 refine s_nil ?_
 refine r_seq (by kernel_rfl) ?_
 refine s_val (v_move (v := .pointer _) rfl) ?_
 refine s_call (by kernel_rfl) (fun w hw => bk.book w b6 B14 _ ((bgood_new.act _).act _) (bk.mono hr14 hw.at) (lies_of hw (fun _ hq => (List.mem_cons_of_mem _ (List.mem_cons_of_mem _ (List.mem_append_right _ (List.mem_append_left _ hq))))))) ?_
 refine s_val (v_move (v := .tuple _) rfl) ?_
 refine s_val (v_extract rfl rfl) ?_
 refine s_val (v_extract rfl rfl) ?_
 refine s_val (v_assign (v := S _) rfl) ?_
 refine s_val (v_assign (v := .bool _) rfl) ?_
 refine s_nil ?_
 refine r_seq (by kernel_rfl) ?_
 refine s_val (v_field (fo := 0) (by kernel_rfl) rfl) ?_
 refine s_val (v_load1 (v := .int .i64 _) (by kernel_rfl) rfl (.there .here) rfl) ?_
 refine s_val (v_eql (k := .i64) rfl rfl) ?_
 refine s_val (v_move (v := .bool _) rfl) ?_
 refine s_want rfl rfl (decide_eq_true (by rw [lDo1])) ?_
 refine s_val (v_field (fo := 0) (by kernel_rfl) rfl) ?_
 refine s_want rfl rfl (decide_eq_true (by rw [lDo1])) ?_
 refine s_val (v_load1 (v := .int .i64 _) (by kernel_rfl) rfl .here rfl) ?_
 refine s_want rfl rfl (decide_eq_true (by rw [lDo1])) ?_
 refine s_val (v_eql (k := .i64) rfl rfl) ?_
 refine s_val (v_pickT (v := .bool _) rfl (decide_eq_true (by rw [lDo1])) rfl) ?_
 refine s_val (v_move (v := .bool _) rfl) ?_
 refine s_want rfl rfl (decide_eq_true (by rw [lDo1]; exact congrArg RepS.code lDo2.1)) ?_
 refine s_val (v_field (fo := 2) (by kernel_rfl) rfl) ?_
 refine s_want rfl rfl (decide_eq_true (by rw [lDo1]; exact congrArg RepS.code lDo2.1)) ?_
 refine s_val (v_load1 (v := .slice _ _ _) (by kernel_rfl) rfl .here rfl) ?_
 refine s_want rfl rfl (decide_eq_true (by rw [lDo1]; exact congrArg RepS.code lDo2.1)) ?_
 refine s_val (v_lenS (T := 30) (m := 1) (by kernel_rfl) rfl rfl) ?_
 refine s_want rfl rfl (decide_eq_true (by rw [lDo1]; exact congrArg RepS.code lDo2.1)) ?_
 refine s_val (v_eql (k := .i64) rfl rfl) ?_
 refine s_val (v_pickT (v := .bool _) rfl (decide_eq_true (by rw [lDo1]; exact congrArg RepS.code lDo2.1)) rfl) ?_
 refine s_val (v_move (v := .bool _) rfl) ?_
 refine s_want rfl rfl (decide_eq_true (by rw [lDo1, lDo2.1]; rfl)) ?_
 refine s_val (v_move (v := .bool _) rfl) ?_
 refine s_val (v_pickT (v := .bool _) rfl (decide_eq_true (by rw [lDo1, lDo2.1]; rfl)) rfl) ?_
 refine s_val (v_move (v := .bool _) rfl) ?_
 refine s_want rfl rfl (by rw [lDo1, lDo2.2.1]; rfl) ?_
 refine s_val (v_move (v := S _) rfl) ?_
 refine s_want rfl rfl (by rw [lDo1, lDo2.2.1]; rfl) ?_
 refine s_val (v_strNe rfl rfl alive_text.1 (show Byt [] from fun b hb => by cases hb)) ?_
 refine s_val (v_pickT (v := .bool _) rfl (by rw [lDo1, lDo2.2.1]; rfl) rfl) ?_
 refine s_val (v_move (v := .bool _) rfl) ?_
 refine s_want rfl rfl (congrArg not (decide_eq_false alive_text.2)) ?_
 refine s_val (v_move (v := .pointer _) rfl) ?_
 refine s_want rfl rfl (congrArg not (decide_eq_false alive_text.2)) ?_
 refine s_callE (by kernel_rfl) (fun w hw => bk.house w b6 B14 _ ((bgood_new.act _).act _) (bk.mono hr14 hw.at) (lies_of hw (fun _ hq => (List.mem_cons_of_mem _ (List.mem_cons_of_mem _ (List.mem_append_right _ (List.mem_append_left _ hq))))))) (fun v43 E43 hR43 => ?_)
 obtain ⟨h43, rfl, hc43, hp43⟩ := hR43
 refine s_want rfl rfl (congrArg not (decide_eq_false alive_text.2)) ?_
 refine s_val ((v_fieldV (t := 42) (fo := 0) (m := 8) (by kernel_rfl) (by kernel_rfl) rfl).to (congrArg Value.agg (H.ex_acc h43))) ?_
 refine s_want rfl rfl (congrArg not (decide_eq_false alive_text.2)) ?_
 refine s_val (v_indexV (len := 4) (t := 41) (m := 2) (k := .i64) (cs' := acc2 _ _) (by kernel_rfl) (by kernel_rfl) rfl rfl (by decide) (accA_at _ _ (by decide))) ?_
 refine s_want rfl rfl (congrArg not (decide_eq_false alive_text.2)) ?_
 refine s_val (v_fieldS (t := 3) (fo := 0) (v := .int .i64 _) (by kernel_rfl) (by kernel_rfl) rfl rfl) ?_
 refine s_want rfl rfl (congrArg not (decide_eq_false alive_text.2)) ?_
 refine s_val (v_eql (k := .i64) rfl rfl) ?_
 refine s_val (v_pickT (v := .bool _) rfl (congrArg not (decide_eq_false alive_text.2)) rfl) ?_
 refine s_val (v_assign (v := .bool _) rfl) ?_
 refine s_nil ?_
 refine c_ret ?_
 refine n_done rfl (by decide) (Eq.trans (b := .bool _) rfl (congrArg Value.bool ?_))
 exact decide_eq_true (alive_has hc43)
set_option maxHeartbeats 1000000 in
theorem g_play (bk : BankOk) {κ : Type} (CB : κ → List (Nat × Obj)) (J : Nat → BankS → κ → (Addr → Value → Prop) → Prop) (a0 : Option Addr) (c0 : Nat) (xs : List ActS) (kf : FuncId) (caps : List Value) (F : Addr → Value → Prop) (c : κ) (hx : ActsAt F a0 xs) (hlx : xs.length ≤ 9223372036854775807) (hJ : J 0 newB c F) (hmono : ∀ {i : Nat} {s : BankS} {c : κ} {F F' : Addr → Value → Prop}, J i s c F → More F F' → J i s c F') (hk : hasBody Try.prog kf = true) (hlook : Looks bk CB J xs kf caps F) : GivesW Try.prog 4 [.slice a0 xs.length c0, .func (.func kf) #[] caps.toArray] F (CB c) (Played bk CB J xs) := by
 refine givesW_of Try.func4 rfl Try.ntmps4 (by simp) (fun w K => ?_)
 refine r_seq (by kernel_rfl) ?_
 refine s_val (v_assign (v := .pointer _) rfl) ?_
 refine s_val (v_assign (v := .bool _) rfl) ?_
 refine s_nil ?_
 refine c_seq ?_
 refine r_seq (by kernel_rfl) ?_
 refine s_call (by kernel_rfl) (fun w hw => g_alive bk w) ?_
 refine s_val (v_not rfl) ?_
 refine s_nil ?_
 refine c_condFh rfl rfl (congrArg not rfl) ?_
 refine c_skip ?_
 refine n_then ?_
 refine r_seq (by kernel_rfl) ?_
 refine s_callE (by kernel_rfl) (fun w hw => bk.new w) (fun v11 E11 hR11 => ?_)
 obtain ⟨b11, rfl, hr11⟩ := hR11
 refine s_val (v_assign (v := .pointer _) rfl) ?_
 refine s_nil ?_
 refine c_seq ?_
 refine r_seq (by kernel_rfl) ?_
 refine s_val (v_assign (v := .int .i64 _) rfl) ?_
 refine s_nil ?_
 refine c_block ?_
 refine c_loop (σ := PlG κ) (fun (t : PlG κ) f => ∃ g, (t.i ≤ xs.length ∧ t.i ≤ 80 ∧ More F t.F ∧ BGood t.s ∧ bk.Rep t.F t.b t.B t.s ∧ J t.i t.s t.c t.F ∧ t.s = playM newB (xs.take t.i)) ∧ f = (upd (upd (upd (upd g 0 (.slice a0 xs.length c0)) 1 (.func (.func kf) #[] caps.toArray)) 6 (.pointer (some ⟨t.b, 0, none⟩))) 7 (I t.i))) (fun (t : PlG κ) => Has w t.F (t.B ++ (CB t.c ++ K))) (fun (t : PlG κ) => xs.length - t.i) ⟨0, F, newB, b11, E11, c⟩ ⟨_, ⟨Nat.zero_le _, Nat.zero_le _, fun _ _ h => h, bgood_new, hr11 _, hJ, rfl⟩, live4 rfl rfl rfl rfl⟩ (fun w hw => hw) ?_
 rintro t _ ⟨g, ⟨hil, hi80, hmo, hgt, hrt, hJt, hst⟩, rfl⟩
 refine c_seq ?_
 refine r_seq (by kernel_rfl) ?_
 refine s_val (v_move (v := .int .i64 _) rfl) ?_
 refine s_val (v_move (v := .slice _ _ _) rfl) ?_
 refine s_val (v_lenS (T := 22) (m := 5) (by kernel_rfl) rfl rfl) ?_
 refine s_val (v_lss (k := .i64) rfl rfl) ?_
 refine s_val (v_move (v := .bool _) rfl) ?_
 refine s_splitR (s := 16) rfl (fun h16 => ?_) (fun h16 => ?_)
 · refine s_pass rfl rfl h16 ?_
   refine s_pass rfl rfl h16 ?_
   refine s_val (v_pickF (v := .bool _) rfl h16 rfl) ?_
   refine s_nil ?_
   refine c_condFh rfl rfl rfl ?_
   refine c_exit ?_
   refine n_exit ?_
   refine n_exit ?_
   refine n_bhere ?_
   refine n_then ?_
   refine r_seq (by kernel_rfl) ?_
   refine s_val (v_move (v := .pointer _) rfl) ?_
   refine s_val (v_assign (v := .pointer _) rfl) ?_
   refine s_val (v_assign (v := .bool _) rfl) ?_
   refine s_nil ?_
   refine c_ret ?_
   obtain ⟨e1, e2⟩ := play_all (by omega) (by omega) (fun h => absurd h.1 (by have := of_decide_eq_false h16; omega))
   refine n_doneW2 (B' := t.B ++ CB t.c) rfl (by decide) (by decide) hmo (fun w1 hw => by rw [List.append_assoc]; exact hw) ⟨t.b, t.B, t.c, rfl, rfl, ?_, ?_, ?_⟩
   · rw [← e1, ← hst]; exact hrt
   · exact bgood_play _
   · rw [e2, ← e1, ← hst]; exact hJt
 refine s_want rfl rfl h16 ?_
 refine s_val (v_move (v := .int .i64 _) rfl) ?_
 refine s_want rfl rfl h16 ?_
 refine s_val (v_lss (k := .i64) rfl rfl) ?_
 refine s_val (v_pickT (v := .bool _) rfl h16 rfl) ?_
 refine s_nil ?_
 refine c_condR rfl rfl (fun h19 => ?_) (fun h19 => ?_)
 · refine c_exit ?_
   refine n_exit ?_
   refine n_exit ?_
   refine n_bhere ?_
   refine n_then ?_
   refine r_seq (by kernel_rfl) ?_
   refine s_val (v_move (v := .pointer _) rfl) ?_
   refine s_val (v_assign (v := .pointer _) rfl) ?_
   refine s_val (v_assign (v := .bool _) rfl) ?_
   refine s_nil ?_
   refine c_ret ?_
   obtain ⟨e1, e2⟩ := play_all (by omega) (by omega) (fun h => absurd h.2 (by have := of_decide_eq_false h19; omega))
   refine n_doneW2 (B' := t.B ++ CB t.c) rfl (by decide) (by decide) hmo (fun w1 hw => by rw [List.append_assoc]; exact hw) ⟨t.b, t.B, t.c, rfl, rfl, ?_, ?_, ?_⟩
   · rw [← e1, ← hst]; exact hrt
   · exact bgood_play _
   · rw [e2, ← e1, ← hst]; exact hJt
 have hi0 := of_decide_eq_true h16
 have hi8 := of_decide_eq_true h19
 obtain ⟨bx, ox, x, hax, hxk, hxc⟩ := (hx.mono hmo).get (j := t.i) (by omega)
 refine c_skip ?_
 refine n_then ?_
 refine c_seq ?_
 refine c_block ?_
 refine r_seq (by kernel_rfl) ?_
 refine s_val (v_move (v := .pointer _) rfl) ?_
 refine s_val (v_move (v := .slice _ _ _) rfl) ?_
 refine s_val (v_move (v := .int .i64 _) rfl) ?_
 refine s_val (v_idxS (size := 5) (k := .i64) (by kernel_rfl) (congrArg (fun a => Value.slice a xs.length c0) hax) rfl ⟨by omega, by omega⟩) ?_
 refine s_val (v_loadNo (cs := x.cells) (m := 5) (by kernel_rfl) rfl rfl (fun k v hv => hxc k v hv)) ?_
 refine s_do bk hgt hrt rfl rfl (fun F27 v27 E27 B27 hF27 hi27 hr27 => ?_)
 obtain ⟨a27, c27, rfl, hl27, ho27⟩ := hi27
 refine s_alloc (z := .agg (repC 0 0 (.slice none 0 0))) (by kernel_rfl) (fun b8 => ?_)
 refine s_storeA (m := 3) (by kernel_rfl) rfl rfl .here rfl rfl rep_all ?_
 refine s_nil ?_
 refine t_seq (k := 7) (by kernel_rfl) (by kernel_rfl) (fun w hw => hw.drew) (by kernel_rfl) ?_
 refine q_val (v_move (v := .func _ _ _) rfl) ?_
 refine q_val (v_move (v := .pointer _) rfl) ?_
 refine q_val (v_move (v := .slice _ _ _) rfl) ?_
 refine q_val (v_move (v := .int .i64 _) rfl) ?_
 refine q_val (v_idxS (size := 5) (k := .i64) (by kernel_rfl) (congrArg (fun a => Value.slice a xs.length c0) hax) rfl ⟨by omega, by omega⟩) ?_
 refine q_val (v_loadNo (cs := x.cells) (m := 5) (by kernel_rfl) rfl rfl (fun k v hv => hF27 _ _ (hxc k v hv))) ?_
 refine q_val (v_loadA (m := 3) (by kernel_rfl) rfl .here rfl) ?_
 refine q_tail ?_
 refine s_weak (fun w1 hw => hw.perm List.perm_middle.symm) ?_
 refine s_weak (fun w1 hw => hw.perm (List.Perm.append_left E27 List.perm_middle.symm)) ?_
 refine s_weak (fun w1 hw => hw.perm (List.Perm.append_left E27 (List.Perm.append_left B27 List.perm_middle.symm))) ?_
 refine s_weak (fun w1 hw => show Has w F27 ((E27 ++ (B27 ++ CB t.c)) ++ _) w1 from (by rw [List.append_assoc, List.append_assoc]; exact hw)) ?_
 refine s_callWC (caps := caps) rfl hk (hlook F27 t.i t.s t.c x t.b B27 E27 a27 c27 (fun a v h => hF27 a v (hmo a v h)) hxk (by omega) (hmono hJt hF27) hgt hst hr27 ⟨a27, c27, rfl, hl27, ho27⟩) (fun F35 v35 B35 hF35 hR35 => ?_)
 obtain ⟨rfl, c35, rfl, hJ35⟩ := hR35
 refine s_weak (fun w1 hw => show Has w F35 (B27 ++ (CB c35 ++ _)) w1 from (by rw [List.append_assoc] at hw; exact hw)) ?_
 refine s_val (v_not rfl) ?_
 refine s_nil ?_
 refine c_condFh rfl rfl (congrArg not rfl) ?_
 refine c_skip ?_
 refine n_bnormal ?_
 refine n_then ?_
 refine r_list (by kernel_rfl) ?_
 refine s_val (v_move (v := .int .i64 _) rfl) ?_
 refine s_val (v_add rfl rfl (by omega)) ?_
 refine s_val (v_assign (v := .int .i64 _) rfl) ?_
 refine s_end ?_
 refine n_round (s := t) ⟨t.i + 1, F35, (doM t.s x).1, t.b, B27, c35⟩ ⟨_, ⟨by dsimp only; omega, by dsimp only; omega, fun a v h => hF35 a v (hF27 a v (hmo a v h)), hgt.act x, bk.mono hr27 hF35, hJ35, by dsimp only; rw [play_step hxk, ← hst]⟩, live4 rfl rfl rfl rfl⟩ (fun _ hw => hw.sub sub_last) (by dsimp only; omega)
set_option maxHeartbeats 1000000 in
theorem look_quiet (bk : BankOk) (F : Addr → Value → Prop) (s : BankS) (r : RepS) (x : ActS) (b : Nat) (B E : List (Nat × Obj)) (a1 : Option Addr) (l1 c1 : Nat) (hg : BGood s) (hr : bk.Rep F b B s) : GivesW Try.prog 5 [.pointer (some ⟨b, 0, none⟩), .agg x.cells, repOf r (.slice a1 l1 c1)] F (E ++ B) (fun F2 v B' => v = .bool true ∧ B' = B) := by
 refine givesW_of Try.func5 rfl Try.ntmps5 (by simp) (fun w K => ?_)
 refine c_weak (fun w1 hw => show Has w F (E ++ (B ++ K)) w1 from (by rw [← List.append_assoc]; exact hw)) ?_
 refine r_seq (by kernel_rfl) ?_
 refine s_box (v := .agg _) rfl (fun b4 => ?_)
 refine s_box (v := .agg _) rfl (fun b5 => ?_)
 refine s_val (v_assign (v := .bool _) rfl) ?_
 refine s_nil ?_
 refine r_seq (by kernel_rfl) ?_
 refine s_val (v_assign (v := .bool _) rfl) ?_
 refine s_nil ?_
 refine c_ret ?_
 exact n_doneW (B' := B) rfl (by decide) (fun _ _ h => h) (fun w1 hw => hw.sub (List.Sublist.cons _ (List.Sublist.cons _ (List.Sublist.trans (List.Sublist.refl _) (List.sublist_append_right _ _))))) ⟨rfl, rfl⟩
end Go.Proofs.Ytmkboljfbmlebac
namespace Go.Proofs.Ytmkboljfbmlebac
open Go.RowKit
set_option linter.unusedSimpArgs false
set_option linter.unusedVariables false
theorem Lies.below {w w' : World} {B : List (Nat × Obj)} (h : Lies w B) (hb : Bel w.heap.size w w') : Lies w' B := fun p hp => by
 have h1 := h p hp
 rw [hb.block p.1 (Array.getElem?_eq_some_iff.1 h1).1]
 exact h1
theorem do_acts (s : BankS) (a : ActS) : (doM s a).1.acts = if s.acts = 200 then 200 else s.acts + 1 := by
 unfold doM
 by_cases h : s.acts = 200
 · simp [h]
 · rw [if_neg h]
   simp only [decide_eq_false h, cond_false, Bool.cond_eq_ite]
   repeat' split
   all_goals first | rfl | contradiction
theorem play_acts : ∀ (l : List ActS) (s : BankS), s.acts + l.length ≤ 200 → (playM s l).acts = s.acts + l.length
 | [], s, _ => rfl
 | a :: r, s, h => by
   simp only [List.length_cons] at h
   have e := do_acts s a
   rw [if_neg (by omega)] at e
   simp only [playM]
   rw [play_acts r _ (by omega), e]
   simp only [List.length_cons]
   omega
theorem new_acts (l : List ActS) (h : l.length ≤ 200) : (playM newB l).acts = l.length := by
 rw [play_acts l newB (by simpa [newB] using h)]
 simp [newB]
def noAct : ActS := ⟨0, 0, 0, 0, 0⟩
theorem next_zero (c : H) (ps : List PayS) : (nextM c ps noAct).code ≠ 0 := by
 unfold nextM
 cases goodB c ps <;> simp [noAct, errN]
theorem zero_do {s : BankS} (hg : BGood s) : ¬ (doM s noAct).2.code = 0 := by
 obtain ⟨log, lost, hb⟩ := hg
 obtain ⟨log', lost', st, _⟩ := hb.act noAct
 generalize (doM s noAct).1 = s' at st
 generalize (doM s noAct).2 = r at st
 cases st with
 | full h => simp [errR]
 | same r h1 h2 h3 h4 h5 h6 => exact h2
 | opened l h1 h2 h3 h4 => cases h3
 | failing h1 h2 h3 h4 => cases h3
 | fell m h1 h2 h3 h4 h5 h6 h7' h8 => simp [errR]
 | went h1 h2 h3 h4 h5 h6 h7' => exact absurd h6 (next_zero _ _)
theorem full_do {s : BankS} (h : s.acts = 200) (a : ActS) : doM s a = (s, errR 5) := by simp [doM, h]
def Alike (s t : BankS) : Prop := s.c = t.c ∧ s.ps = t.ps ∧ s.text = t.text ∧ s.down = t.down
theorem Alike.refl (s : BankS) : Alike s s := ⟨rfl, rfl, rfl, rfl⟩
end Go.Proofs.Ytmkboljfbmlebac
namespace Go.Proofs.Ytmkboljfbmlebac
open Go.RowKit
set_option linter.unusedSimpArgs false
set_option linter.unusedVariables false
set_option maxRecDepth 100000
attribute [local irreducible] cC sC nC rC qw
theorem gt_sameHouse (h : H) (ps : List PayS) (k : H) (qs : List PayS) (w : World) (hp : PaysIn (At w) h.pa h.pl ps) (hq : PaysIn (At w) k.pa k.pl qs) (hb : h.pl ≤ 9223372036854775807) : Gives Try.prog 16 [.agg h.cells, .agg k.cells] w (.bool (sameB h ps k qs)) := by
 refine gives_of Try.func16 rfl Try.ntmps16 (by simp) ?_
 refine r_seq (by kernel_rfl) ?_
 refine s_box (v := .agg _) rfl (fun b2 => ?_)
 refine s_box (v := .agg _) rfl (fun b3 => ?_)
 refine s_val (v_assign (v := .bool _) rfl) ?_
 refine s_nil ?_
 refine c_seq ?_
 refine r_seq (by kernel_rfl) ?_
 refine s_val (v_field (fo := 0) (by kernel_rfl) rfl) ?_
 refine s_val (v_loadN (m := 8) (cs' := accA _ _) (by kernel_rfl) rfl (.there .here) (accA_size _ _) (H.ex_acc _)) ?_
 refine s_val (v_field (fo := 0) (by kernel_rfl) rfl) ?_
 refine s_val (v_loadN (m := 8) (cs' := accA _ _) (by kernel_rfl) rfl .here (accA_size _ _) (H.ex_acc _)) ?_
 refine s_val (v_neqFlat (n := 8) _ _ (by kernel_rfl) rfl rfl (accA_list _ _) (accA_list _ _) rfl rfl) ?_
 refine s_val (v_move (v := .bool _) rfl) ?_
 refine s_splitN (s := 11) rfl (fun h11 => ?_) (fun h11 => ?_)
 · refine s_pass rfl rfl (congrArg not h11) ?_
   refine s_pass rfl rfl (congrArg not h11) ?_
   refine s_pass rfl rfl (congrArg not h11) ?_
   refine s_pass rfl rfl (congrArg not h11) ?_
   refine s_pass rfl rfl (congrArg not h11) ?_
   refine s_val (v_pickT (v := .bool _) rfl (congrArg not h11) rfl) ?_
   refine s_val (v_move (v := .bool _) rfl) ?_
   refine s_pass (g := true) rfl rfl rfl ?_
   refine s_pass (g := true) rfl rfl rfl ?_
   refine s_pass (g := true) rfl rfl rfl ?_
   refine s_pass (g := true) rfl rfl rfl ?_
   refine s_pass (g := true) rfl rfl rfl ?_
   refine s_val (v_pickT (v := .bool _) rfl rfl rfl) ?_
   refine s_val (v_move (v := .bool _) rfl) ?_
   refine s_pass (g := true) rfl rfl rfl ?_
   refine s_pass (g := true) rfl rfl rfl ?_
   refine s_pass (g := true) rfl rfl rfl ?_
   refine s_pass (g := true) rfl rfl rfl ?_
   refine s_pass (g := true) rfl rfl rfl ?_
   refine s_val (v_pickT (v := .bool _) rfl rfl rfl) ?_
   refine s_val (v_move (v := .bool _) rfl) ?_
   refine s_pass (g := true) rfl rfl rfl ?_
   refine s_pass (g := true) rfl rfl rfl ?_
   refine s_pass (g := true) rfl rfl rfl ?_
   refine s_pass (g := true) rfl rfl rfl ?_
   refine s_pass (g := true) rfl rfl rfl ?_
   refine s_pass (g := true) rfl rfl rfl ?_
   refine s_pass (g := true) rfl rfl rfl ?_
   refine s_val (v_pickT (v := .bool _) rfl rfl rfl) ?_
   refine s_nil ?_
   refine c_condTh rfl rfl rfl ?_
   refine r_seq (by kernel_rfl) ?_
   refine s_val (v_assign (v := .bool _) rfl) ?_
   refine s_nil ?_
   refine c_ret ?_
   refine n_ret ?_
   refine n_done rfl (by decide) (Eq.trans (b := .bool _) rfl (congrArg Value.bool ?_))
   first | (have e := same_all hp.1 hq.1 h40 h45 hinv; simp only [sameB, *, Bool.true_and, Bool.false_and, Bool.and_true, Bool.and_false, Bool.not_true, Bool.not_false, Bool.true_or, Bool.or_true, Bool.false_or, Bool.or_false, cond_true, cond_false, if_true, if_false, Bool.false_eq_true, decide_true, decide_false]; done) | (have e := same_bad (F := At w) (h := h) (k := k) hpk hqk h57; simp only [sameB, *, Bool.true_and, Bool.false_and, Bool.and_true, Bool.and_false, Bool.not_true, Bool.not_false, Bool.true_or, Bool.or_true, Bool.false_or, Bool.or_false, cond_true, cond_false, if_true, if_false, Bool.false_eq_true, decide_true, decide_false]; done) | (simp only [sameB, *, Bool.true_and, Bool.false_and, Bool.and_true, Bool.and_false, Bool.not_true, Bool.not_false, Bool.true_or, Bool.or_true, Bool.false_or, Bool.or_false, cond_true, cond_false, if_true, if_false, Bool.false_eq_true, decide_true, decide_false]; done)
 refine s_want rfl rfl (congrArg not h11) ?_
 refine s_val (v_field (fo := 8) (by kernel_rfl) rfl) ?_
 refine s_want rfl rfl (congrArg not h11) ?_
 refine s_val (v_loadN (m := 16) (cs' := matA _) (by kernel_rfl) rfl (.there .here) (matA_size _) (H.ex_sent _)) ?_
 refine s_want rfl rfl (congrArg not h11) ?_
 refine s_val (v_field (fo := 8) (by kernel_rfl) rfl) ?_
 refine s_want rfl rfl (congrArg not h11) ?_
 refine s_val (v_loadN (m := 16) (cs' := matA _) (by kernel_rfl) rfl .here (matA_size _) (H.ex_sent _)) ?_
 refine s_want rfl rfl (congrArg not h11) ?_
 refine s_val (v_neqFlat (n := 16) _ _ (by kernel_rfl) rfl rfl (matA_list _) (matA_list _) rfl rfl) ?_
 refine s_val (v_pickF (v := .bool _) rfl (congrArg not h11) rfl) ?_
 refine s_val (v_move (v := .bool _) rfl) ?_
 refine s_splitN (s := 18) rfl (fun h18 => ?_) (fun h18 => ?_)
 · refine s_pass rfl rfl (congrArg not h18) ?_
   refine s_pass rfl rfl (congrArg not h18) ?_
   refine s_pass rfl rfl (congrArg not h18) ?_
   refine s_pass rfl rfl (congrArg not h18) ?_
   refine s_pass rfl rfl (congrArg not h18) ?_
   refine s_val (v_pickT (v := .bool _) rfl (congrArg not h18) rfl) ?_
   refine s_val (v_move (v := .bool _) rfl) ?_
   refine s_pass (g := true) rfl rfl rfl ?_
   refine s_pass (g := true) rfl rfl rfl ?_
   refine s_pass (g := true) rfl rfl rfl ?_
   refine s_pass (g := true) rfl rfl rfl ?_
   refine s_pass (g := true) rfl rfl rfl ?_
   refine s_val (v_pickT (v := .bool _) rfl rfl rfl) ?_
   refine s_val (v_move (v := .bool _) rfl) ?_
   refine s_pass (g := true) rfl rfl rfl ?_
   refine s_pass (g := true) rfl rfl rfl ?_
   refine s_pass (g := true) rfl rfl rfl ?_
   refine s_pass (g := true) rfl rfl rfl ?_
   refine s_pass (g := true) rfl rfl rfl ?_
   refine s_pass (g := true) rfl rfl rfl ?_
   refine s_pass (g := true) rfl rfl rfl ?_
   refine s_val (v_pickT (v := .bool _) rfl rfl rfl) ?_
   refine s_nil ?_
   refine c_condTh rfl rfl rfl ?_
   refine r_seq (by kernel_rfl) ?_
   refine s_val (v_assign (v := .bool _) rfl) ?_
   refine s_nil ?_
   refine c_ret ?_
   refine n_ret ?_
   refine n_done rfl (by decide) (Eq.trans (b := .bool _) rfl (congrArg Value.bool ?_))
   first | (have e := same_all hp.1 hq.1 h40 h45 hinv; simp only [sameB, *, Bool.true_and, Bool.false_and, Bool.and_true, Bool.and_false, Bool.not_true, Bool.not_false, Bool.true_or, Bool.or_true, Bool.false_or, Bool.or_false, cond_true, cond_false, if_true, if_false, Bool.false_eq_true, decide_true, decide_false]; done) | (have e := same_bad (F := At w) (h := h) (k := k) hpk hqk h57; simp only [sameB, *, Bool.true_and, Bool.false_and, Bool.and_true, Bool.and_false, Bool.not_true, Bool.not_false, Bool.true_or, Bool.or_true, Bool.false_or, Bool.or_false, cond_true, cond_false, if_true, if_false, Bool.false_eq_true, decide_true, decide_false]; done) | (simp only [sameB, *, Bool.true_and, Bool.false_and, Bool.and_true, Bool.and_false, Bool.not_true, Bool.not_false, Bool.true_or, Bool.or_true, Bool.false_or, Bool.or_false, cond_true, cond_false, if_true, if_false, Bool.false_eq_true, decide_true, decide_false]; done)
 refine s_want rfl rfl (congrArg not h18) ?_
 refine s_val (v_field (fo := 24) (by kernel_rfl) rfl) ?_
 refine s_want rfl rfl (congrArg not h18) ?_
 refine s_val (v_loadN (m := 16) (cs' := matA _) (by kernel_rfl) rfl (.there .here) (matA_size _) (H.ex_lim _)) ?_
 refine s_want rfl rfl (congrArg not h18) ?_
 refine s_val (v_field (fo := 24) (by kernel_rfl) rfl) ?_
 refine s_want rfl rfl (congrArg not h18) ?_
 refine s_val (v_loadN (m := 16) (cs' := matA _) (by kernel_rfl) rfl .here (matA_size _) (H.ex_lim _)) ?_
 refine s_want rfl rfl (congrArg not h18) ?_
 refine s_val (v_neqFlat (n := 16) _ _ (by kernel_rfl) rfl rfl (matA_list _) (matA_list _) rfl rfl) ?_
 refine s_val (v_pickF (v := .bool _) rfl (congrArg not h18) rfl) ?_
 refine s_val (v_move (v := .bool _) rfl) ?_
 refine s_splitN (s := 25) rfl (fun h25 => ?_) (fun h25 => ?_)
 · refine s_pass rfl rfl (congrArg not h25) ?_
   refine s_pass rfl rfl (congrArg not h25) ?_
   refine s_pass rfl rfl (congrArg not h25) ?_
   refine s_pass rfl rfl (congrArg not h25) ?_
   refine s_pass rfl rfl (congrArg not h25) ?_
   refine s_val (v_pickT (v := .bool _) rfl (congrArg not h25) rfl) ?_
   refine s_val (v_move (v := .bool _) rfl) ?_
   refine s_pass (g := true) rfl rfl rfl ?_
   refine s_pass (g := true) rfl rfl rfl ?_
   refine s_pass (g := true) rfl rfl rfl ?_
   refine s_pass (g := true) rfl rfl rfl ?_
   refine s_pass (g := true) rfl rfl rfl ?_
   refine s_pass (g := true) rfl rfl rfl ?_
   refine s_pass (g := true) rfl rfl rfl ?_
   refine s_val (v_pickT (v := .bool _) rfl rfl rfl) ?_
   refine s_nil ?_
   refine c_condTh rfl rfl rfl ?_
   refine r_seq (by kernel_rfl) ?_
   refine s_val (v_assign (v := .bool _) rfl) ?_
   refine s_nil ?_
   refine c_ret ?_
   refine n_ret ?_
   refine n_done rfl (by decide) (Eq.trans (b := .bool _) rfl (congrArg Value.bool ?_))
   first | (have e := same_all hp.1 hq.1 h40 h45 hinv; simp only [sameB, *, Bool.true_and, Bool.false_and, Bool.and_true, Bool.and_false, Bool.not_true, Bool.not_false, Bool.true_or, Bool.or_true, Bool.false_or, Bool.or_false, cond_true, cond_false, if_true, if_false, Bool.false_eq_true, decide_true, decide_false]; done) | (have e := same_bad (F := At w) (h := h) (k := k) hpk hqk h57; simp only [sameB, *, Bool.true_and, Bool.false_and, Bool.and_true, Bool.and_false, Bool.not_true, Bool.not_false, Bool.true_or, Bool.or_true, Bool.false_or, Bool.or_false, cond_true, cond_false, if_true, if_false, Bool.false_eq_true, decide_true, decide_false]; done) | (simp only [sameB, *, Bool.true_and, Bool.false_and, Bool.and_true, Bool.and_false, Bool.not_true, Bool.not_false, Bool.true_or, Bool.or_true, Bool.false_or, Bool.or_false, cond_true, cond_false, if_true, if_false, Bool.false_eq_true, decide_true, decide_false]; done)
 refine s_want rfl rfl (congrArg not h25) ?_
 refine s_val (v_field (fo := 41) (by kernel_rfl) rfl) ?_
 refine s_want rfl rfl (congrArg not h25) ?_
 refine s_val (v_load1 (v := .int .i64 _) (by kernel_rfl) rfl (.there .here) (H.at_next _)) ?_
 refine s_want rfl rfl (congrArg not h25) ?_
 refine s_val (v_field (fo := 41) (by kernel_rfl) rfl) ?_
 refine s_want rfl rfl (congrArg not h25) ?_
 refine s_val (v_load1 (v := .int .i64 _) (by kernel_rfl) rfl .here (H.at_next _)) ?_
 refine s_want rfl rfl (congrArg not h25) ?_
 refine s_val (v_neq (k := .i64) rfl rfl) ?_
 refine s_val (v_pickF (v := .bool _) rfl (congrArg not h25) rfl) ?_
 refine s_val (v_move (v := .bool _) rfl) ?_
 refine s_splitN (s := 32) rfl (fun h32 => ?_) (fun h32 => ?_)
 · refine s_pass rfl rfl (congrArg not h32) ?_
   refine s_pass rfl rfl (congrArg not h32) ?_
   refine s_pass rfl rfl (congrArg not h32) ?_
   refine s_pass rfl rfl (congrArg not h32) ?_
   refine s_pass rfl rfl (congrArg not h32) ?_
   refine s_pass rfl rfl (congrArg not h32) ?_
   refine s_pass rfl rfl (congrArg not h32) ?_
   refine s_val (v_pickT (v := .bool _) rfl (congrArg not h32) rfl) ?_
   refine s_nil ?_
   refine c_condTh rfl rfl rfl ?_
   refine r_seq (by kernel_rfl) ?_
   refine s_val (v_assign (v := .bool _) rfl) ?_
   refine s_nil ?_
   refine c_ret ?_
   refine n_ret ?_
   refine n_done rfl (by decide) (Eq.trans (b := .bool _) rfl (congrArg Value.bool ?_))
   first | (have e := same_all hp.1 hq.1 h40 h45 hinv; simp only [sameB, *, Bool.true_and, Bool.false_and, Bool.and_true, Bool.and_false, Bool.not_true, Bool.not_false, Bool.true_or, Bool.or_true, Bool.false_or, Bool.or_false, cond_true, cond_false, if_true, if_false, Bool.false_eq_true, decide_true, decide_false]; done) | (have e := same_bad (F := At w) (h := h) (k := k) hpk hqk h57; simp only [sameB, *, Bool.true_and, Bool.false_and, Bool.and_true, Bool.and_false, Bool.not_true, Bool.not_false, Bool.true_or, Bool.or_true, Bool.false_or, Bool.or_false, cond_true, cond_false, if_true, if_false, Bool.false_eq_true, decide_true, decide_false]; done) | (simp only [sameB, *, Bool.true_and, Bool.false_and, Bool.and_true, Bool.and_false, Bool.not_true, Bool.not_false, Bool.true_or, Bool.or_true, Bool.false_or, Bool.or_false, cond_true, cond_false, if_true, if_false, Bool.false_eq_true, decide_true, decide_false]; done)
 refine s_want rfl rfl (congrArg not h32) ?_
 refine s_val (v_field (fo := 40) (by kernel_rfl) rfl) ?_
 refine s_want rfl rfl (congrArg not h32) ?_
 refine s_val (v_load1 (v := .slice _ _ _) (by kernel_rfl) rfl (.there .here) (H.at_pays _)) ?_
 refine s_want rfl rfl (congrArg not h32) ?_
 refine s_val (v_lenS (T := 45) (m := 6) (by kernel_rfl) rfl rfl) ?_
 refine s_want rfl rfl (congrArg not h32) ?_
 refine s_val (v_field (fo := 40) (by kernel_rfl) rfl) ?_
 refine s_want rfl rfl (congrArg not h32) ?_
 refine s_val (v_load1 (v := .slice _ _ _) (by kernel_rfl) rfl .here (H.at_pays _)) ?_
 refine s_want rfl rfl (congrArg not h32) ?_
 refine s_val (v_lenS (T := 45) (m := 6) (by kernel_rfl) rfl rfl) ?_
 refine s_want rfl rfl (congrArg not h32) ?_
 refine s_val (v_neq (k := .i64) rfl rfl) ?_
 refine s_val (v_pickF (v := .bool _) rfl (congrArg not h32) rfl) ?_
 refine s_nil ?_
 refine c_condN rfl rfl (fun h40 => ?_) (fun h40 => ?_)
 · refine r_seq (by kernel_rfl) ?_
   refine s_val (v_assign (v := .bool _) rfl) ?_
   refine s_nil ?_
   refine c_ret ?_
   refine n_ret ?_
   refine n_done rfl (by decide) (Eq.trans (b := .bool _) rfl (congrArg Value.bool ?_))
   first | (have e := same_all hp.1 hq.1 h40 h45 hinv; simp only [sameB, *, Bool.true_and, Bool.false_and, Bool.and_true, Bool.and_false, Bool.not_true, Bool.not_false, Bool.true_or, Bool.or_true, Bool.false_or, Bool.or_false, cond_true, cond_false, if_true, if_false, Bool.false_eq_true, decide_true, decide_false]; done) | (have e := same_bad (F := At w) (h := h) (k := k) hpk hqk h57; simp only [sameB, *, Bool.true_and, Bool.false_and, Bool.and_true, Bool.and_false, Bool.not_true, Bool.not_false, Bool.true_or, Bool.or_true, Bool.false_or, Bool.or_false, cond_true, cond_false, if_true, if_false, Bool.false_eq_true, decide_true, decide_false]; done) | (simp only [sameB, *, Bool.true_and, Bool.false_and, Bool.and_true, Bool.and_false, Bool.not_true, Bool.not_false, Bool.true_or, Bool.or_true, Bool.false_or, Bool.or_false, cond_true, cond_false, if_true, if_false, Bool.false_eq_true, decide_true, decide_false]; done)
 refine c_skip ?_
 refine n_then ?_
 refine c_seq ?_
 have hee := of_decide_eq_true h40
 refine r_seq (by kernel_rfl) ?_
 refine s_val (v_field (fo := 40) (by kernel_rfl) rfl) ?_
 refine s_val (v_load1 (v := .slice _ _ _) (by kernel_rfl) rfl (.there .here) (H.at_pays _)) ?_
 refine s_val (v_lenS (T := 45) (m := 6) (by kernel_rfl) rfl rfl) ?_
 refine s_val (v_move (v := .int .i64 _) rfl) ?_
 refine s_nil ?_
 refine c_block ?_
 refine c_loop (σ := Nat) (fun (j : Nat) f => ∃ g, (j ≤ h.pl ∧ (ps.take j).map PayS.list = (qs.take j).map PayS.list) ∧ f = (upd (upd (upd (upd g 2 (.pointer (some ⟨b2, 0, none⟩))) 3 (.pointer (some ⟨b3, 0, none⟩))) 43 (I h.pl)) 44 (I j))) (fun (j : Nat) => Has w (At w) [(b3, .cells k.cells 47), (b2, .cells h.cells 47)]) (fun (j : Nat) => h.pl - j) 0 ⟨_, ⟨Nat.zero_le _, rfl⟩, live4 rfl rfl rfl rfl⟩ (fun w hw => hw) ?_
 rintro j _ ⟨g, ⟨hjl, hinv⟩, rfl⟩
 refine r_seq (by kernel_rfl) ?_
 refine s_val (v_lss (k := .i64) rfl rfl) ?_
 refine s_nil ?_
 refine c_seq ?_
 refine c_condR rfl rfl (fun h45 => ?_) (fun h45 => ?_)
 · refine c_exit ?_
   refine n_exit ?_
   refine n_exit ?_
   refine n_bhere ?_
   refine n_then ?_
   refine r_seq (by kernel_rfl) ?_
   refine s_val (v_assign (v := .bool _) rfl) ?_
   refine s_nil ?_
   refine c_ret ?_
   refine n_done rfl (by decide) (Eq.trans (b := .bool _) rfl (congrArg Value.bool ?_))
   first | (have e := same_all hp.1 hq.1 h40 h45 hinv; simp only [sameB, *, Bool.true_and, Bool.false_and, Bool.and_true, Bool.and_false, Bool.not_true, Bool.not_false, Bool.true_or, Bool.or_true, Bool.false_or, Bool.or_false, cond_true, cond_false, if_true, if_false, Bool.false_eq_true, decide_true, decide_false]; done) | (have e := same_bad (F := At w) (h := h) (k := k) hpk hqk h57; simp only [sameB, *, Bool.true_and, Bool.false_and, Bool.and_true, Bool.and_false, Bool.not_true, Bool.not_false, Bool.true_or, Bool.or_true, Bool.false_or, Bool.or_false, cond_true, cond_false, if_true, if_false, Bool.false_eq_true, decide_true, decide_false]; done) | (simp only [sameB, *, Bool.true_and, Bool.false_and, Bool.and_true, Bool.and_false, Bool.not_true, Bool.not_false, Bool.true_or, Bool.or_true, Bool.false_or, Bool.or_false, cond_true, cond_false, if_true, if_false, Bool.false_eq_true, decide_true, decide_false]; done)
 have hj0 := of_decide_eq_true h45
 obtain ⟨p, hpk, hd, ht⟩ := hp.get (k := j) (by omega)
 obtain ⟨q, hqk, hd2, ht2⟩ := hq.get (k := j) (by omega)
 obtain ⟨b, o, hpa, hc⟩ := hp.some (k := j) (by omega)
 obtain ⟨b', o', hqa, hc'⟩ := hq.some (k := j) (by omega)
 refine c_skip ?_
 refine n_then ?_
 refine c_seq ?_
 refine c_block ?_
 refine r_seq (by kernel_rfl) ?_
 refine s_val (v_move (v := .int .i64 _) rfl) ?_
 refine s_val (v_assign (v := .int .i64 _) rfl) ?_
 refine s_nil ?_
 refine d_seq (by kernel_rfl) (by kernel_rfl) (fun w hw => hw.drew) (by kernel_rfl) ?_
 refine q_val (v_field (fo := 40) (by kernel_rfl) rfl) ?_
 refine q_val (v_load1 (v := .slice (some ⟨b, o, none⟩) _ _) (by kernel_rfl) rfl (.there .here) (by rw [H.at_pays, hpa])) ?_
 refine q_val (v_move (v := .int .i64 _) rfl) ?_
 refine q_val (v_idxS (size := 6) (k := .i64) (by kernel_rfl) rfl rfl ⟨by omega, by omega⟩) ?_
 refine q_val (v_loadNo (cs := p.cells) (m := 6) (by kernel_rfl) rfl rfl (hc j p hpk)) ?_
 refine q_val (v_field (fo := 40) (by kernel_rfl) rfl) ?_
 refine q_val (v_load1 (v := .slice (some ⟨b', o', none⟩) _ _) (by kernel_rfl) rfl .here (by rw [H.at_pays, hqa])) ?_
 refine q_val (v_move (v := .int .i64 _) rfl) ?_
 refine q_val (v_idxS (size := 6) (k := .i64) (by kernel_rfl) rfl rfl ⟨by omega, by omega⟩) ?_
 refine q_val (v_loadNo (cs := q.cells) (m := 6) (by kernel_rfl) rfl rfl (hc' j q hqk)) ?_
 refine q_val (v_neqFlat (n := 6) _ _ (by kernel_rfl) rfl rfl (PayS.cells_list _) (PayS.cells_list _) rfl rfl) ?_
 refine q_nil ?_
 refine c_condNR rfl rfl (fun h57 => ?_) (fun h57 => ?_)
 · refine c_skip ?_
   refine n_bnormal ?_
   refine n_then ?_
   refine r_list (by kernel_rfl) ?_
   refine s_val (v_add rfl rfl (by omega)) ?_
   refine s_val (v_move (v := .int .i64 _) rfl) ?_
   refine s_end ?_
   refine n_round (j + 1) ⟨_, ⟨by omega, same_step hinv ht ht2 h57⟩, live4 rfl rfl rfl rfl⟩ (fun _ hw => hw) (by omega)
 refine r_seq (by kernel_rfl) ?_
 refine s_val (v_assign (v := .bool _) rfl) ?_
 refine s_nil ?_
 refine c_ret ?_
 refine n_bret ?_
 refine n_ret ?_
 refine n_ret ?_
 refine n_bret ?_
 refine n_ret ?_
 refine n_done rfl (by decide) (Eq.trans (b := .bool _) rfl (congrArg Value.bool ?_))
 first | (have e := same_all hp.1 hq.1 h40 h45 hinv; simp only [sameB, *, Bool.true_and, Bool.false_and, Bool.and_true, Bool.and_false, Bool.not_true, Bool.not_false, Bool.true_or, Bool.or_true, Bool.false_or, Bool.or_false, cond_true, cond_false, if_true, if_false, Bool.false_eq_true, decide_true, decide_false]; done) | (have e := same_bad (F := At w) (h := h) (k := k) hpk hqk h57; simp only [sameB, *, Bool.true_and, Bool.false_and, Bool.and_true, Bool.and_false, Bool.not_true, Bool.not_false, Bool.true_or, Bool.or_true, Bool.false_or, Bool.or_false, cond_true, cond_false, if_true, if_false, Bool.false_eq_true, decide_true, decide_false]; done) | (simp only [sameB, *, Bool.true_and, Bool.false_and, Bool.and_true, Bool.and_false, Bool.not_true, Bool.not_false, Bool.true_or, Bool.or_true, Bool.false_or, Bool.or_false, cond_true, cond_false, if_true, if_false, Bool.false_eq_true, decide_true, decide_false]; done)
theorem gt_sameReply (c1 n1 c2 n2 : Int) (a1 a2 : Option Addr) (p1 p2 : Nat) (xs ys : List Int) (w : World) (hx : IntsAt (At w) a1 xs) (hy : IntsAt (At w) a2 ys) (hb : xs.length ≤ 9223372036854775807) : Gives Try.prog 7 [.agg (repC c1 n1 (.slice a1 xs.length p1)), .agg (repC c2 n2 (.slice a2 ys.length p2))] w (.bool (sameRB c1 n1 xs c2 n2 ys)) := by
 refine gives_of Try.func7 rfl Try.ntmps7 (by simp) ?_
 refine r_seq (by kernel_rfl) ?_
 refine s_box (v := .agg _) rfl (fun b2 => ?_)
 refine s_box (v := .agg _) rfl (fun b3 => ?_)
 refine s_val (v_assign (v := .bool _) rfl) ?_
 refine s_nil ?_
 refine c_seq ?_
 refine r_seq (by kernel_rfl) ?_
 refine s_val (v_field (fo := 0) (by kernel_rfl) rfl) ?_
 refine s_val (v_load1 (v := .int .i64 _) (by kernel_rfl) rfl (.there .here) rfl) ?_
 refine s_val (v_field (fo := 0) (by kernel_rfl) rfl) ?_
 refine s_val (v_load1 (v := .int .i64 _) (by kernel_rfl) rfl .here rfl) ?_
 refine s_val (v_neq (k := .i64) rfl rfl) ?_
 refine s_val (v_move (v := .bool _) rfl) ?_
 refine s_splitN (s := 11) rfl (fun h11 => ?_) (fun h11 => ?_)
 · refine s_pass rfl rfl (congrArg not h11) ?_
   refine s_pass rfl rfl (congrArg not h11) ?_
   refine s_pass rfl rfl (congrArg not h11) ?_
   refine s_pass rfl rfl (congrArg not h11) ?_
   refine s_pass rfl rfl (congrArg not h11) ?_
   refine s_val (v_pickT (v := .bool _) rfl (congrArg not h11) rfl) ?_
   refine s_val (v_move (v := .bool _) rfl) ?_
   refine s_pass (g := true) rfl rfl rfl ?_
   refine s_pass (g := true) rfl rfl rfl ?_
   refine s_pass (g := true) rfl rfl rfl ?_
   refine s_pass (g := true) rfl rfl rfl ?_
   refine s_pass (g := true) rfl rfl rfl ?_
   refine s_pass (g := true) rfl rfl rfl ?_
   refine s_pass (g := true) rfl rfl rfl ?_
   refine s_val (v_pickT (v := .bool _) rfl rfl rfl) ?_
   refine s_nil ?_
   refine c_condTh rfl rfl rfl ?_
   refine r_seq (by kernel_rfl) ?_
   refine s_val (v_assign (v := .bool _) rfl) ?_
   refine s_nil ?_
   refine c_ret ?_
   refine n_ret ?_
   refine n_done rfl (by decide) (Eq.trans (b := .bool _) rfl (congrArg Value.bool ?_))
   simp only [sameRB, *, Bool.true_and, Bool.false_and, Bool.and_true, Bool.and_false, Bool.not_true, Bool.not_false, Bool.true_or, Bool.or_true, Bool.false_or, Bool.or_false, cond_true, cond_false, if_true, if_false, Bool.false_eq_true, decide_true, decide_false]
 refine s_want rfl rfl (congrArg not h11) ?_
 refine s_val (v_field (fo := 1) (by kernel_rfl) rfl) ?_
 refine s_want rfl rfl (congrArg not h11) ?_
 refine s_val (v_load1 (v := .int .i64 _) (by kernel_rfl) rfl (.there .here) rfl) ?_
 refine s_want rfl rfl (congrArg not h11) ?_
 refine s_val (v_field (fo := 1) (by kernel_rfl) rfl) ?_
 refine s_want rfl rfl (congrArg not h11) ?_
 refine s_val (v_load1 (v := .int .i64 _) (by kernel_rfl) rfl .here rfl) ?_
 refine s_want rfl rfl (congrArg not h11) ?_
 refine s_val (v_neq (k := .i64) rfl rfl) ?_
 refine s_val (v_pickF (v := .bool _) rfl (congrArg not h11) rfl) ?_
 refine s_val (v_move (v := .bool _) rfl) ?_
 refine s_splitN (s := 18) rfl (fun h18 => ?_) (fun h18 => ?_)
 · refine s_pass rfl rfl (congrArg not h18) ?_
   refine s_pass rfl rfl (congrArg not h18) ?_
   refine s_pass rfl rfl (congrArg not h18) ?_
   refine s_pass rfl rfl (congrArg not h18) ?_
   refine s_pass rfl rfl (congrArg not h18) ?_
   refine s_pass rfl rfl (congrArg not h18) ?_
   refine s_pass rfl rfl (congrArg not h18) ?_
   refine s_val (v_pickT (v := .bool _) rfl (congrArg not h18) rfl) ?_
   refine s_nil ?_
   refine c_condTh rfl rfl rfl ?_
   refine r_seq (by kernel_rfl) ?_
   refine s_val (v_assign (v := .bool _) rfl) ?_
   refine s_nil ?_
   refine c_ret ?_
   refine n_ret ?_
   refine n_done rfl (by decide) (Eq.trans (b := .bool _) rfl (congrArg Value.bool ?_))
   simp only [sameRB, *, Bool.true_and, Bool.false_and, Bool.and_true, Bool.and_false, Bool.not_true, Bool.not_false, Bool.true_or, Bool.or_true, Bool.false_or, Bool.or_false, cond_true, cond_false, if_true, if_false, Bool.false_eq_true, decide_true, decide_false]
 refine s_want rfl rfl (congrArg not h18) ?_
 refine s_val (v_field (fo := 2) (by kernel_rfl) rfl) ?_
 refine s_want rfl rfl (congrArg not h18) ?_
 refine s_val (v_load1 (v := .slice _ _ _) (by kernel_rfl) rfl (.there .here) rfl) ?_
 refine s_want rfl rfl (congrArg not h18) ?_
 refine s_val (v_lenS (T := 30) (m := 1) (by kernel_rfl) rfl rfl) ?_
 refine s_want rfl rfl (congrArg not h18) ?_
 refine s_val (v_field (fo := 2) (by kernel_rfl) rfl) ?_
 refine s_want rfl rfl (congrArg not h18) ?_
 refine s_val (v_load1 (v := .slice _ _ _) (by kernel_rfl) rfl .here rfl) ?_
 refine s_want rfl rfl (congrArg not h18) ?_
 refine s_val (v_lenS (T := 30) (m := 1) (by kernel_rfl) rfl rfl) ?_
 refine s_want rfl rfl (congrArg not h18) ?_
 refine s_val (v_neq (k := .i64) rfl rfl) ?_
 refine s_val (v_pickF (v := .bool _) rfl (congrArg not h18) rfl) ?_
 refine s_nil ?_
 refine c_condN rfl rfl (fun h26 => ?_) (fun h26 => ?_)
 · refine r_seq (by kernel_rfl) ?_
   refine s_val (v_assign (v := .bool _) rfl) ?_
   refine s_nil ?_
   refine c_ret ?_
   refine n_ret ?_
   refine n_done rfl (by decide) (Eq.trans (b := .bool _) rfl (congrArg Value.bool ?_))
   have e := ints_len (of_decide_eq_false h26)
   simp only [sameRB, *, Bool.true_and, Bool.false_and, Bool.and_true, Bool.and_false, Bool.not_true, Bool.not_false, Bool.true_or, Bool.or_true, Bool.false_or, Bool.or_false, cond_true, cond_false, if_true, if_false, Bool.false_eq_true, decide_true, decide_false]
 refine c_skip ?_
 refine n_then ?_
 refine c_seq ?_
 refine r_seq (by kernel_rfl) ?_
 refine s_val (v_field (fo := 2) (by kernel_rfl) rfl) ?_
 refine s_val (v_load1 (v := .slice _ _ _) (by kernel_rfl) rfl (.there .here) rfl) ?_
 refine s_val (v_lenS (T := 30) (m := 1) (by kernel_rfl) rfl rfl) ?_
 refine s_val (v_move (v := .int .i64 _) rfl) ?_
 refine s_nil ?_
 refine c_block ?_
 refine c_loop (σ := Nat) (fun (j : Nat) f => ∃ g, (j ≤ xs.length ∧ xs.take j = ys.take j) ∧ f = (upd (upd (upd (upd g 2 (.pointer (some ⟨b2, 0, none⟩))) 3 (.pointer (some ⟨b3, 0, none⟩))) 29 (I xs.length)) 30 (I j))) (fun (j : Nat) => Has w (At w) [(b3, .cells (repC c2 n2 (.slice a2 ys.length p2)) 32), (b2, .cells (repC c1 n1 (.slice a1 xs.length p1)) 32)]) (fun (j : Nat) => xs.length - j) 0 ⟨_, ⟨Nat.zero_le _, rfl⟩, live4 rfl rfl rfl rfl⟩ (fun w hw => hw) ?_
 rintro j _ ⟨g, ⟨hjl, hinv⟩, rfl⟩
 refine r_seq (by kernel_rfl) ?_
 refine s_val (v_lss (k := .i64) rfl rfl) ?_
 refine s_nil ?_
 refine c_seq ?_
 refine c_condR rfl rfl (fun h31 => ?_) (fun h31 => ?_)
 · refine c_exit ?_
   refine n_exit ?_
   refine n_exit ?_
   refine n_bhere ?_
   refine n_then ?_
   refine r_seq (by kernel_rfl) ?_
   refine s_val (v_assign (v := .bool _) rfl) ?_
   refine s_nil ?_
   refine c_ret ?_
   refine n_done rfl (by decide) (Eq.trans (b := .bool _) rfl (congrArg Value.bool ?_))
   have e := ints_all (of_decide_eq_true h26) hinv (of_decide_eq_false h31)
   simp only [sameRB, *, Bool.true_and, Bool.false_and, Bool.and_true, Bool.and_false, Bool.not_true, Bool.not_false, Bool.true_or, Bool.or_true, Bool.false_or, Bool.or_false, cond_true, cond_false, if_true, if_false, Bool.false_eq_true, decide_true, decide_false]
 have hj0 := of_decide_eq_true h31
 have hll := of_decide_eq_true h26
 obtain ⟨b, o, x, ha1, hxj, hfx⟩ := hx.get (j := j) (by omega)
 obtain ⟨b', o', y, ha2, hyj, hfy⟩ := hy.get (j := j) (by omega)
 refine c_skip ?_
 refine n_then ?_
 refine c_seq ?_
 refine c_block ?_
 refine r_seq (by kernel_rfl) ?_
 refine s_val (v_move (v := .int .i64 _) rfl) ?_
 refine s_val (v_assign (v := .int .i64 _) rfl) ?_
 refine s_nil ?_
 refine d_seq (by kernel_rfl) (by kernel_rfl) (fun w hw => hw.drew) (by kernel_rfl) ?_
 refine q_val (v_field (fo := 2) (by kernel_rfl) rfl) ?_
 refine q_val (v_load1 (v := .slice _ _ _) (by kernel_rfl) rfl (.there .here) rfl) ?_
 refine q_val (v_move (v := .int .i64 _) rfl) ?_
 refine q_val (v_idxS (size := 1) (k := .i64) (by kernel_rfl) (congrArg (fun a => Value.slice a xs.length p1) ha1) rfl ⟨by omega, by omega⟩) ?_
 refine q_val (v_load1o (v := I x) (by kernel_rfl) rfl (by simpa using hfx)) ?_
 refine q_val (v_field (fo := 2) (by kernel_rfl) rfl) ?_
 refine q_val (v_load1 (v := .slice _ _ _) (by kernel_rfl) rfl .here rfl) ?_
 refine q_val (v_move (v := .int .i64 _) rfl) ?_
 refine q_val (v_idxS (size := 1) (k := .i64) (by kernel_rfl) (congrArg (fun a => Value.slice a ys.length p2) ha2) rfl ⟨by omega, by omega⟩) ?_
 refine q_val (v_load1o (v := I y) (by kernel_rfl) rfl (by simpa using hfy)) ?_
 refine q_val (v_neq (k := .i64) rfl rfl) ?_
 refine q_nil ?_
 refine c_condNR rfl rfl (fun h43 => ?_) (fun h43 => ?_)
 · refine c_skip ?_
   refine n_bnormal ?_
   refine n_then ?_
   refine r_list (by kernel_rfl) ?_
   refine s_val (v_add rfl rfl (by omega)) ?_
   refine s_val (v_move (v := .int .i64 _) rfl) ?_
   refine s_end ?_
   refine n_round (j + 1) ⟨_, ⟨by omega, same_take hinv hxj hyj (of_decide_eq_true h43)⟩, live4 rfl rfl rfl rfl⟩ (fun _ hw => hw) (by omega)
 refine r_seq (by kernel_rfl) ?_
 refine s_val (v_assign (v := .bool _) rfl) ?_
 refine s_nil ?_
 refine c_ret ?_
 refine n_bret ?_
 refine n_ret ?_
 refine n_ret ?_
 refine n_bret ?_
 refine n_ret ?_
 refine n_done rfl (by decide) (Eq.trans (b := .bool _) rfl (congrArg Value.bool ?_))
 have e := ints_bad hxj hyj (of_decide_eq_false h43)
 simp only [sameRB, *, Bool.true_and, Bool.false_and, Bool.and_true, Bool.and_false, Bool.not_true, Bool.not_false, Bool.true_or, Bool.or_true, Bool.false_or, Bool.or_false, cond_true, cond_false, if_true, if_false, Bool.false_eq_true, decide_true, decide_false]
theorem gt_same (bk : BankOk) (b1 b2 : Nat) (B1 B2 : List (Nat × Obj)) (s t : BankS) (w : World) (hg1 : BGood s) (hg2 : BGood t) (hr1 : bk.Rep (At w) b1 B1 s) (hr2 : bk.Rep (At w) b2 B2 t) (hl1 : Lies w B1) (hl2 : Lies w B2) (ha : Alike s t) : Gives Try.prog 8 [.pointer (some ⟨b1, 0, none⟩), .pointer (some ⟨b2, 0, none⟩)] w (.bool true) := by
 refine gives_of Try.func8 rfl Try.ntmps8 (by simp) ?_
 refine r_seq (by kernel_rfl) ?_
 refine s_val (v_assign (v := .bool _) rfl) ?_
 refine s_nil ?_
 refine r_seq (by kernel_rfl) ?_
 refine s_val (v_move (v := .pointer _) rfl) ?_
 refine s_call (by kernel_rfl) (fun w hw => bk.book w b1 B1 _ hg1 (bk.mono hr1 hw.at) (hl1.below hw.1)) ?_
 refine s_val (v_move (v := .tuple _) rfl) ?_
 refine s_val (v_extract rfl rfl) ?_
 refine s_val (v_extract rfl rfl) ?_
 refine s_val (v_assign (v := S _) rfl) ?_
 refine s_val (v_assign (v := .bool _) rfl) ?_
 refine s_nil ?_
 refine r_seq (by kernel_rfl) ?_
 refine s_val (v_move (v := .pointer _) rfl) ?_
 refine s_call (by kernel_rfl) (fun w hw => bk.book w b2 B2 _ hg2 (bk.mono hr2 hw.at) (hl2.below hw.1)) ?_
 refine s_val (v_move (v := .tuple _) rfl) ?_
 refine s_val (v_extract rfl rfl) ?_
 refine s_val (v_extract rfl rfl) ?_
 refine s_val (v_assign (v := S _) rfl) ?_
 refine s_val (v_assign (v := .bool _) rfl) ?_
 refine s_nil ?_
 refine r_seq (by kernel_rfl) ?_
 refine s_val (v_move (v := .pointer _) rfl) ?_
 refine s_callF (by kernel_rfl) (fun w1 hw => bk.house w1 b1 B1 _ hg1 (bk.mono hr1 (hw.at)) (hl1.below hw.1)) (fun F20 v20 E20 hF20 hK20 hR20 => ?_)
 obtain ⟨h20, rfl, hc20, ho20⟩ := hR20
 have hp20 := ho20.known hK20
 refine s_val (v_move (v := .pointer _) rfl) ?_
 refine s_callF (by kernel_rfl) (fun w1 hw => bk.house w1 b2 B2 _ hg2 (bk.mono hr2 (fun a v h => hw.at a v (hF20 a v h))) (hl2.below hw.1)) (fun F22 v22 E22 hF22 hK22 hR22 => ?_)
 obtain ⟨h22, rfl, hc22, ho22⟩ := hR22
 have hp22 := ho22.known hK22
 refine s_call (by kernel_rfl) (fun w hw => (by rw [← ha.2.1] at hp22; exact gt_sameHouse h20 s.ps h22 s.ps w ((hp20.mono hF22).at hw) (hp22.at hw) (by have := (bgood_inv hg1).1.len; have := hp20.1; omega))) ?_
 refine s_val (v_move (v := .bool _) rfl) ?_
 refine s_want rfl rfl (same_core (hc20.trans (ha.1.trans hc22.symm)) (hp20.1.symm.trans ((congrArg List.length ha.2.1).trans hp22.1))) ?_
 refine s_val (v_move (v := S _) rfl) ?_
 refine s_want rfl rfl (same_core (hc20.trans (ha.1.trans hc22.symm)) (hp20.1.symm.trans ((congrArg List.length ha.2.1).trans hp22.1))) ?_
 refine s_val (v_move (v := S _) rfl) ?_
 refine s_want rfl rfl (same_core (hc20.trans (ha.1.trans hc22.symm)) (hp20.1.symm.trans ((congrArg List.length ha.2.1).trans hp22.1))) ?_
 refine s_val (v_strEq rfl rfl (bgood_byt hg1) (bgood_byt hg2)) ?_
 refine s_val (v_pickT (v := .bool _) rfl (same_core (hc20.trans (ha.1.trans hc22.symm)) (hp20.1.symm.trans ((congrArg List.length ha.2.1).trans hp22.1))) rfl) ?_
 refine s_val (v_move (v := .bool _) rfl) ?_
 refine s_want rfl rfl (decide_eq_true ha.2.2.1) ?_
 refine s_val (v_move (v := .bool _) rfl) ?_
 refine s_want rfl rfl (decide_eq_true ha.2.2.1) ?_
 refine s_val (v_move (v := .bool _) rfl) ?_
 refine s_want rfl rfl (decide_eq_true ha.2.2.1) ?_
 refine s_val (v_eqlB (by kernel_rfl) rfl rfl) ?_
 refine s_val (v_pickT (v := .bool _) rfl (decide_eq_true ha.2.2.1) rfl) ?_
 refine s_val (v_assign (v := .bool _) rfl) ?_
 refine s_nil ?_
 refine c_ret ?_
 refine n_done rfl (by decide) (Eq.trans (b := .bool _) rfl (congrArg Value.bool ?_))
 rw [ha.2.2.2]; exact beq_self_eq_true _
end Go.Proofs.Ytmkboljfbmlebac
namespace Go.Proofs.Ytmkboljfbmlebac
open Go.RowKit
set_option linter.unusedSimpArgs false
set_option linter.unusedVariables false
structure Like (t s : BankS) (n : Nat) : Prop where
 c : t.c = s.c
 ps : t.ps = s.ps
 up : t.down = false
 acts : t.acts ≤ s.acts + n
theorem Like.trans {t s r : BankS} {n m : Nat} (a : Like t s n) (b : Like s r m) : Like t r (n + m) := ⟨a.c.trans b.c, a.ps.trans b.ps, a.up, by have := a.acts; have := b.acts; omega⟩
theorem Like.mono {t s : BankS} {n m : Nat} (a : Like t s n) (h : n ≤ m) : Like t s m := ⟨a.c, a.ps, a.up, by have := a.acts; omega⟩
structure EnG where
 k : Nat
 F : Addr → Value → Prop
 s : BankS
 B : List (Nat × Obj)
 B2 : List (Nat × Obj)
theorem zero_acts {s : BankS} {k : Nat} (h : s.acts = k) (hk : k < 200) : (doM s noAct).1.acts = k + 1 := by
 rw [do_acts, if_neg (by omega), h]
theorem min_len (n : Nat) : minI (n : Int) 80 = ((min n 80 : Nat) : Int) := by
 unfold minI; split <;> omega
end Go.Proofs.Ytmkboljfbmlebac
namespace Go.Proofs.Ytmkboljfbmlebac
open Go.RowKit
set_option linter.unusedSimpArgs false
set_option linter.unusedVariables false
set_option maxRecDepth 100000
attribute [local irreducible] cC sC nC rC qw
set_option maxHeartbeats 1000000 in
theorem law_TopEnds (bk : BankOk) (a0 : Option Addr) (c0 : Nat) (xs : List ActS) (a : ActS) (w : World) (hx : ActsAt (At w) a0 xs) (hlx : xs.length ≤ 9223372036854775807) : Gives Try.prog 3 [.slice a0 xs.length c0, .agg a.cells] w (.bool true) := by
 refine gives_of Try.func3 rfl Try.ntmps3 (by simp) ?_
 refine r_seq (by kernel_rfl) ?_
 refine s_box (v := .agg _) rfl (fun b3 => ?_)
 refine s_val (v_assign (v := .bool _) rfl) ?_
 refine s_nil ?_
 refine r_seq (by kernel_rfl) ?_
 refine s_val (v_move (v := .slice _ _ _) rfl) ?_
 refine s_callW (B := []) (by kernel_rfl) (g_play bk (fun _ : Unit => []) (fun _ _ _ _ => True) a0 c0 xs 5 [] (At w) () hx hlx trivial (fun _ _ => trivial) (by kernel_rfl) (looks_plain bk xs 5 (At w) (fun F1 s r x b B E a1 l1 c1 hg hr => look_quiet bk F1 s r x b B E a1 l1 c1 hg hr))) (fun F14 v14 B140 hF14 hR14 => ?_)
 obtain ⟨b14, B14, _, rfl, rfl, hr14, hg14, _⟩ := hR14
 refine s_weak (fun w1 hw => show Has w F14 (B14 ++ _) w1 from (by rw [List.append_nil] at hw; exact hw)) ?_
 refine s_val (v_move (v := .tuple _) rfl) ?_
 refine s_val (v_extract rfl rfl) ?_
 refine s_val (v_extract rfl rfl) ?_
 refine s_val (v_assign (v := .pointer _) rfl) ?_
 refine s_val (v_assign (v := .bool _) rfl) ?_
 refine s_nil ?_
 refine r_seq (by kernel_rfl) ?_
 refine s_val (v_move (v := .slice _ _ _) rfl) ?_
 refine s_callW (B := []) (by kernel_rfl) (g_play bk (fun _ : Unit => []) (fun _ _ _ _ => True) a0 c0 xs 5 [] F14 () (hx.mono hF14) hlx trivial (fun _ _ => trivial) (by kernel_rfl) (looks_plain bk xs 5 F14 (fun F1 s r x b B E a1 l1 c1 hg hr => look_quiet bk F1 s r x b B E a1 l1 c1 hg hr))) (fun F19 v19 B190 hF19 hR19 => ?_)
 obtain ⟨b19, B19, _, rfl, rfl, hr19, hg19, _⟩ := hR19
 refine s_weak (fun w1 hw => show Has w F19 (B19 ++ _) w1 from (by rw [List.append_nil] at hw; exact hw)) ?_
 refine s_val (v_move (v := .tuple _) rfl) ?_
 refine s_val (v_extract rfl rfl) ?_
 refine s_val (v_extract rfl rfl) ?_
 refine s_val (v_assign (v := .pointer _) rfl) ?_
 refine s_val (v_assign (v := .bool _) rfl) ?_
 refine s_nil ?_
 refine c_seq ?_
 refine r_seq (by kernel_rfl) ?_
 refine s_val (v_move (v := .bool _) rfl) ?_
 refine s_val (v_not rfl) ?_
 refine s_val (v_move (v := .bool _) rfl) ?_
 refine s_want rfl rfl (congrArg not rfl) ?_
 refine s_val (v_move (v := .bool _) rfl) ?_
 refine s_want rfl rfl (congrArg not rfl) ?_
 refine s_val (v_not rfl) ?_
 refine s_val (v_pickF (v := .bool _) rfl (congrArg not rfl) rfl) ?_
 refine s_nil ?_
 refine c_condFh rfl rfl (congrArg not rfl) ?_
 refine c_skip ?_
 refine n_then ?_
 refine c_seq ?_
 refine r_seq (by kernel_rfl) ?_
 refine s_val (v_move (v := .slice _ _ _) rfl) ?_
 refine s_val (v_lenS (T := 22) (m := 5) (by kernel_rfl) rfl rfl) ?_
 refine s_val ((v_min rfl rfl).to (congrArg (Value.int .i64) (min_len _))) ?_
 refine s_val (v_assign (v := .int .i64 _) rfl) ?_
 refine s_nil ?_
 refine c_block ?_
 refine c_loop (σ := EnG) (fun (t : EnG) f => ∃ g, (t.k ≤ 200 ∧ t.s.acts = t.k ∧ More F19 t.F ∧ BGood t.s ∧ bk.Rep t.F b14 t.B t.s ∧ bk.Rep t.F b19 t.B2 t.s) ∧ f = (upd (upd (upd (upd g 3 (.pointer (some ⟨b3, 0, none⟩))) 5 (.pointer (some ⟨b14, 0, none⟩))) 7 (.pointer (some ⟨b19, 0, none⟩))) 9 (I t.k))) (fun (t : EnG) => Has w t.F (t.B ++ (t.B2 ++ ((b3, .cells a.cells 24) :: [])))) (fun (t : EnG) => 200 - t.k) ⟨min xs.length 80, F19, (playM newB (xs.take 80)), B14, B19⟩ ⟨_, ⟨by dsimp only; omega, by dsimp only; rw [new_acts _ (by rw [List.length_take]; omega), List.length_take, Nat.min_comm], fun _ _ h => h, hg14, bk.mono hr14 hF19, hr19⟩, live4 rfl rfl rfl rfl⟩ (fun w1 hw => hw.perm perm_front) ?_
 rintro t _ ⟨g, ⟨hkl, hac, hmt, hgt, hr1t, hr2t⟩, rfl⟩
 refine c_seq ?_
 refine r_seq (by kernel_rfl) ?_
 refine s_val (v_move (v := .int .i64 _) rfl) ?_
 refine s_val (v_lss (k := .i64) rfl rfl) ?_
 refine s_nil ?_
 refine c_condR rfl rfl (fun h32 => ?_) (fun h32 => ?_)
 · refine c_exit ?_
   refine n_exit ?_
   refine n_exit ?_
   refine n_bhere ?_
   refine n_then ?_
   have hfd : (doM t.s a) = (t.s, errR 5) := full_do (by have := of_decide_eq_false h32; omega) a
   refine r_seq (by kernel_rfl) ?_
   refine s_val (v_move (v := .pointer _) rfl) ?_
   refine s_val (v_loadA (m := 5) (by kernel_rfl) rfl (.app (.app .here)) rfl) ?_
   refine s_do bk hgt hr1t rfl rfl (fun F53 v53 E53 B53 hF53 hi53 hr53 => ?_)
   obtain ⟨a53, c53, rfl, hl53, ho53⟩ := hi53
   refine s_val (v_build (vs := [(0, .int .i64 _)]) (cs := repC 5 0 (.slice none 0 0)) rfl (by kernel_rfl)) ?_
   refine s_call (by kernel_rfl) (fun w hw => gt_sameReply (doM t.s a).2.code (doM t.s a).2.n 5 0 a53 none c53 0 (doM t.s a).2.done [] w (IntsO.known ⟨a53, c53, rfl, hl53, ho53⟩ (at_known hw (fun _ hq => (List.mem_append_left _ hq)))) (.inl rfl) (by rw [hfd]; exact Nat.zero_le _)) ?_
   refine s_val (v_move (v := .bool _) rfl) ?_
   refine s_want rfl rfl (by rw [hfd]; rfl) ?_
   refine s_val (v_move (v := .pointer _) rfl) ?_
   refine s_want rfl rfl (by rw [hfd]; rfl) ?_
   refine s_val (v_move (v := .pointer _) rfl) ?_
   refine s_want rfl rfl (by rw [hfd]; rfl) ?_
   refine s_call (by kernel_rfl) (fun w hw => gt_same bk b14 b19 B53 t.B2 _ _ w (hgt.act a) hgt (bk.mono hr53 hw.at) (bk.mono (bk.mono hr2t hF53) hw.at) (lies_of hw (fun _ hq => (List.mem_append_right _ (List.mem_append_left _ hq)))) (lies_of hw (fun _ hq => (List.mem_append_right _ (List.mem_append_right _ (List.mem_append_left _ hq))))) (by rw [hfd]; exact Alike.refl _)) ?_
   refine s_val (v_pickT (v := .bool _) rfl (by rw [hfd]; rfl) rfl) ?_
   refine s_val (v_assign (v := .bool _) rfl) ?_
   refine s_nil ?_
   refine c_ret ?_
   refine n_done rfl (by decide) (Eq.trans (b := .bool _) rfl (congrArg Value.bool ?_))
   rfl
 have hk0 := of_decide_eq_true h32
 refine c_skip ?_
 refine n_then ?_
 refine c_seq ?_
 refine c_block ?_
 refine r_seq (by kernel_rfl) ?_
 refine s_val (v_move (v := .pointer _) rfl) ?_
 refine s_val (v_build (vs := []) (cs := noAct.cells) rfl (by kernel_rfl)) ?_
 refine s_do bk hgt hr1t rfl rfl (fun F37 v37 E37 B37 hF37 hi37 hr37 => ?_)
 obtain ⟨a37, c37, rfl, hl37, ho37⟩ := hi37
 refine s_val (v_move (v := .pointer _) rfl) ?_
 refine s_val (v_build (vs := []) (cs := noAct.cells) rfl (by kernel_rfl)) ?_
 refine s_weak (fun w1 hw => hw.perm (List.Perm.append_left E37 (perm_front (A := B37) (E := t.B2)))) ?_
 refine s_weak (fun w1 hw => hw.perm (perm_front (A := E37) (E := t.B2))) ?_
 refine s_do bk hgt (bk.mono hr2t hF37) rfl rfl (fun F40 v40 E40 B40 hF40 hi40 hr40 => ?_)
 obtain ⟨a40, c40, rfl, hl40, ho40⟩ := hi40
 refine s_alloc (z := .agg (repC 0 0 (.slice none 0 0))) (by kernel_rfl) (fun b10 => ?_)
 refine s_alloc (z := .agg (repC 0 0 (.slice none 0 0))) (by kernel_rfl) (fun b11 => ?_)
 refine s_storeA (m := 3) (by kernel_rfl) rfl rfl (.there .here) rfl rfl rep_all ?_
 refine s_storeA (m := 3) (by kernel_rfl) rfl rfl .here rfl rfl rep_all ?_
 refine s_nil ?_
 refine r_seq (by kernel_rfl) ?_
 refine s_val (v_field (fo := 0) (by kernel_rfl) rfl) ?_
 refine s_val (v_load1 (v := .int .i64 _) (by kernel_rfl) rfl (.there .here) rfl) ?_
 refine s_val (v_eql (k := .i64) rfl rfl) ?_
 refine s_val (v_move (v := .bool _) rfl) ?_
 refine s_want rfl rfl (decide_eq_false (zero_do hgt)) ?_
 refine s_val (v_field (fo := 0) (by kernel_rfl) rfl) ?_
 refine s_want rfl rfl (decide_eq_false (zero_do hgt)) ?_
 refine s_val (v_load1 (v := .int .i64 _) (by kernel_rfl) rfl (.there .here) rfl) ?_
 refine s_want rfl rfl (decide_eq_false (zero_do hgt)) ?_
 refine s_val (v_field (fo := 0) (by kernel_rfl) rfl) ?_
 refine s_want rfl rfl (decide_eq_false (zero_do hgt)) ?_
 refine s_val (v_load1 (v := .int .i64 _) (by kernel_rfl) rfl .here rfl) ?_
 refine s_want rfl rfl (decide_eq_false (zero_do hgt)) ?_
 refine s_val (v_neq (k := .i64) rfl rfl) ?_
 refine s_val (v_pickF (v := .bool _) rfl (decide_eq_false (zero_do hgt)) rfl) ?_
 refine s_nil ?_
 refine c_condFh rfl rfl (congrArg not (decide_eq_true rfl)) ?_
 refine c_skip ?_
 refine n_bnormal ?_
 refine n_then ?_
 refine r_list (by kernel_rfl) ?_
 refine s_val (v_move (v := .int .i64 _) rfl) ?_
 refine s_val (v_add rfl rfl (by omega)) ?_
 refine s_val (v_assign (v := .int .i64 _) rfl) ?_
 refine s_end ?_
 refine n_round (s := t) ⟨t.k + 1, F40, (doM t.s noAct).1, B37, B40⟩ ⟨_, ⟨by dsimp only; omega, zero_acts hac (by omega), fun a v h => hF40 a v (hF37 a v (hmt a v h)), hgt.act noAct, bk.mono hr37 hF40, hr40⟩, live4 rfl rfl rfl rfl⟩ (fun _ hw => (hw.sub (List.Sublist.cons _ (List.Sublist.cons _ (List.Sublist.trans (List.Sublist.append (List.Sublist.refl _) (List.Sublist.trans (List.Sublist.append (List.Sublist.refl _) (List.Sublist.cons_cons _ (List.Sublist.refl _))) (List.sublist_append_right _ _))) (List.sublist_append_right _ _))))).perm perm_front) (by dsimp only; omega)
end Go.Proofs.Ytmkboljfbmlebac
