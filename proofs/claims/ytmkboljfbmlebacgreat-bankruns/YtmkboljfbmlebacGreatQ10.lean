/- What the laws of this place stand on, part 10. Each part names its own conditions in what it states. -/
import Derived.Test.YtmkboljfbmlebacGreatQ9
import Derived.Test.YtmkboljfbmlebacGreatRows
namespace Go.Proofs.YtmkboljfbmlebacGreat
open Go.RowKit
set_option linter.unusedSimpArgs false
set_option linter.unusedVariables false
def GivesW (P : Program) (k : FuncId) (args : List Value) (F : Addr → Value → Prop) (B : List (Nat × Obj)) (R : (Addr → Value → Prop) → Value → List (Nat × Obj) → Prop) : Prop :=
 ∀ (w0 : World) (K : List (Nat × Obj)) (w : World), Has w0 F (B ++ K) w → Calls P k args.toArray w fun e w' => ∃ v B' F', e = .returned v ∧ More F F' ∧ Has w0 F' (B' ++ K) w' ∧ R F' v B'
def retW (w0 : World) (F : Addr → Value → Prop) (K : List (Nat × Obj)) (R : (Addr → Value → Prop) → Value → List (Nat × Obj) → Prop) : Value → World → Prop :=
 fun v w' => ∃ B' F', More F F' ∧ Has w0 F' (B' ++ K) w' ∧ R F' v B'
theorem givesW_of {P : Program} {k : FuncId} {fn : Func} {c : Code} {m : Nat} {args : List Value} {B : List (Nat × Obj)} {F : Addr → Value → Prop} {R : (Addr → Value → Prop) → Value → List (Nat × Obj) → Prop}
   (hf : P.funcs[k]? = some fn) (hb : fn.body = some c) (hn : fn.ntmps = m) (hl : args.length ≤ m)
   (h : ∀ w0 K, cC P m c (retQ P fn m (retW w0 F K R)) (argF args) (Has w0 F (B ++ K))) : GivesW P k args F B R := fun w0 K w hw => by
 refine calls_of_wp hf hb ?_
 rw [hn, Fa_args m args hl]
 refine wp_mono (h w0 K w hw) ?_
 rintro e a w' ⟨f, rfl, hr⟩
 cases e <;> simp only [retQ] at hr
 · obtain ⟨v, h1, B', F', h2, h3, h4⟩ := hr; exact ⟨rfl, v, h1, v, B', F', rfl, h2, h3, h4⟩
 · obtain ⟨v, h1, B', F', h2, h3, h4⟩ := hr; exact ⟨rfl, v, h1, v, B', F', rfl, h2, h3, h4⟩
section
variable {P : Program} {ops : Array Oper} {K : (Nat → Value) → World → Prop} {rest : List Oper} {f : Nat → Value} {d : Nat} {ty : TypeId} {pos : String} {af : Array Edge} {w0 : World} {F : Addr → Value → Prop} {B E L : List (Nat × Obj)}
theorem s_weak {C C' : World → Prop} (hc : ∀ w, C w → C' w) (h : sC P ops K rest f C') : sC P ops K rest f C := fun w hw => h w (hc w hw)
theorem s_callW {k : FuncId} {xs : List Operand} {ats : Array TypeId} {R : (Addr → Value → Prop) → Value → List (Nat × Obj) → Prop} (hk : hasBody P k = true) (hg : GivesW P k (xs.map (ev f)) F B R)
   (kk : ∀ (F' : Addr → Value → Prop) (v : Value) (B' : List (Nat × Obj)), More F F' → R F' v B' → sC P ops K rest (upd f d v) (Has w0 F' (B' ++ L))) :
   sC P ops K (⟨some d, .call ⟨.value (.func k), xs.toArray, ats⟩, ty, pos, af, none⟩ :: rest) f (Has w0 F (B ++ L)) := by
 intro w hw
 unfold sw
 rw [if_pos wanted_free]
 unfold opk
 rw [run_call hk w]
 exact (hg w0 L w hw).mono fun e w' ⟨v, B', F', he, hm, h', hr⟩ => ⟨_, he, kk F' v B' hm hr w' h'⟩
theorem s_pushM {T e m by_ n mm c : Nat} {ats : Array TypeId} {x y : Operand} {v : Value} {xs news : List Value} {b o : Nat} (hT : rowB P T e m by_ = true) (hm : Nat.ble 1 m = true) (hbb : Nat.ble 1 by_ = true) (hat : ats = #[T, T])
   (hx : ev f x = v) (hy : ev f y = .slice (some ⟨b, o, none⟩) mm c) (hE : ListE e m v n xs E) (hl : news.length = mm * m) (hnews : ∀ w, Has w0 F (E ++ L) w → ∀ j u, news[j]? = some u → w.cell? ⟨b, o + j, none⟩ = some u) (h1 : ∀ u ∈ news, u.oneCell' = true) (hpos : 0 < mm) (hbytes : (n + mm) * by_ ≤ 140737488355328)
   (kk : ∀ v' E', ListE e m v' (n + mm) (xs ++ news) E' → sC P ops K rest (upd f d v') (Has w0 F (E' ++ L))) :
   sC P ops K (⟨some d, .call ⟨.builtin .append, #[x, y], ats⟩, ty, pos, af, none⟩ :: rest) f (Has w0 F (E ++ L)) := by
 intro w hw
 subst hat
 unfold sw
 rw [if_pos wanted_free]
 unfold opk
 obtain ⟨v', E', w', hr, hE', hw'⟩ := run_appendE (P := P) (w0 := w0) (F := F) (L := L) (c := c) (ty := ty) (b := b) (o := o) (mm := mm) (news := news) hT (Nat.le_of_ble_eq_true hm) hE hw hl (hnews w hw) h1 hpos hbytes (Nat.le_of_ble_eq_true hbb)
 have : (execOp (ev f) ⟨some d, .call ⟨.builtin .append, #[x, y], #[T, T]⟩, ty, pos, af, none⟩).run P w = .ok (.value v') w' := by
   simp [execOp, resolve, invoke, builtin, hx, hy, hr]
 rw [this]
 exact kk v' E' hE' w' hw'
theorem s_pushN {T e m by_ n mm : Nat} {ats : Array TypeId} {x y : Operand} {v : Value} {xs : List Value} {b : Nat} {cs : Array Value} (hT : rowB P T e m by_ = true) (hm : Nat.ble 1 m = true) (hbb : Nat.ble 1 by_ = true) (hat : ats = #[T, T])
   (hx : ev f x = v) (hy : ev f y = .slice (some ⟨b, 0, none⟩) mm mm) (hE : ListE e m v n xs E) (hs : cs.size = mm * m) (h1 : cs.all (·.oneCell') = true) (hpos : 0 < mm) (hbytes : (n + mm) * by_ ≤ 140737488355328)
   (kk : ∀ v' E', ListE e m v' (n + mm) (xs ++ cs.toList) E' → sC P ops K rest (upd f d v') (Has w0 F (E' ++ L))) :
   sC P ops K (⟨some d, .call ⟨.builtin .append, #[x, y], ats⟩, ty, pos, af, none⟩ :: rest) f (Has w0 F ((b, .cells cs e) :: (E ++ L))) := by
 intro w hw
 subst hat
 unfold sw
 rw [if_pos wanted_free]
 unfold opk
 obtain ⟨v', E', w', hr, hE', hw'⟩ := run_appendE (P := P) (w0 := w0) (F := F) (L := L) (c := mm) (ty := ty) (b := b) (o := 0) (mm := mm) (news := cs.toList) hT (Nat.le_of_ble_eq_true hm) hE hw.tail (by simp [hs]) (fun j u hj => by
   rw [Nat.zero_add, cell_has hw .here]; simpa using hj) (fun u hu => by rw [Array.all_eq_true_iff_forall_mem] at h1; exact h1 u (by simpa using hu)) hpos hbytes (Nat.le_of_ble_eq_true hbb)
 have : (execOp (ev f) ⟨some d, .call ⟨.builtin .append, #[x, y], #[T, T]⟩, ty, pos, af, none⟩).run P w = .ok (.value v') w' := by
   simp [execOp, resolve, invoke, builtin, hx, hy, hr]
 rw [this]
 exact kk v' E' hE' w' hw'
end
def u8s (l : List Nat) : List Value := l.map fun n : Nat => U8 (n : Int)
theorem u8s_len (l : List Nat) : (u8s l).length = l.length := by simp [u8s]
theorem u8s_append (l m : List Nat) : u8s (l ++ m) = u8s l ++ u8s m := by simp [u8s]
theorem u8s_one (l : List Nat) : ∀ u ∈ u8s l, u.oneCell' = true := fun u hu => by
 obtain ⟨q, _, rfl⟩ := List.mem_map.1 hu
 rfl
def BytesAt (F : Addr → Value → Prop) (a : Option Addr) (l : List Nat) : Prop := l = [] ∨ ∃ b o, a = some ⟨b, o, none⟩ ∧ ∀ (j m : Nat), l[j]? = some m → F ⟨b, o + j, none⟩ (U8 m)
theorem BytesAt.get {F : Addr → Value → Prop} {a : Option Addr} {l : List Nat} (h : BytesAt F a l) {j : Nat} (hj : j < l.length) : ∃ b o m, a = some ⟨b, o, none⟩ ∧ l[j]? = some m ∧ F ⟨b, o + j, none⟩ (U8 m) := by
 rcases h with rfl | ⟨b, o, h1, h2⟩
 · simp at hj
 · exact ⟨b, o, l[j], h1, by simp [hj], h2 j _ (by simp [hj])⟩
abbrev Bytes (e : Nat) (v : Value) (l : List Nat) (E : List (Nat × Obj)) : Prop := ListE e 1 v l.length (u8s l) E
theorem byts_nil (e : Nat) : Bytes e (.slice none 0 0) [] [] := listE_nil e 1
theorem Bytes.block {e : Nat} {v : Value} {l : List Nat} {E : List (Nat × Obj)} (h : Bytes e v l E) (h0 : 0 < l.length) : ∃ g c cs, v = .slice (some ⟨g, 0, none⟩) l.length c ∧ E = [(g, .cells cs e (0, 0))] ∧ ∀ (j m : Nat), l[j]? = some m → cs[j]? = some (U8 m) := by
 rcases h.2 with ⟨rfl, h2, rfl⟩ | ⟨g, cap, cur, rfl, rfl, h3, h4, h5, h6⟩
 · omega
 · refine ⟨g, cap, cur, rfl, rfl, fun j m hj => ?_⟩
   have e1 : (u8s l)[j]? = some (U8 m) := by simp [u8s, hj]
   rw [← h6, List.getElem?_take] at e1
   split at e1
   · simpa using e1
   · cases e1
theorem byts_one (e b n : Nat) : Bytes e (.slice (some ⟨b, 0, none⟩) 1 1) [n] [(b, .cells #[U8 (n : Int)] e)] :=
 ⟨rfl, .inr ⟨b, 1, #[U8 (n : Int)], rfl, rfl, Nat.le_refl _, by decide, rfl, rfl⟩⟩
section
variable {P : Program} {f : Nat → Value} {dst : Option Nat} {ty : TypeId} {pos : String} {af : Array Edge} {gd : Option (Nat × Bool)} {w0 : World} {F : Addr → Value → Prop} {C : World → Prop} {E L : List (Nat × Obj)}
theorem v_strOfE {x : Operand} {Sx T e : Nat} {v : Value} {l : List Nat} (hS : bytesB P Sx = true) (hT : strB P T = true) (hx : ev f x = v) (hE : Bytes e v l E) (h0 : 0 < l.length) (hb : Byt l) :
   Val P f (Has w0 F (E ++ L)) ⟨dst, .convert Sx T x, ty, pos, af, gd⟩ (S l) := by
 obtain ⟨g, c, cs, rfl, rfl, hc⟩ := hE.block h0
 exact v_strOf hS hT hx rfl (.here) hb hc
theorem v_shl {x y : Operand} {t t' : TypeId} {a b c : Int} (hx : ev f x = .int .i64 a) (hy : ev f y = .int .i64 b) (hb : 0 ≤ b ∧ b ≤ 64) (hc : IntKind.i64.wrap (a * 2 ^ b.toNat) = c) : Val P f C ⟨dst, .binOp .shl t x y t', ty, pos, af, gd⟩ (.int .i64 c) :=
 ⟨fun w _ => by
   have h1 := shift_shl .i64 .i64 a b hb.1 (show b ≤ 64 from hb.2)
   rw [hc] at h1
   simp [execOp, hx, hy, eqGuard, binOp, h1]
   exact hc⟩
end
section
variable {P : Program} {fn : Func} {n t t2 t3 T b m ty : Nat} {fr : Nat × Nat} {cs : Array Value} {f : Nat → Value} {v : Value} {w0 : World} {F F0 : Addr → Value → Prop} {L K B' : List (Nat × Obj)} {R : (Addr → Value → Prop) → Value → List (Nat × Obj) → Prop}
theorem n_doneW (hr : fn.results = #[.tmp t]) (ht : t < n) (hm : More F0 F) (hs : ∀ w, Has w0 F L w → Has w0 F (B' ++ K) w) (hv : R F (f t) B') : nC (retQ P fn n (retW w0 F0 K R)) .ret f (Has w0 F L) :=
 fun w hw => ⟨f t, results_one hr ht w, B', F, hm, hs w hw, hv⟩
theorem n_done3 (hr : fn.results = #[.tmp t, .tmp t2, .tmp t3]) (ht : t < n) (ht2 : t2 < n) (ht3 : t3 < n) (hv : .tuple #[f t, f t2, f t3] = v) :
   nC (retQ P fn n (fun v' w' => v' = v ∧ Bel w0.heap.size w0 w')) .ret f (Has w0 F L) := fun w hw => by
 refine ⟨.tuple #[f t, f t2, f t3], ?_, hv, hw.1⟩
 have e : (Fa n f).tmps[t]?.getD undef = f t := by simp [Fa, ht]
 have e2 : (Fa n f).tmps[t2]?.getD undef = f t2 := by simp [Fa, ht2]
 have e3 : (Fa n f).tmps[t3]?.getD undef = f t3 := by simp [Fa, ht3]
 simp [results, hr, e, e2, e3]
theorem n_doneCT (hr : fn.results = #[.cell t T, .tmp t2]) (ht : t < n) (ht2 : t2 < n) (hp : f t = .pointer (some ⟨b, 0, none⟩))
   (hT : aggB P T m = true) (hl : Look L b (.cells cs ty fr)) (hm : cs.size = m) (hv : .tuple #[.agg cs, f t2] = v) : nC (retQ P fn n (fun v' w' => v' = v ∧ Bel w0.heap.size w0 w')) .ret f (Has w0 F L) := fun w hw => by
 refine ⟨.tuple #[.agg cs, f t2], ?_, hv, hw.1⟩
 have e : (Fa n f).tmps[t]?.getD undef = f t := by simp [Fa, ht]
 have e2 : (Fa n f).tmps[t2]?.getD undef = f t2 := by simp [Fa, ht2]
 subst hm
 have := run_loadN (P := P) (w := w) (b := b) (o := 0) (cs := cs.toList) (by simpa using hT) (fun j v hj => by
   rw [cell_has hw hl]; simpa using hj)
 simp only [Instr.loadAt, Instr.sureAddr, Sem.run_bind, Sem.run_pure, Result.andThen] at this
 simp [results, hr, e, e2, hp, asAddr, this]
theorem n_doneCTT (hr : fn.results = #[.cell t T, .tmp t2, .tmp t3]) (ht : t < n) (ht2 : t2 < n) (ht3 : t3 < n) (hp : f t = .pointer (some ⟨b, 0, none⟩))
   (hT : aggB P T m = true) (hl : Look L b (.cells cs ty fr)) (hm : cs.size = m) (hv : .tuple #[.agg cs, f t2, f t3] = v) : nC (retQ P fn n (fun v' w' => v' = v ∧ Bel w0.heap.size w0 w')) .ret f (Has w0 F L) := fun w hw => by
 refine ⟨.tuple #[.agg cs, f t2, f t3], ?_, hv, hw.1⟩
 have e : (Fa n f).tmps[t]?.getD undef = f t := by simp [Fa, ht]
 have e2 : (Fa n f).tmps[t2]?.getD undef = f t2 := by simp [Fa, ht2]
 have e3 : (Fa n f).tmps[t3]?.getD undef = f t3 := by simp [Fa, ht3]
 subst hm
 have := run_loadN (P := P) (w := w) (b := b) (o := 0) (cs := cs.toList) (by simpa using hT) (fun j v hj => by
   rw [cell_has hw hl]; simpa using hj)
 simp only [Instr.loadAt, Instr.sureAddr, Sem.run_bind, Sem.run_pure, Result.andThen] at this
 simp [results, hr, e, e2, e3, hp, asAddr, this]
end
theorem Has.less {w0 w : World} {F F' : Addr → Value → Prop} {L : List (Nat × Obj)} (h : Has w0 F' L w) (hm : More F F') : Has w0 F L w := ⟨h.1, h.2.1, h.2.2.1, fun a v hF => h.2.2.2 a v (hm a v hF)⟩
theorem s_callB {P : Program} {ops : Array Oper} {K : (Nat → Value) → World → Prop} {rest : List Oper} {f : Nat → Value} {d : Nat} {ty : TypeId} {pos : String} {af : Array Edge} {w0 : World} {F : Addr → Value → Prop} {B L : List (Nat × Obj)}
   {k : FuncId} {xs : List Operand} {ats : Array TypeId} {R : Value → List (Nat × Obj) → Prop} (hk : hasBody P k = true) (hg : GivesW P k (xs.map (ev f)) F B (fun _ v B' => R v B'))
   (kk : ∀ (v : Value) (B' : List (Nat × Obj)), R v B' → sC P ops K rest (upd f d v) (Has w0 F (B' ++ L))) :
   sC P ops K (⟨some d, .call ⟨.value (.func k), xs.toArray, ats⟩, ty, pos, af, none⟩ :: rest) f (Has w0 F (B ++ L)) :=
 s_callW hk hg fun _ v B' hm hr => s_weak (fun _ hw => hw.less hm) (kk v B' hr)
theorem Bytes.snoc {e : Nat} {v : Value} {l : List Nat} {E : List (Nat × Obj)} {x : Int} {b : Nat} (h : ListE e 1 v (l.length + 1) (u8s l ++ (U8 x).cells.toList) E) (hx : x = (b : Int)) : Bytes e v (l ++ [b]) E := by
 subst hx
 unfold Bytes
 rw [u8s_append, List.length_append]
 exact h
theorem Bytes.push {e : Nat} {v : Value} {l m : List Nat} {E : List (Nat × Obj)} (h : ListE e 1 v (l.length + m.length) (u8s l ++ u8s m) E) : Bytes e v (l ++ m) E := by
 unfold Bytes
 rw [u8s_append, List.length_append]
 exact h
def bodyTo (a : ActS) (k : Nat) : List Nat := (a.list.take k).flatMap fun n => digs (zig n)
theorem body_five (a : ActS) : bodyTo a 5 = bodyOf a := by simp [bodyTo, bodyOf, ActS.list]
theorem body_step {a : ActS} {k : Nat} {n : Int} (h : a.list[k]? = some n) : bodyTo a (k + 1) = bodyTo a k ++ digs (zig n) := by
 unfold bodyTo
 rw [List.take_add_one, h]; simp
theorem noted_list {a : ActS} (h : noted a = true) {k : Nat} {n : Int} (hk : a.list[k]? = some n) : notedI n = true := by
 obtain ⟨h1, h2, h3, h4, h5⟩ := noted_all h
 have := List.mem_of_getElem? hk
 simp only [ActS.list, List.mem_cons, List.not_mem_nil, or_false] at this
 rcases this with rfl | rfl | rfl | rfl | rfl <;> assumption
theorem body_room {a : ActS} (h : noted a = true) : ∀ k, (bodyTo a k).length ≤ 5 * k
 | 0 => by simp [bodyTo]
 | k + 1 => by
   have ih := body_room h k
   cases hk : a.list[k]? with
   | none => unfold bodyTo at ih ⊢; rw [List.take_add_one, hk]; simp only [Option.toList_none, List.append_nil]; omega
   | some n =>
     have := digs_len5 (noted_list h hk)
     rw [body_step hk, List.length_append]; omega
theorem ActS.get (a : ActS) {k : Nat} (hk : k < 5) : ∃ n, a.list[k]? = some n ∧ a.cells[((k : Nat) : Int).toNat * 1]? = some (I n) := by
 have : k = 0 ∨ k = 1 ∨ k = 2 ∨ k = 3 ∨ k = 4 := by omega
 rcases this with rfl | rfl | rfl | rfl | rfl <;> exact ⟨_, rfl, rfl⟩
structure FB where
 k : Nat
 v : Value
 E : List (Nat × Obj)
structure AN where
 u : Nat
 m : List Nat
 v : Value
 E : List (Nat × Obj)
structure Dig5 (t : List Nat) (j u : Nat) : Prop where
 j5 : j ≤ 5
 ub : u < 128 ^ j
 jl : j ≤ t.length
 rel : undig 5 t = (undig (5 - j) (t.drop j)).map fun p => (u + 128 ^ j * p.1, p.2)
theorem dig5_start (t : List Nat) : Dig5 t 0 0 := ⟨by omega, by decide, by omega, by
 simp only [Nat.sub_zero, List.drop_zero, Nat.pow_zero, Nat.one_mul, Nat.zero_add]
 cases undig 5 t <;> rfl⟩
theorem Dig5.step {t : List Nat} {j u b : Nat} (o : Dig5 t j u) (hb : t[j]? = some b) (h1 : ¬ b < 128) (h2 : b < 256) (hj : j < 5) : Dig5 t (j + 1) (u + b % 128 * 128 ^ j) := by
 have e : b % 128 = b - 128 := by omega
 rw [e]
 refine ⟨by omega, ?_, (List.getElem?_eq_some_iff.1 hb).1, ?_⟩
 · have := o.ub
   have h3 : (b - 128) * 128 ^ j ≤ 127 * 128 ^ j := Nat.mul_le_mul_right _ (by omega)
   rw [Nat.pow_succ]; omega
 · rw [o.rel, drop_cons hb, show 5 - j = (5 - (j + 1)) + 1 by omega, undig, if_neg (by omega)]
   cases undig (5 - (j + 1)) (t.drop (j + 1)) with
   | none => rfl
   | some p =>
     simp only [Option.map_some]
     congr 2
     rw [Nat.mul_add, Nat.pow_succ, ← Nat.mul_assoc, Nat.mul_comm (128 ^ j) (b - 128), Nat.add_assoc]
theorem Dig5.stop {t : List Nat} {j u : Nat} (o : Dig5 t j u) (h : t.length ≤ j ∨ 5 ≤ j) : undig 5 t = none := by
 have h5 := o.j5
 rw [o.rel]
 by_cases e : j = 5
 · subst e; rfl
 · rw [List.drop_eq_nil_of_le (by omega), show 5 - j = (4 - j) + 1 by omega]; rfl
theorem Dig5.last {t : List Nat} {j u b : Nat} (o : Dig5 t j u) (hb : t[j]? = some b) (h1 : b < 128) (hj : j < 5) : undig 5 t = some (u + b % 128 * 128 ^ j, t.drop (j + 1)) := by
 rw [Nat.mod_eq_of_lt h1, o.rel, drop_cons hb, show 5 - j = (4 - j) + 1 by omega, undig, if_pos h1, Option.map_some, Nat.mul_comm (128 ^ j) b]
theorem pow5 {j : Nat} (h : j < 5) : 128 ^ j ≤ 268435456 ∧ (2 : Int) ^ ((7 : Int) * ((j : Nat) : Int)).toNat = ((128 ^ j : Nat) : Int) := by
 have : j = 0 ∨ j = 1 ∨ j = 2 ∨ j = 3 ∨ j = 4 := by omega
 rcases this with rfl | rfl | rfl | rfl | rfl <;> exact ⟨by decide, rfl⟩
theorem dig5_fits {b p : Nat} (hp : p ≤ 268435456) : b % 128 * p ≤ 34359738368 := by
 have : b % 128 * p ≤ 127 * 268435456 := Nat.mul_le_mul (by omega) hp
 omega
theorem shl5 {b j : Nat} (hj : j < 5) : IntKind.i64.wrap (((b % 128 : Nat) : Int) * 2 ^ ((7 : Int) * ((j : Nat) : Int)).toNat) = ((b % 128 * 128 ^ j : Nat) : Int) := by
 rw [(pow5 hj).2, ← Int.natCast_mul]
 have := dig5_fits (b := b) (pow5 hj).1
 exact wr_in (by omega) (by omega)
def rnV (l : List Nat) : Int := match undig 5 l with
 | none => 0
 | some p => zag p.1
def rnK (l : List Nat) : Nat := match undig 5 l with
 | none => 0
 | some p => l.length - p.2.length
def rnB (l : List Nat) : Bool := (undig 5 l).isSome
def numR (l : List Nat) : Value := .tuple #[I (rnV l), I (rnK l : Nat), .bool (rnB l)]
theorem numR_no {l : List Nat} (h : undig 5 l = none) : .tuple #[I 0, I 0, .bool false] = numR l := by simp [numR, rnV, rnK, rnB, h]
theorem numR_yes {l : List Nat} {u j : Nat} (h : undig 5 l = some (u, l.drop (j + 1))) (hj : j < l.length) : .tuple #[I (zag u), I ((j : Int) + 1), .bool true] = numR l := by
 simp only [numR, rnV, rnK, rnB, h, Option.isSome_some, List.length_drop]
 congr 5
 omega
theorem zag_odd5 {u : Nat} (h : ¬ ((u % 2 : Nat) : Int) = 0) : (-((u : Int) + 1)).tdiv 2 = zag u := by
 unfold zag
 rw [if_pos (by omega), Int.neg_tdiv, show ((u : Int) + 1).tdiv 2 = (((u + 1) / 2 : Nat) : Int) from tdiv_nat (u + 1) 2]
 omega
theorem zag_even5 {u : Nat} (h : ((u % 2 : Nat) : Int) = 0) : ((u / 2 : Nat) : Int) = zag u := by unfold zag; rw [if_neg (by omega)]
theorem zag_bound (u : Nat) : -(u : Int) - 1 ≤ zag u ∧ zag u ≤ u := by unfold zag; split <;> omega
theorem undig_drop : ∀ (f : Nat) {l : List Nat} {u : Nat} {r : List Nat}, undig f l = some (u, r) → ∃ k, k ≤ l.length ∧ r = l.drop k
 | 0, l, u, r, h => by simp [undig] at h
 | f + 1, [], u, r, h => by simp [undig] at h
 | f + 1, b :: l, u, r, h => by
   unfold undig at h
   split at h
   · simp at h
     exact ⟨1, by simp, h.2.symm⟩
   · cases hq : undig f l with
     | none => rw [hq] at h; cases h
     | some p =>
       rw [hq] at h
       simp at h
       obtain ⟨k, h2, h3⟩ := undig_drop f (show undig f l = some (p.1, p.2) from hq)
       exact ⟨k + 1, by simp only [List.length_cons]; omega, by rw [← h.2, h3]; rfl⟩
theorem rn_yes {l : List Nat} (h : rnB l = true) : ∃ u, undig 5 l = some (u, l.drop (rnK l)) ∧ rnV l = zag u ∧ rnK l ≤ l.length := by
 unfold rnB at h
 cases hq : undig 5 l with
 | none => rw [hq] at h; cases h
 | some p =>
   obtain ⟨k, h2, h3⟩ := undig_drop 5 (show undig 5 l = some (p.1, p.2) from hq)
   have e : rnK l = k := by
     simp only [rnK, hq, h3, List.length_drop]; omega
   refine ⟨p.1, by rw [e, ← h3], by simp [rnV, hq], by omega⟩
theorem rn_no {l : List Nat} (h : rnB l = false) : undig 5 l = none := by
 unfold rnB at h
 cases hq : undig 5 l with
 | none => rfl
 | some p => rw [hq] at h; cases h
def nums5 : Nat → List Nat → Option (List Nat × List Nat)
 | 0, l => some ([], l)
 | k + 1, l => match nums5 k l with
   | none => none
   | some (us, t) => (undig 5 t).map fun p => (us ++ [p.1], p.2)
theorem nums5_step {k : Nat} {l us t : List Nat} (h : nums5 k l = some (us, t)) : nums5 (k + 1) l = (undig 5 t).map fun p => (us ++ [p.1], p.2) := by simp only [nums5, h]
theorem nums5_none {k : Nat} {l : List Nat} (h : nums5 k l = none) : ∀ m, nums5 (k + m) l = none
 | 0 => h
 | m + 1 => by
   have := nums5_none h m
   rw [show k + (m + 1) = (k + m) + 1 by omega]
   simp only [nums5, this]
theorem nums5_body {x : ActS} (h : noted x = true) (r : List Nat) : nums5 5 (bodyOf x ++ r) = some ([zig x.kind, zig x.a, zig x.b, zig x.c, zig x.n], r) := by
 obtain ⟨h1, h2, h3, h4, h5⟩ := noted_all h
 have e1 := undig_digs 4 _ (digs (zig x.a) ++ (digs (zig x.b) ++ (digs (zig x.c) ++ (digs (zig x.n) ++ r)))) (zig_lt h1)
 have e2 := undig_digs 4 _ (digs (zig x.b) ++ (digs (zig x.c) ++ (digs (zig x.n) ++ r))) (zig_lt h2)
 have e3 := undig_digs 4 _ (digs (zig x.c) ++ (digs (zig x.n) ++ r)) (zig_lt h3)
 have e4 := undig_digs 4 _ (digs (zig x.n) ++ r) (zig_lt h4)
 have e5 := undig_digs 4 _ r (zig_lt h5)
 simp only [nums5, bodyOf, List.append_assoc]
 simp only [e1, e2, e3, e4, e5, Option.map_some]
 rfl
def gNums (l : List Nat) : Option (List Nat × List Nat) := nums5 5 (l.drop 1)
def zeroA : ActS := ⟨0, 0, 0, 0, 0⟩
def gAct (l : List Nat) : ActS := match gNums l with
 | none => zeroA
 | some p => actOf p.1
def gOk (l : List Nat) : Bool := (gNums l).isSome
def guessR (l : List Nat) : Value := .tuple #[.agg (gAct l).cells, .bool (gOk l)]
theorem guess_no {l : List Nat} (h : gNums l = none) : .tuple #[.agg zeroA.cells, .bool false] = guessR l := by simp [guessR, gAct, gOk, h]
theorem guess_yes {l us t : List Nat} (h : gNums l = some (us, t)) (hu : us.length = 5) : .tuple #[.agg (act5 us).cells, .bool true] = guessR l := by simp [guessR, gAct, gOk, h, act5_of hu]
structure GS where
 k : Nat
 us : List Nat
 rest : List Nat
structure GsOk (B : List Nat) (s : GS) : Prop where
 k5 : s.k ≤ 5
 ul : s.us.length = s.k
 run : nums5 s.k B = some (s.us, s.rest)
 byt : Byt s.rest
 len : s.rest.length ≤ B.length
theorem GsOk.start {l : List Nat} (hb : Byt l) : GsOk (l.drop 1) ⟨0, [], l.drop 1⟩ := ⟨Nat.zero_le _, rfl, rfl, hb.drop 1, Nat.le_refl _⟩
theorem GsOk.next {B : List Nat} {s : GS} (o : GsOk B s) (hk : s.k < 5) {u : Nat} (hu : undig 5 s.rest = some (u, s.rest.drop (rnK s.rest))) : GsOk B ⟨s.k + 1, s.us ++ [u], s.rest.drop (rnK s.rest)⟩ := by
 have h1 := o.len
 refine ⟨hk, by simp [o.ul], ?_, o.byt.drop _, by simp only [List.length_drop]; omega⟩
 rw [nums5_step o.run, hu]; rfl
theorem GsOk.gone {B : List Nat} {s : GS} (o : GsOk B s) (hk : s.k < 5) (hu : undig 5 s.rest = none) : nums5 5 B = none := by
 have h1 : nums5 (s.k + 1) B = none := by rw [nums5_step o.run, hu]; rfl
 have := nums5_none h1 (4 - s.k)
 rwa [show s.k + 1 + (4 - s.k) = 5 by omega] at this
theorem guess_nil {l : List Nat} (h : l = []) : gNums l = none := by subst h; rfl
theorem stands_nums {x : ActS} {l : List Nat} (h : Stands x l) : ∃ t, gNums l = some ([zig x.kind, zig x.a, zig x.b, zig x.c, zig x.n], t) := by
 obtain ⟨nx, r, hr⟩ := h
 have e : l.drop 1 = bodyOf x ++ ([(sumOf (bodyOf x)).1 % 251, (sumOf (bodyOf x)).2 % 251] ++ r) := by rw [← hr]; simp [frameOf]
 exact ⟨_, by unfold gNums; rw [e]; exact nums5_body nx _⟩
theorem first_gone {l : List Nat} (h : gOk l = false) : first? l = none := (first_none _).2 fun x hx => by
 obtain ⟨t, ht⟩ := stands_nums hx
 simp [gOk, ht] at h
theorem first_other {l : List Nat} (h : gOk l = true) (hno : ¬ (noted (gAct l) = true ∧ frameOf (gAct l) <+: l)) : first? l = none := (first_none _).2 fun x hx => by
 obtain ⟨t, ht⟩ := stands_nums hx
 have e : gAct l = x := by simp only [gAct, ht]; exact actOf_zig x
 rw [e] at hno
 exact hno hx
theorem first_this {l : List Nat} (h1 : noted (gAct l) = true) (h2 : frameOf (gAct l) <+: l) : first? l = some (gAct l) := (first_iff _ _).2 ⟨h1, h2⟩
def rfAct (l : List Nat) : ActS := (first? l).getD zeroA
def rfLen (l : List Nat) : Nat := match first? l with
 | none => 0
 | some x => (frameOf x).length
def rfOk (l : List Nat) : Bool := (first? l).isSome
def frontR (l : List Nat) : Value := .tuple #[.agg (rfAct l).cells, I (rfLen l : Nat), .bool (rfOk l)]
theorem front_no {l : List Nat} (h : first? l = none) : .tuple #[.agg zeroA.cells, I 0, .bool false] = frontR l := by simp [frontR, rfAct, rfLen, rfOk, h]
theorem front_yes {l : List Nat} {x : ActS} (h : first? l = some x) : .tuple #[.agg x.cells, I ((frameOf x).length : Nat), .bool true] = frontR l := by simp [frontR, rfAct, rfLen, rfOk, h]
theorem rf_yes {l : List Nat} (h : rfOk l = true) : first? l = some (rfAct l) ∧ rfLen l = (frameOf (rfAct l)).length := by
 unfold rfOk at h
 cases hq : first? l with
 | none => rw [hq] at h; cases h
 | some x => exact ⟨by simp [rfAct, hq], by simp [rfAct, rfLen, hq]⟩
theorem rf_no {l : List Nat} (h : rfOk l = false) : first? l = none := by
 unfold rfOk at h
 cases hq : first? l with
 | none => rfl
 | some x => rw [hq] at h; cases h
def begins (l f : List Nat) : Bool := decide (l.take f.length = f)
theorem begins_iff {l f : List Nat} : begins l f = true ↔ f <+: l := by
 unfold begins
 rw [decide_eq_true_iff, List.prefix_iff_eq_take]
 exact eq_comm
theorem begins_short {l f : List Nat} (h : ¬ f.length ≤ l.length) : begins l f = false := by
 cases hq : begins l f with
 | false => rfl
 | true => exact absurd (begins_iff.1 hq).length_le h
section
variable {P : Program} {f : Nat → Value} {dst : Option Nat} {ty : TypeId} {pos : String} {af : Array Edge} {gd : Option (Nat × Bool)} {C : World → Prop}
def least (a b : Int) : Int := if b < a then b else a
theorem v_least {x y : Operand} {ats : Array TypeId} {a b : Int} (hx : ev f x = I a) (hy : ev f y = I b) : Val P f C ⟨dst, .call ⟨.builtin .min, #[x, y], ats⟩, ty, pos, af, gd⟩ (I (least a b)) :=
 ⟨fun w _ => by simp [execOp, resolve, invoke, builtin, hx, hy, Builtin.min_, Builtin.min2, least]⟩
end
end Go.Proofs.YtmkboljfbmlebacGreat
namespace Go.Proofs.YtmkboljfbmlebacGreat
open Go.RowKit
set_option linter.unusedSimpArgs false
set_option linter.unusedVariables false
set_option maxRecDepth 100000
section
variable {P : Program} {ops : Array Oper} {K : (Nat → Value) → World → Prop} {rest : List Oper} {f : Nat → Value} {d : Nat} {ty : TypeId} {pos : String} {af : Array Edge} {w0 : World} {F : Addr → Value → Prop} {B L : List (Nat × Obj)}
end
section
variable {P : Program} {fn : Func} {n t t2 : Nat} {f : Nat → Value} {w0 : World} {F0 F : Addr → Value → Prop} {L K B' : List (Nat × Obj)} {R : (Addr → Value → Prop) → Value → List (Nat × Obj) → Prop}
theorem n_doneI2 {v : Value} (hr : fn.results = #[.tmp t, .tmp t2]) (ht : t < n) (ht2 : t2 < n) (hv : .tuple #[f t, f t2] = v) :
   nC (retQ P fn n (fun v' w' => v' = v ∧ Bel w0.heap.size w0 w')) .ret f (Has w0 F L) := fun w hw => by
 refine ⟨.tuple #[f t, f t2], ?_, hv, hw.1⟩
 have e : (Fa n f).tmps[t]?.getD undef = f t := by simp [Fa, ht]
 have e2 : (Fa n f).tmps[t2]?.getD undef = f t2 := by simp [Fa, ht2]
 simp [results, hr, e, e2]
end
section
variable {P : Program} {f : Nat → Value} {C : World → Prop} {dst : Option Nat} {ty : TypeId} {pos : String} {af : Array Edge} {gd : Option (Nat × Bool)}
def ptrB (P : Program) (T : TypeId) : Bool := match P.underlying T with
 | some (.pointer _) => true
 | _ => false
theorem v_ptrNil {T t' : TypeId} {x y : Operand} {a : Option Addr} (hT : ptrB P T = true) (hx : ev f x = .pointer a) (hy : ev f y = .pointer none) : Val P f C ⟨dst, .binOp .eql T x y t', ty, pos, af, gd⟩ (.bool a.isNone) := by
 refine ⟨fun w _ => ?_⟩
 unfold ptrB at hT
 split at hT
 · rename_i e hu
   have hg : (eqGuard .eql T x y (.pointer a) (.pointer none)).run P w = .ok () w := by
     simp [eqGuard]
   have he : (Op.equal T (.pointer a) (.pointer none)).run P w = .ok a.isNone w := by
     unfold Op.equal
     show (Op.equalIn (_ + 1) T _ _).run P w = _
     unfold Op.equalIn
     simp only [Sem.run_bind]
     rw [run_underlying hu]
     cases a <;> simp
   simp [execOp, hx, hy, hg, binOp, he]
 · cases hT
end
def PaysO (pa : Option Addr) (pl pc : Nat) (ps : List PayS) (E : List (Nat × Obj)) : Prop :=
 ps.length = pl ∧ pl ≤ pc ∧ ((pl = 0 ∧ E = []) ∨ ∃ b t cs, pa = some ⟨b, 0, none⟩ ∧ E = [(b, .cells cs t (0, 0))] ∧ cs.size = pc * 6 ∧ CellsOf cs ps)
theorem PaysE.o {pa : Option Addr} {pl pc : Nat} {ps : List PayS} {E : List (Nat × Obj)} (h : PaysE pa pl pc ps E) : PaysO pa pl pc ps E := ⟨h.1, h.2.1, h.2.2.imp (fun e => ⟨e.2.1, e.2.2.2⟩) id⟩
theorem PaysO.known {F : Addr → Value → Prop} {pa : Option Addr} {pl pc : Nat} {ps : List PayS} {E : List (Nat × Obj)} (h : PaysO pa pl pc ps E) (hk : Knows F E) : PaysIn F pa pl ps := by
 refine ⟨h.1, ?_⟩
 rcases h.2.2 with ⟨h0, _⟩ | ⟨b, t, cs, rfl, rfl, h1, h2⟩
 · exact .inl h0
 · refine .inr ⟨b, 0, rfl, fun j p hj k v hv => ?_⟩
   rw [Nat.zero_add]
   exact hk b cs t (0, 0) (by simp) _ _ (h2 j p hj k v hv)
def IntsO (xs : List Int) (v : Value) (E : List (Nat × Obj)) : Prop :=
 ∃ a c, v = .slice a xs.length c ∧ xs.length ≤ c ∧ ((xs = [] ∧ E = []) ∨ ∃ b t cs, a = some ⟨b, 0, none⟩ ∧ E = [(b, .cells cs t (0, 0))] ∧ cs.size = c ∧ ∀ (j : Nat) (x : Int), xs[j]? = some x → cs[j]? = some (I x))
theorem ListE.ints {e : Nat} {v : Value} {xs : List Int} {E : List (Nat × Obj)} (h : ListE e 1 v xs.length (xs.map I) E) : IntsO xs v E := by
 rcases h.2 with ⟨rfl, h2, h3⟩ | ⟨g, cap, cur, rfl, rfl, h3, h4, h5, h6⟩
 · exact ⟨none, 0, by rw [h2], by omega, .inl ⟨List.length_eq_zero_iff.1 h2, h3⟩⟩
 · refine ⟨_, cap, rfl, h3, .inr ⟨g, e, cur, rfl, rfl, by omega, fun j x hj => ?_⟩⟩
   have hjl := (List.getElem?_eq_some_iff.1 hj).1
   have : (cur.toList.take (xs.length * 1))[j]? = some (I x) := by rw [h6]; simp [hj]
   rw [List.getElem?_take, if_pos (by omega)] at this
   simpa using this
theorem IntsO.known {F : Addr → Value → Prop} {xs : List Int} {a : Option Addr} {l c : Nat} {E : List (Nat × Obj)} (h : IntsO xs (.slice a l c) E) (hk : Knows F E) : IntsAt F a xs := by
 obtain ⟨a', c', hv, hc, h⟩ := h
 simp only [Value.slice.injEq] at hv
 obtain ⟨rfl, rfl, rfl⟩ := hv
 rcases h with ⟨h, _⟩ | ⟨b, t, cs, rfl, rfl, h1, h2⟩
 · exact .inl h
 · exact .inr ⟨b, 0, rfl, fun j x hj => by rw [Nat.zero_add]; exact hk b cs t (0, 0) (by simp) j _ (h2 j x hj)⟩
def Lies (w : World) (B : List (Nat × Obj)) : Prop := ∀ p ∈ B, w.heap[p.1]? = some p.2
theorem lies_of {w0 w : World} {F : Addr → Value → Prop} {B L : List (Nat × Obj)} (h : Has w0 F L w) (hs : ∀ p ∈ B, p ∈ L) : Lies w B := fun p hp => (h.2.2.1 p (hs p hp)).2
def BGood (s : BankS) : Prop := ∃ log lost, BOk s log lost
theorem bgood_new : BGood newB := ⟨_, _, bok_new⟩
theorem BGood.act {s : BankS} (h : BGood s) (a : ActS) : BGood (doM s a).1 := by
 obtain ⟨log, lost, h⟩ := h
 obtain ⟨log', lost', _, h'⟩ := h.act a
 exact ⟨log', lost', h'⟩
structure BankOk where
 Rep : (Addr → Value → Prop) → Nat → List (Nat × Obj) → BankS → Prop
 mono : ∀ {F F' : Addr → Value → Prop} {b : Nat} {B : List (Nat × Obj)} {s : BankS}, Rep F b B s → More F F' → Rep F' b B s
 new : ∀ w, GivesE Tryz.prog 5 [] w (fun v E => ∃ b, v = .pointer (some ⟨b, 0, none⟩) ∧ ∀ F, Rep F b E newB)
 act : ∀ (F : Addr → Value → Prop) (b : Nat) (B : List (Nat × Obj)) (s : BankS) (a : ActS), BGood s → Rep F b B s → GivesW Tryz.prog 8 [.pointer (some ⟨b, 0, none⟩), .agg a.cells] F B (fun F' v B' => ∃ v1 E B1, B' = E ++ B1 ∧ v = .agg (repC (doM s a).2.code (doM s a).2.n v1) ∧ IntsO (doM s a).2.done v1 E ∧ Rep F' b B1 (doM s a).1)
 house : ∀ (w : World) (b : Nat) (B : List (Nat × Obj)) (s : BankS), BGood s → Rep (At w) b B s → Lies w B → GivesE Tryz.prog 11 [.pointer (some ⟨b, 0, none⟩)] w (fun v E => ∃ h : H, v = .agg h.cells ∧ h.core = s.c ∧ PaysO h.pa h.pl h.pc s.ps E)
 book : ∀ (w : World) (b : Nat) (B : List (Nat × Obj)) (s : BankS), BGood s → Rep (At w) b B s → Lies w B → Gives Tryz.prog 12 [.pointer (some ⟨b, 0, none⟩)] w (.tuple #[S s.text, .bool (!s.down)])
section
variable {ops : Array Oper} {K : (Nat → Value) → World → Prop} {rest : List Oper} {f : Nat → Value} {d : Nat} {ty : TypeId} {pos : String} {af : Array Edge} {w0 : World} {F : Addr → Value → Prop} {B L : List (Nat × Obj)}
theorem s_do (bk : BankOk) {b : Nat} {s : BankS} {a : ActS} {x y : Operand} {ats : Array TypeId} (hg : BGood s) (hr : bk.Rep F b B s) (hx : ev f x = .pointer (some ⟨b, 0, none⟩)) (hy : ev f y = .agg a.cells)
   (kk : ∀ (F' : Addr → Value → Prop) (v1 : Value) (E B1 : List (Nat × Obj)), More F F' → IntsO (doM s a).2.done v1 E → bk.Rep F' b B1 (doM s a).1 → sC Tryz.prog ops K rest (upd f d (.agg (repC (doM s a).2.code (doM s a).2.n v1))) (Has w0 F' (E ++ (B1 ++ L)))) :
   sC Tryz.prog ops K (⟨some d, .call ⟨.value (.func 8), #[x, y], ats⟩, ty, pos, af, none⟩ :: rest) f (Has w0 F (B ++ L)) := by
 refine s_callW (xs := [x, y]) (R := _) (by kernel_rfl) (show GivesW _ _ ([x, y].map (ev f)) F B _ from (by simp only [List.map_cons, List.map_nil, hx, hy]; exact bk.act F b B s a hg hr)) ?_
 rintro F' v B' hm ⟨v1, E, B1, rfl, rfl, hi, hr'⟩
 refine s_weak (fun w hw => ?_) (kk F' v1 E B1 hm hi hr')
 rw [List.append_assoc] at hw; exact hw
end
end Go.Proofs.YtmkboljfbmlebacGreat
namespace Go.Proofs.YtmkboljfbmlebacGreat
open Go.RowKit
set_option linter.unusedSimpArgs false
set_option linter.unusedVariables false
def flag (s : Array Bool) (i : Nat) : Bool := s.getD i false
def setf (b : Nat → Bool) (i : Nat) : Nat → Bool := fun j => if j = i then true else b j
theorem flag_set {s : Array Bool} {i : Nat} (hi : i < s.size) : flag (s.setIfInBounds i true) = setf (flag s) i := by
 funext j
 unfold flag setf
 simp only [Array.getD_eq_getD_getElem?, Array.getElem?_setIfInBounds]
 by_cases e : i = j
 · subst e; simp [hi]
 · have e' : ¬ j = i := fun h => e h.symm
   simp [e, e']
def OpOb (P : Program) {ρ : Type} (w0 : World) (Fo : ρ → Addr → Value → Prop) (Lo : (Nat → Bool) → ρ → List (Nat × Obj)) (G : (Nat → Bool) → ρ → Prop) (le : ρ → ρ → Prop) (f : Nat → Value) (l : List Oper) (Ψ : Nat → Value → ρ → Prop) (i : Nat) (o : Oper) : Prop :=
 ∀ (b : Nat → Bool) (r : ρ) (g : Nat → Value), b i = false → (∀ e ∈ o.after, Region.binds .any e = true → b e.on = true) → G b r →
   (∀ t ∈ o.looksAt l.toArray, (t ∈ dstsOf l → Ψ t (g t) r) ∧ (t ∉ dstsOf l → g t = f t)) →
   sC P l.toArray (fun g' w' => ∃ v r', g' = updo g o.dst v ∧ le r r' ∧ G (setf b i) r' ∧ Has w0 (Fo r') (Lo (setf b i) r') w' ∧ ∀ d, o.dst = some d → Ψ d v r') [o] g (Has w0 (Fo r) (Lo b r))
theorem d_gen {P : Program} {ρ : Type} {n id : Nat} {w0 : World} {Fo : ρ → Addr → Value → Prop} {Lo : (Nat → Bool) → ρ → List (Nat × Obj)} {G : (Nat → Bool) → ρ → Prop} {le : ρ → ρ → Prop} {f : Nat → Value} {l : List Oper} {Ψ : Nat → Value → ρ → Prop} {Q : Exit → (Nat → Value) → World → Prop} {y : Code} {F : Addr → Value → Prop} {L : List (Nat × Obj)}
   (hm : P.follows .mixedOrders = true) (hB : opsB n l.toArray = true) (hF : flowB .any l = true) (r0 : ρ) (hF0 : Fo r0 = F) (hL0 : Lo (fun _ => false) r0 = L) (hG0 : G (fun _ => false) r0)
   (hstab : ∀ d v r r', le r r' → Ψ d v r → Ψ d v r') (hst : ∀ i o, l[i]? = some o → OpOb P w0 Fo Lo G le f l Ψ i o)
   (k : ∀ b r g, (∀ i, i < l.length → b i = true) → G b r → (∀ d ∈ dstsOf l, Ψ d (g d) r) → (∀ t, t ∉ dstsOf l → g t = f t) → cC P n y Q g (Has w0 (Fo r) (Lo b r))) : cC P n (.seq (.region id l.toArray true) y) Q f (Has w0 F L) := by
 refine c_seq (d_steps (σ := ρ) (T := fun s r w => G (flag s) r ∧ Has w0 (Fo r) (Lo (flag s) r) w) (le := fun r _ r' _ => le r r') (Ψ := fun d v r _ => Ψ d v r) hm hB hF (fun d v st w st' w' h => hstab d v st st' h) ?_ ?_ ?_)
 · intro w hw
   have e : flag (Array.replicate l.length false) = fun _ => false := by
     funext j
     unfold flag
     simp only [Array.getD_eq_getD_getElem?, Array.getElem?_replicate]
     split <;> rfl
   refine ⟨r0, by rw [e]; exact hG0, ?_⟩
   rw [e, hF0, hL0]
   exact hw.drew
 · intro i o ho s r g w hsz hsi hed hT hl
   have his : i < s.size := (Array.getElem?_eq_some_iff.1 hsi).1
   have h := hst i o ho (flag s) r g (by unfold flag; rw [Array.getD_eq_getD_getElem?, hsi]; rfl) hed hT.1 hl w hT.2
   have fin : ∀ g' w', sw P l.toArray (fun g' w' => ∃ v r', g' = updo g o.dst v ∧ le r r' ∧ G (setf (flag s) i) r' ∧ Has w0 (Fo r') (Lo (setf (flag s) i) r') w' ∧ ∀ d, o.dst = some d → Ψ d v r') [] g' w' →
       ∃ v, g' = updo g o.dst v ∧ ∃ st', (G (flag (s.setIfInBounds i true)) st' ∧ Has w0 (Fo st') (Lo (flag (s.setIfInBounds i true)) st') w') ∧ le r st' ∧ ∀ d, o.dst = some d → Ψ d v st' := by
     intro g' w' h
     unfold sw at h
     obtain ⟨v, r', h1, h2, h3, h4, h5⟩ := h
     rw [flag_set his]
     exact ⟨v, h1, r', ⟨h3, h4⟩, h2, h5⟩
   unfold sw at h
   by_cases hw : Region.wanted o (yf l.toArray g) = true
   · rw [if_pos hw] at h ⊢
     unfold opk at h ⊢
     generalize (execOp (ev g) o).run P w = res at h ⊢
     cases res with
     | ok nx w' =>
       cases nx <;> simp only at h ⊢
       case value v => exact fin _ _ h
       case skip => exact fin _ _ h
       case enter fn args => exact Calls.mono h fun e w'' ⟨v, he, hh⟩ => ⟨v, he, fin _ _ hh⟩
     | halt x w' => exact h
   · rw [if_neg hw] at h ⊢
     obtain ⟨v, hv, st', h1, h2, h3⟩ := fin _ _ h
     refine ⟨st', h1, h2, fun d hd => ?_⟩
     have e := congrFun hv d
     rw [hd] at e
     simp only [updo, upd_same] at e
     rw [e]
     exact h3 d hd
 · intro s r g w hall hT hd he
   refine cC_at (k (flag s) r g (fun i hi => ?_) hT.1 hd he) hT.2
   unfold flag
   rw [Array.getD_eq_getD_getElem?, hall i hi]; rfl
theorem s_fin {P : Program} {ops : Array Oper} {K : (Nat → Value) → World → Prop} {g : Nat → Value} {C : World → Prop} (h : ∀ w, C w → K g w) : sC P ops K [] g C := fun w hw => by
 unfold sw
 exact h w hw
end Go.Proofs.YtmkboljfbmlebacGreat
namespace Go.Proofs.YtmkboljfbmlebacGreat
open Go.RowKit
set_option linter.unusedSimpArgs false
set_option linter.unusedVariables false
theorem play_snoc : ∀ (l : List ActS) (s : BankS) (x : ActS), playM s (l ++ [x]) = (doM (playM s l) x).1
 | [], _, _ => rfl
 | a :: r, s, x => play_snoc r (doM s a).1 x
theorem play_step {xs : List ActS} {i : Nat} {x : ActS} (h : xs[i]? = some x) : playM newB (xs.take (i + 1)) = (doM (playM newB (xs.take i)) x).1 := by
 rw [List.take_add_one, h]
 exact play_snoc _ _ _
theorem bgood_byt {s : BankS} (h : BGood s) : Byt s.text := by
 obtain ⟨log, lost, h⟩ := h
 cases hd : s.down with
 | false =>
   rw [(h.inv.up hd).1]
   exact bytes_byt h.inv.noted
 | true =>
   obtain ⟨a, m, _, hn, ht, _⟩ := h.inv.low hd
   rw [ht]
   exact Byt.append (bytes_byt h.inv.noted) (fun b hb => frame_byte hn b (List.mem_of_mem_take hb))
theorem bgood_inv {s : BankS} (h : BGood s) : Inv 200 s.c s.ps ∧ Rests s.c s.ps := by
 obtain ⟨log, lost, h⟩ := h
 exact h.house
end Go.Proofs.YtmkboljfbmlebacGreat
namespace Go.Proofs.YtmkboljfbmlebacGreat
open Go.RowKit
set_option linter.unusedSimpArgs false
set_option linter.unusedVariables false
section
variable {P : Program} {ops : Array Oper} {K : (Nat → Value) → World → Prop} {rest : List Oper} {f : Nat → Value} {d : Nat} {ty : TypeId} {pos : String} {af : Array Edge} {w0 : World} {F : Addr → Value → Prop} {E L : List (Nat × Obj)}
end
theorem list_acts {F : Addr → Value → Prop} {e n c : Nat} {a : Option Addr} {xs : List ActS} {E : List (Nat × Obj)} (h : ListE e 5 (.slice a n c) xs.length (flatA xs) E) (hk : Knows F E) : ActsAt F a xs := by
 obtain ⟨a', c', hv, hi⟩ := (acts_of_list h hk).at
 simp only [Value.slice.injEq] at hv
 rw [hv.1]; exact hi
end Go.Proofs.YtmkboljfbmlebacGreat
namespace Go.Proofs.YtmkboljfbmlebacGreat
open Go.RowKit
set_option linter.unusedSimpArgs false
set_option linter.unusedVariables false
theorem told_do {s : BankS} (hg : BGood s) {a : ActS} (h11 : ¬ a.kind = 11) : Told s.ps (doM s a).1.ps (doM s a).2.done := by
 have v := (bgood_inv hg).1
 obtain ⟨log, lost, hb⟩ := hg
 obtain ⟨log', lost', st, _⟩ := hb.act a
 have same : Told s.ps s.ps [] := told_same (ps := s.ps) (xs := []) trivial
 generalize (doM s a).1 = s' at st
 generalize (doM s a).2 = r at st
 cases st with
 | full h => exact same
 | same r h1 h2 h3 h4 h5 h6 => rw [h4]; exact same
 | opened l h1 h2 h3 h4 => exact absurd h3 h11
 | failing h1 h2 h3 h4 => exact same
 | fell m h1 h2 h3 h4 h5 h6 h7' h8 => exact same
 | went h1 h2 h3 h4 h5 h6 h7' => exact told_act v (by omega) (next_step s.c s.ps a)
def nowTo (d : List Int) : Nat → Nat
 | 0 => 0
 | k + 1 => nowTo d k + if (k : Int) ∈ d then 1 else 0
theorem now_le (d : List Int) : ∀ k, nowTo d k ≤ k
 | 0 => Nat.le_refl _
 | k + 1 => by
   have := now_le d k
   simp only [nowTo]
   split <;> omega
theorem now_nil : ∀ k, nowTo [] k = 0
 | 0 => rfl
 | k + 1 => by simp [nowTo, now_nil k]
theorem now_cons {i : Int} {d : List Int} (hn : i ∉ d) (h0 : 0 ≤ i) : ∀ k : Nat, nowTo (i :: d) k = nowTo d k + if i < k then 1 else 0
 | 0 => by simp [nowTo]; omega
 | k + 1 => by
   simp only [nowTo]
   rw [now_cons hn h0 k]
   by_cases e : (k : Int) = i
   · have h1 : (k : Int) ∈ i :: d := by simp [e]
     have h2 : ¬ (k : Int) ∈ d := by rw [e]; exact hn
     rw [if_pos h1, if_neg h2, if_neg (by omega), if_pos (by omega)]
   · have h1 : ((k : Int) ∈ i :: d) ↔ (k : Int) ∈ d := by simp [e]
     by_cases h3 : (k : Int) ∈ d
     · rw [if_pos (h1.2 h3), if_pos h3]
       by_cases h4 : i < k
       · rw [if_pos h4, if_pos (by omega)]
         try omega
       · rw [if_neg h4, if_neg (by omega)]
     · rw [if_neg (fun h => h3 (h1.1 h)), if_neg h3]
       by_cases h4 : i < k
       · rw [if_pos h4, if_pos (by omega)]
       · rw [if_neg h4, if_neg (by omega)]
theorem now_all : ∀ (d : List Int) (n : Nat), d.Nodup → (∀ i ∈ d, 0 ≤ i ∧ i < n) → nowTo d n = d.length
 | [], n, _, _ => now_nil n
 | i :: r, n, hn, hr => by
   obtain ⟨h1, h2⟩ := List.nodup_cons.1 hn
   have hi := hr i (by simp)
   rw [now_cons h1 hi.1, now_all r n h2 (fun j hj => hr j (by simp [hj])), if_pos hi.2]
   rfl
theorem told_len {ps ps' : List PayS} {d : List Int} (t : Told ps ps' d) : d.length ≤ ps'.length := by
 rw [← now_all d ps'.length t.once (fun i hi => t.range i hi)]
 exact now_le _ _
end Go.Proofs.YtmkboljfbmlebacGreat
namespace Go.Proofs.YtmkboljfbmlebacGreat
open Go.RowKit
set_option linter.unusedSimpArgs false
set_option linter.unusedVariables false
theorem flatA_length (xs : List ActS) : (flatA xs).length = xs.length * 5 := by
 induction xs with
 | nil => rfl
 | cons x r ih =>
   show (x.cells.toList ++ flatA r).length = _
   rw [List.length_append, ih]
   simp [ActS.cells]
   omega
theorem flatA_inv : ∀ (xs : List ActS) (j : Nat) (u : Value), (flatA xs)[j]? = some u → ∃ x, xs[j / 5]? = some x ∧ x.cells[j % 5]? = some u
 | [], j, u, h => by simp [flatA] at h
 | x :: r, j, u, h => by
   have e : flatA (x :: r) = x.cells.toList ++ flatA r := rfl
   have h5 : x.cells.toList.length = 5 := rfl
   rw [e] at h
   by_cases hj : j < 5
   · rw [List.getElem?_append_left (by omega)] at h
     exact ⟨x, by rw [Nat.div_eq_of_lt hj]; rfl, by rw [Nat.mod_eq_of_lt hj]; simpa using h⟩
   · rw [List.getElem?_append_right (by omega), h5] at h
     obtain ⟨y, h1, h2⟩ := flatA_inv r (j - 5) u h
     have e1 : j / 5 = (j - 5) / 5 + 1 := by omega
     have e2 : (j - 5) % 5 = j % 5 := by omega
     exact ⟨y, by rw [e1]; simpa using h1, by rw [← e2]; exact h2⟩
section
variable {P : Program} {ops : Array Oper} {K : (Nat → Value) → World → Prop} {rest : List Oper} {f : Nat → Value} {d : Nat} {ty : TypeId} {pos : String} {af : Array Edge} {w0 : World} {F : Addr → Value → Prop} {E L : List (Nat × Obj)}
theorem s_copyActs {T e by_ c n : Nat} {ats : Array TypeId} {x y : Operand} {a : Option Addr} {zs : List ActS} (hT : rowB P T e 5 by_ = true) (hbb : Nat.ble 1 by_ = true) (hat : ats = #[T, T])
   (hx : ev f x = .slice none 0 0) (hy : ev f y = .slice a n c) (hn : zs.length = n) (hp : ActsAt F a zs) (hbytes : n * by_ ≤ 140737488355328)
   (kk : ∀ v' E', ListE e 5 v' zs.length (flatA zs) E' → sC P ops K rest (upd f d v') (Has w0 F (E' ++ L))) :
   sC P ops K (⟨some d, .call ⟨.builtin .append, #[x, y], ats⟩, ty, pos, af, none⟩ :: rest) f (Has w0 F L) := by
 intro w hw
 subst hat
 subst hn
 unfold sw
 rw [if_pos wanted_free]
 unfold opk
 have hrun : ∀ v' w', (Builtin.append_ #[T, T] ty #[.slice none 0 0, .slice a zs.length c]).run P w = .ok v' w' → (execOp (ev f) ⟨some d, .call ⟨.builtin .append, #[x, y], #[T, T]⟩, ty, pos, af, none⟩).run P w = .ok (.value v') w' := by
   intro v' w' hr
   simp [execOp, resolve, invoke, builtin, hx, hy, hr]
 rcases hp with h0 | ⟨b, o, rfl, hF⟩
 · subst h0
   obtain ⟨i, z, hu, hii, hs, hby, hz, hzs⟩ := rowB_spec hT
   have hsz : ∀ w, (sizeOf e).run P w = .ok 5 w := fun w => by simp [sizeOf, typeInfo, hii, hs]
   have : (Builtin.append_ #[T, T] ty #[.slice none 0 0, .slice a 0 c]).run P w = .ok (.slice none 0 0) w := by
     cases a <;> simp [Builtin.append_, underlying, hu, hsz, Builtin.lenOf, Builtin.firstCells, loadCells, loadCellsFrom]
   rw [hrun _ _ this]
   exact kk _ [] (listE_nil e 5) w hw
 · by_cases hz0 : zs = []
   · subst hz0
     obtain ⟨i, z, hu, hii, hs, hby, hz, hzs⟩ := rowB_spec hT
     have hsz : ∀ w, (sizeOf e).run P w = .ok 5 w := fun w => by simp [sizeOf, typeInfo, hii, hs]
     have : (Builtin.append_ #[T, T] ty #[.slice none 0 0, .slice (some ⟨b, o, none⟩) 0 c]).run P w = .ok (.slice none 0 0) w := by
       simp [Builtin.append_, underlying, hu, hsz, Builtin.lenOf, Builtin.firstCells, loadCells, loadCellsFrom]
     rw [hrun _ _ this]
     exact kk _ [] (listE_nil e 5) w hw
   · have hpos : 0 < zs.length := List.length_pos_iff.2 hz0
     obtain ⟨v', E', w', hr, hE', hw'⟩ := run_appendE (P := P) (w0 := w0) (F := F) (L := L) (E := []) (c := c) (ty := ty) (b := b) (o := o) (mm := zs.length) (news := flatA zs) hT (by decide) (listE_nil e 5) hw (flatA_length zs) (fun j u hj => by
       obtain ⟨p, h1, h2⟩ := flatA_inv zs j u hj
       have h3 : w.cell? ⟨b, o + j / 5 * 5 + j % 5, none⟩ = some u := hw.at _ _ (hF (j / 5) p h1 (j % 5) u h2)
       have e : o + j / 5 * 5 + j % 5 = o + j := by omega
       rw [e] at h3
       exact h3) (fun u hu => by
       obtain ⟨p, _, hp⟩ := List.mem_flatMap.1 hu
       have := ActS.all1 p
       rw [Array.all_eq_true_iff_forall_mem] at this
       exact this u (by simpa using hp)) hpos (by simpa using hbytes) (Nat.le_of_ble_eq_true hbb)
     rw [hrun _ _ hr]
     exact kk v' E' (by simpa using hE') w' hw'
end
theorem sameRB_self (c n : Int) (xs : List Int) : sameRB c n xs c n xs = true := by simp [sameRB]
noncomputable def repsM (s : BankS) : List ActS → List RepS
 | [] => []
 | a :: r => (doM s a).2 :: repsM (doM s a).1 r
theorem reps_len : ∀ (l : List ActS) (s : BankS), (repsM s l).length = l.length
 | [], _ => rfl
 | a :: r, s => by simp [repsM, reps_len r]
def RepsAt (F : Addr → Value → Prop) (a : Option Addr) (rs : List RepS) : Prop := rs = [] ∨ ∃ b o, a = some ⟨b, o, none⟩ ∧ ∀ (j : Nat) (r : RepS), rs[j]? = some r → ∃ a1 c1, IntsAt F a1 r.done ∧ ∀ (k : Nat) (v : Value), (repC r.code r.n (.slice a1 r.done.length c1))[k]? = some v → F ⟨b, o + j * 3 + k, none⟩ v
theorem RepsAt.mono {F F' : Addr → Value → Prop} {a : Option Addr} {rs : List RepS} (h : RepsAt F a rs) (hm : More F F') : RepsAt F' a rs := by
 rcases h with h | ⟨b, o, h1, h2⟩
 · exact .inl h
 · refine .inr ⟨b, o, h1, fun j r hr => ?_⟩
   obtain ⟨a1, c1, h3, h4⟩ := h2 j r hr
   exact ⟨a1, c1, h3.mono hm, fun k v hv => hm _ _ (h4 k v hv)⟩
theorem RepsAt.get {F : Addr → Value → Prop} {a : Option Addr} {rs : List RepS} (h : RepsAt F a rs) {j : Nat} (hj : j < rs.length) : ∃ b o r a1 c1, a = some ⟨b, o, none⟩ ∧ rs[j]? = some r ∧ IntsAt F a1 r.done ∧ ∀ (k : Nat) (v : Value), (repC r.code r.n (.slice a1 r.done.length c1))[k]? = some v → F ⟨b, o + j * 3 + k, none⟩ v := by
 rcases h with rfl | ⟨b, o, h1, h2⟩
 · simp at hj
 · obtain ⟨a1, c1, h3, h4⟩ := h2 j rs[j] (by simp [hj])
   exact ⟨b, o, rs[j], a1, c1, h1, by simp [hj], h3, h4⟩
theorem reps_done {l : List ActS} {j : Nat} {r : RepS} : ∀ {s : BankS}, BGood s → (repsM s l)[j]? = some r → r.done.length ≤ 24 := by
 induction l generalizing j with
 | nil => intro s _ h; simp [repsM] at h
 | cons a l ih =>
   intro s hg h
   cases j with
   | zero =>
     simp [repsM] at h
     subst h
     by_cases hk : a.kind = 11
     · obtain ⟨log, lost, hb⟩ := hg
       obtain ⟨log', lost', st, _⟩ := hb.act a
       generalize (doM s a).1 = s' at st
       generalize (doM s a).2 = r at st
       cases st with
       | full h => simp [errR]
       | same r h1 h2 h3 h4 h5 h6 => rw [h4]; simp
       | opened l h1 h2 h3 h4 => simp
       | failing h1 h2 h3 h4 => simp [errR]
       | fell m h1 h2 h3 h4 h5 h6 h7' h8 => simp [errR]
       | went h1 h2 h3 h4 h5 h6 h7' => exact absurd hk h4
     · have t := told_len (told_do hg hk)
       have := (bgood_inv (hg.act a)).1.len
       omega
   | succ j =>
     simp [repsM] at h
     exact ih (hg.act a) h
end Go.Proofs.YtmkboljfbmlebacGreat
namespace Go.Proofs.YtmkboljfbmlebacGreat
open Go.RowKit
set_option linter.unusedSimpArgs false
set_option linter.unusedVariables false
section
variable (h : H) (t : List Nat) (d : Bool) (fl n : Int)
theorem bankC_text : (bankC h t d fl n)[0 + 42]? = some (S t) := by unfold bankC; rw [Array.getElem?_append_right (by rw [H.size]; omega), H.size]; rfl
theorem bankC_down : (bankC h t d fl n)[0 + 43]? = some (.bool d) := by unfold bankC; rw [Array.getElem?_append_right (by rw [H.size]; omega), H.size]; rfl
theorem bankC_fail : (bankC h t d fl n)[0 + 44]? = some (I fl) := by unfold bankC; rw [Array.getElem?_append_right (by rw [H.size]; omega), H.size]; rfl
theorem bankC_acts : (bankC h t d fl n)[0 + 45]? = some (I n) := by unfold bankC; rw [Array.getElem?_append_right (by rw [H.size]; omega), H.size]; rfl
theorem bank_set {k : Nat} (hk : k < 4) (v : Value) : (bankC h t d fl n).setIfInBounds (42 + k) v = h.cells ++ (#[S t, .bool d, I fl, I n] : Array Value).setIfInBounds k v := by
 unfold bankC
 rw [Array.setIfInBounds_append_right (by rw [H.size]; omega), H.size]
 congr 2
 omega
theorem bankC_setText {u : List Nat} : 0 + 42 < (bankC h t d fl n).size ∧ (bankC h t d fl n).setIfInBounds (0 + 42) (S u) = bankC h u d fl n := ⟨by rw [bankC_size]; omega, bank_set h t d fl n (k := 0) (by omega) _⟩
theorem bankC_setDown {u : Bool} : 0 + 43 < (bankC h t d fl n).size ∧ (bankC h t d fl n).setIfInBounds (0 + 43) (.bool u) = bankC h t u fl n := ⟨by rw [bankC_size]; omega, bank_set h t d fl n (k := 1) (by omega) _⟩
theorem bankC_setFail {u : Int} : 0 + 44 < (bankC h t d fl n).size ∧ (bankC h t d fl n).setIfInBounds (0 + 44) (I u) = bankC h t d u n := ⟨by rw [bankC_size]; omega, bank_set h t d fl n (k := 2) (by omega) _⟩
theorem bankC_setActs {u : Int} : 0 + 45 < (bankC h t d fl n).size ∧ (bankC h t d fl n).setIfInBounds (0 + 45) (I u) = bankC h t d fl u := ⟨by rw [bankC_size]; omega, bank_set h t d fl n (k := 3) (by omega) _⟩
end
theorem n_doneWC {P : Program} {fn : Func} {n t T b m ty : Nat} {fr : Nat × Nat} {cs : Array Value} {f : Nat → Value} {w0 : World} {F0 F : Addr → Value → Prop} {L K B' : List (Nat × Obj)} {R : (Addr → Value → Prop) → Value → List (Nat × Obj) → Prop} (hr : fn.results = #[.cell t T]) (ht : t < n) (hp : f t = .pointer (some ⟨b, 0, none⟩))
   (hT : aggB P T m = true) (hl : Look L b (.cells cs ty fr)) (hm : cs.size = m) (hmo : More F0 F) (hs : ∀ w, Has w0 F L w → Has w0 F (B' ++ K) w) (hv : R F (.agg cs) B') : nC (retQ P fn n (retW w0 F0 K R)) .ret f (Has w0 F L) := by
 intro w hw
 refine ⟨.agg cs, ?_, B', F, hmo, hs w hw, hv⟩
 have e : (Fa n f).tmps[t]?.getD undef = f t := by simp [Fa, ht]
 subst hm
 have := run_loadN (P := P) (w := w) (b := b) (o := 0) (cs := cs.toList) (by simpa using hT) (fun j v hj => by
   rw [cell_has hw hl]; simpa using hj)
 simp only [Instr.loadAt, Instr.sureAddr, Sem.run_bind, Sem.run_pure, Result.andThen] at this
 simp [results, hr, e, hp, asAddr, this]
def RefRep (tb : Nat) (F : Addr → Value → Prop) (b : Nat) (B : List (Nat × Obj)) (s : BankS) : Prop :=
 ∃ h : H, B = [(b, .cells (bankC h s.text s.down s.fail s.acts) tb (0, 0))] ∧ h.core = s.c ∧ PaysIn F h.pa h.pl s.ps ∧ h.pl ≤ h.pc
theorem RefRep.mono {tb : Nat} {F F' : Addr → Value → Prop} {b : Nat} {B : List (Nat × Obj)} {s : BankS} (h : RefRep tb F b B s) (hm : More F F') : RefRep tb F' b B s := by
 obtain ⟨k, h1, h2, h3, h4⟩ := h
 exact ⟨k, h1, h2, h3.mono hm, h4⟩
structure DG where
 F : Addr → Value → Prop
 b8 : Option Nat
 b9 : Option Nat
 q : Option (H × Option Addr × Nat)
structure DG.Le (r r' : DG) : Prop where
 F : More r.F r'.F
 b8 : ∀ x, r.b8 = some x → r'.b8 = some x
 b9 : ∀ x, r.b9 = some x → r'.b9 = some x
 q : ∀ x, r.q = some x → r'.q = some x
theorem DG.Le.refl (r : DG) : DG.Le r r := ⟨fun _ _ h => h, fun _ h => h, fun _ h => h, fun _ h => h⟩
def oneB (o : Option Nat) (cs : Array Value) (t : Nat) : List (Nat × Obj) := match o with | some b => [(b, .cells cs t (0, 0))] | none => []
def hq (b : Bool) (q : Option (H × Option Addr × Nat)) : Array Value := if b then (match q with | some (h, _, _) => h.cells | none => zeroH.cells) else zeroH.cells
def rq (b : Bool) (c n : Int) (len : Nat) (q : Option (H × Option Addr × Nat)) : Array Value := if b then (match q with | some (_, a, k) => repC c n (.slice a len k) | none => repC 0 0 (.slice none 0 0)) else repC 0 0 (.slice none 0 0)
def dgLo (th tr : Nat) (c n : Int) (len : Nat) (L0 : List (Nat × Obj)) (b : Nat → Bool) (r : DG) : List (Nat × Obj) := oneB r.b9 (rq (b 12) c n len r.q) tr ++ (oneB r.b8 (hq (b 11) r.q) th ++ L0)
structure dgG (F0 : Addr → Value → Prop) (R : (Addr → Value → Prop) → H → Option Addr → Nat → Prop) (b : Nat → Bool) (r : DG) : Prop where
 more : More F0 r.F
 b8 : b 9 = false → r.b8 = none
 b9 : b 10 = false → r.b9 = none
 q : b 5 = false → r.q = none
 has : ∀ h a k, r.q = some (h, a, k) → R r.F h a k
 h11 : b 11 = true → b 9 = true ∧ b 5 = true
 h12 : b 12 = true → b 10 = true ∧ b 5 = true
section
variable {th tr : Nat} {c n : Int} {len : Nat} {L0 : List (Nat × Obj)} {b : Nat → Bool} {r : DG}
theorem dgLo_call (h11 : b 11 = false) (h12 : b 12 = false) (F' : Addr → Value → Prop) (q' : Option (H × Option Addr × Nat)) : dgLo th tr c n len L0 b r = dgLo th tr c n len L0 (setf b 5) ⟨F', r.b8, r.b9, q'⟩ := by
 have e1 : setf b 5 11 = false := h11
 have e2 : setf b 5 12 = false := h12
 simp only [dgLo, h11, h12, e1, e2, rq, hq, Bool.false_eq_true, if_false]
theorem dgLo_alloc8 (h8 : r.b8 = none) (h11 : b 11 = false) (x : Nat) : ((x, Obj.cells zeroH.cells th (0, 0)) :: dgLo th tr c n len L0 b r).Perm (dgLo th tr c n len L0 (setf b 9) ⟨r.F, some x, r.b9, r.q⟩) := by
 have e1 : setf b 9 11 = false := h11
 have e2 : setf b 9 12 = b 12 := rfl
 simp only [dgLo, h8, h11, e1, e2, oneB, hq, Bool.false_eq_true, if_false]
 exact List.perm_middle.symm
theorem dgLo_alloc9 (h9 : r.b9 = none) (h12 : b 12 = false) (x : Nat) : ((x, Obj.cells (repC 0 0 (.slice none 0 0)) tr (0, 0)) :: dgLo th tr c n len L0 b r) = (dgLo th tr c n len L0 (setf b 10) ⟨r.F, r.b8, some x, r.q⟩) := by
 have e1 : setf b 10 12 = false := h12
 have e2 : setf b 10 11 = b 11 := rfl
 simp only [dgLo, h9, h12, e1, e2, oneB, rq, Bool.false_eq_true, if_false]
 rfl
theorem dgLo_b8 {x : Nat} (h8 : r.b8 = some x) (h11 : b 11 = false) : dgLo th tr c n len L0 b r = oneB r.b9 (rq (b 12) c n len r.q) tr ++ ((x, Obj.cells zeroH.cells th (0, 0)) :: L0) := by
 simp only [dgLo, h8, h11, oneB, hq, Bool.false_eq_true, if_false]
 rfl
theorem dgLo_st8 {x : Nat} (h8 : r.b8 = some x) {h : H} {a : Option Addr} {k : Nat} (hq' : r.q = some (h, a, k)) : oneB r.b9 (rq (b 12) c n len r.q) tr ++ ((x, Obj.cells h.cells th (0, 0)) :: L0) = dgLo th tr c n len L0 (setf b 11) r := by
 have e1 : setf b 11 11 = true := rfl
 have e2 : setf b 11 12 = b 12 := rfl
 simp only [dgLo, h8, hq', e1, e2, oneB, hq, if_true]
 rfl
theorem dgLo_b9 {x : Nat} (h9 : r.b9 = some x) (h12 : b 12 = false) : dgLo th tr c n len L0 b r = (x, Obj.cells (repC 0 0 (.slice none 0 0)) tr (0, 0)) :: (oneB r.b8 (hq (b 11) r.q) th ++ L0) := by
 simp only [dgLo, h9, h12, oneB, rq, Bool.false_eq_true, if_false]
 rfl
theorem dgLo_st9 {x : Nat} (h9 : r.b9 = some x) {h : H} {a : Option Addr} {k : Nat} (hq' : r.q = some (h, a, k)) : (x, Obj.cells (repC c n (.slice a len k)) tr (0, 0)) :: (oneB r.b8 (hq (b 11) r.q) th ++ L0) = dgLo th tr c n len L0 (setf b 12) r := by
 have e1 : setf b 12 12 = true := rfl
 have e2 : setf b 12 11 = b 11 := rfl
 simp only [dgLo, h9, hq', e1, e2, oneB, rq, if_true]
 rfl
theorem dgLo_all {x y : Nat} (h8 : r.b8 = some x) (h9 : r.b9 = some y) {h : H} {a : Option Addr} {k : Nat} (hq' : r.q = some (h, a, k)) (h11 : b 11 = true) (h12 : b 12 = true) : dgLo th tr c n len L0 b r = (y, Obj.cells (repC c n (.slice a len k)) tr (0, 0)) :: (x, Obj.cells h.cells th (0, 0)) :: L0 := by
 simp only [dgLo, h8, h9, hq', h11, h12, oneB, rq, hq, if_true]
 rfl
end
def psi18 (bp : Nat) (h : H) (a : ActS) (c n : Int) (len : Nat) (d : Nat) (v : Value) (r : DG) : Prop :=
 if d = 87 then v = .pointer (some ⟨bp, 0, none⟩) else if d = 88 then v = .pointer (some ⟨bp, 0, none⟩) else if d = 89 then v = .pointer (some ⟨bp, 0 + 0, none⟩) else if d = 90 then v = .agg h.cells else if d = 91 then v = .agg a.cells
 else if d = 92 then (∃ x y z, r.q = some (x, y, z) ∧ v = .tuple #[.agg x.cells, .agg (repC c n (.slice y len z))])
 else if d = 86 then (∃ x y z, r.q = some (x, y, z) ∧ v = .tuple #[.agg x.cells, .agg (repC c n (.slice y len z))])
 else if d = 93 then (∃ x y z, r.q = some (x, y, z) ∧ v = .agg x.cells) else if d = 94 then (∃ x y z, r.q = some (x, y, z) ∧ v = .agg (repC c n (.slice y len z)))
 else if d = 8 then (∃ x, r.b8 = some x ∧ v = .pointer (some ⟨x, 0, none⟩)) else if d = 9 then (∃ x, r.b9 = some x ∧ v = .pointer (some ⟨x, 0, none⟩)) else True
theorem psi18_stab {bp : Nat} {h : H} {a : ActS} {c n : Int} {len : Nat} (d : Nat) (v : Value) (r r' : DG) (hle : DG.Le r r') (hp : psi18 bp h a c n len d v r) : psi18 bp h a c n len d v r' := by
 unfold psi18 at hp ⊢
 by_cases h1 : d = 87
 · rw [if_pos h1] at hp ⊢; exact hp
 rw [if_neg h1] at hp ⊢
 by_cases h2 : d = 88
 · rw [if_pos h2] at hp ⊢; exact hp
 rw [if_neg h2] at hp ⊢
 by_cases h3 : d = 89
 · rw [if_pos h3] at hp ⊢; exact hp
 rw [if_neg h3] at hp ⊢
 by_cases h4 : d = 90
 · rw [if_pos h4] at hp ⊢; exact hp
 rw [if_neg h4] at hp ⊢
 by_cases h5 : d = 91
 · rw [if_pos h5] at hp ⊢; exact hp
 rw [if_neg h5] at hp ⊢
 by_cases h6 : d = 92
 · rw [if_pos h6] at hp ⊢; obtain ⟨x, y, z, e1, e2⟩ := hp; exact ⟨x, y, z, hle.q _ e1, e2⟩
 rw [if_neg h6] at hp ⊢
 by_cases h7 : d = 86
 · rw [if_pos h7] at hp ⊢; obtain ⟨x, y, z, e1, e2⟩ := hp; exact ⟨x, y, z, hle.q _ e1, e2⟩
 rw [if_neg h7] at hp ⊢
 by_cases h8 : d = 93
 · rw [if_pos h8] at hp ⊢; obtain ⟨x, y, z, e1, e2⟩ := hp; exact ⟨x, y, z, hle.q _ e1, e2⟩
 rw [if_neg h8] at hp ⊢
 by_cases h9 : d = 94
 · rw [if_pos h9] at hp ⊢; obtain ⟨x, y, z, e1, e2⟩ := hp; exact ⟨x, y, z, hle.q _ e1, e2⟩
 rw [if_neg h9] at hp ⊢
 by_cases h10 : d = 8
 · rw [if_pos h10] at hp ⊢; obtain ⟨x, e1, e2⟩ := hp; exact ⟨x, hle.b8 _ e1, e2⟩
 rw [if_neg h10] at hp ⊢
 by_cases h11 : d = 9
 · rw [if_pos h11] at hp ⊢; obtain ⟨x, e1, e2⟩ := hp; exact ⟨x, hle.b9 _ e1, e2⟩
 rw [if_neg h11] at hp ⊢
 exact hp
structure BG where
 F : Addr → Value → Prop
 q : Option H
structure BG.Le (r r' : BG) : Prop where
 F : More r.F r'.F
 q : ∀ x, r.q = some x → r'.q = some x
theorem BG.Le.refl (r : BG) : BG.Le r r := ⟨fun _ _ h => h, fun _ h => h⟩
def hSel (b : Bool) (q : Option H) (h : H) : H := if b then (match q with | some x => x | none => h) else h
def tSel (b : Bool) (t' t : List Nat) : List Nat := if b then t' else t
def dSel (b : Bool) (d' d : Bool) : Bool := if b then d' else d
def bgLo (P0 K : List (Nat × Obj)) (b tb : Nat) (h : H) (t t' : List Nat) (d d' : Bool) (fl na : Int) (jh jt jd : Nat) (b1 : Nat → Bool) (r : BG) : List (Nat × Obj) :=
 P0 ++ ((b, Obj.cells (bankC (hSel (b1 jh) r.q h) (tSel (b1 jt) t' t) (dSel (b1 jd) d' d) fl na) tb (0, 0)) :: K)
section
variable {P0 K : List (Nat × Obj)} {b tb : Nat} {h : H} {t t' : List Nat} {d d' : Bool} {fl na : Int} {jh jt jd : Nat} {b1 : Nat → Bool} {r : BG}
theorem bgLo_all {x : H} (hq : r.q = some x) (h1 : b1 jh = true) (h2 : b1 jt = true) (h3 : b1 jd = true ∨ d' = d) : bgLo P0 K b tb h t t' d d' fl na jh jt jd b1 r = P0 ++ ((b, Obj.cells (bankC x t' d' fl na) tb (0, 0)) :: K) := by
 have e : dSel (b1 jd) d' d = d' := by
   unfold dSel
   rcases h3 with h3 | h3
   · rw [h3]; rfl
   · rw [h3]; split <;> rfl
 simp only [bgLo, hq, h1, h2, e, hSel, tSel, if_true]
theorem bgLo_house {x : H} {i : Nat} (hi : i = jh) (hq : r.q = some x) (h1 : jt ≠ jh) (h2 : jd ≠ jh) : P0 ++ ((b, Obj.cells (bankC x (tSel (b1 jt) t' t) (dSel (b1 jd) d' d) fl na) tb (0, 0)) :: K) = bgLo P0 K b tb h t t' d d' fl na jh jt jd (setf b1 i) r := by
 subst hi
 simp only [bgLo, hq, hSel, setf, h1, h2, if_true, if_false]
theorem bgLo_call {x : H} {i : Nat} {F' : Addr → Value → Prop} (h1 : b1 jh = false) (hi1 : jh ≠ i) (hi2 : jt ≠ i) (hi3 : jd ≠ i) : bgLo P0 K b tb h t t' d d' fl na jh jt jd b1 r = bgLo P0 K b tb h t t' d d' fl na jh jt jd (setf b1 i) ⟨F', some x⟩ := by
 simp only [bgLo, setf, hi1, hi2, hi3, h1, hSel, if_false, Bool.false_eq_true]
end
theorem fText_yes {a : ActS} (h : noted a = true) : fText a = frameOf a := by simp [fText, h]
theorem fText_len (a : ActS) : (fText a).length ≤ 28 := by
 unfold fText
 cases hn : noted a
 · simp
 · have := (body_len hn).2
   simp [frameOf]; omega
theorem fErr_no {a : ActS} (h : noted a = false) : fErr a = 3 := by simp [fErr, h]
theorem take_min {a : ActS} (h : noted a = true) {fl : Int} (h0 : 0 ≤ fl) : (fText a).take (minI ((fText a).length : Int) fl).toNat = (frameOf a).take fl.toNat := by
 rw [fText_yes h]
 unfold minI
 split
 · rfl
 · rw [List.take_of_length_le (by omega), List.take_of_length_le (by omega)]
theorem bytes_count : ∀ (xs : List ActS), xs.length ≤ (bytesOf xs).length
 | [] => Nat.zero_le _
 | x :: r => by
   have e : bytesOf (x :: r) = frameOf x ++ bytesOf r := by simp [bytesOf]
   have := bytes_count r
   rw [e, List.length_append, List.length_cons, frame_len]
   omega
theorem read_facts (l : List Nat) : (bytesOf (readM l)).length ≤ l.length ∧ (readM l).length ≤ l.length ∧ l.take ((bytesOf (readM l)).length : Int).toNat = bytesOf (readM l) := by
 have h := (readM_bytes l).1
 have h1 := h.length_le
 have h2 := bytes_count (readM l)
 exact ⟨h1, by omega, by rw [Int.toNat_natCast]; exact (List.prefix_iff_eq_take.1 h).symm⟩
theorem frame_code {a : ActS} : (fErr a = 0 → noted a = true) ∧ (¬ fErr a = 0 → noted a = false) := by
 unfold fErr
 cases noted a <;> simp
end Go.Proofs.YtmkboljfbmlebacGreat
