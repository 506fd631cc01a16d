/- What the laws of this place stand on, part 5. Each part names its own conditions in what it states. -/
import Derived.Test.YtmkboljfbmlebacGreatQ4
import Derived.Sort.Grow
import Derived.Deep.Draws
namespace Go.Proofs.YtmkboljfbmlebacGreat
open Go.RowKit
set_option linter.unusedSimpArgs false
set_option linter.unusedVariables false
theorem Bel.grown {w w' : World} (h : Bel w.heap.size w w') : ∃ q os, w' = Sort.grow (w.drewN q) os := by
 refine ⟨w'.drawn - w.drawn, w'.heap.extract w.heap.size w'.heap.size, ?_⟩
 have e1 : w.drawn + (w'.drawn - w.drawn) = w'.drawn := by have := h.drawn; omega
 have e2 : w.heap ++ w'.heap.extract w.heap.size w'.heap.size = w'.heap := by
   apply Array.ext_getElem?
   intro k
   rcases Nat.lt_or_ge k w.heap.size with hk | hk
   · rw [Array.getElem?_append_left hk]; exact (h.block k hk).symm
   · rw [Array.getElem?_append_right hk, Array.getElem?_extract]
     split
     · congr 1; omega
     · rw [Array.getElem?_eq_none (by omega)]
 have e3 := h.os
 have e4 := h.tape
 have e5 := h.output
 cases w
 cases w'
 simp only [Sort.grow, World.drewN] at *
 subst e3 e4 e5
 rw [e1, e2]
theorem grow_bel (w : World) (q : Nat) (os : Array Obj) : Bel w.heap.size w (Sort.grow (w.drewN q) os) :=
 ⟨⟨rfl, rfl, rfl, by simp [Sort.grow, World.drewN], fun k hk => by
   show (w.heap ++ os)[k]? = w.heap[k]?
   rw [Array.getElem?_append_left hk]⟩, Nat.le_add_right _ _⟩
section
variable {P : Program} {f : Nat → Value} {C : World → Prop} {dst : Option Nat} {ty : TypeId} {pos : String} {af : Array Edge} {gd : Option (Nat × Bool)}
theorem v_makeFunc {fn : Fn} {xs : List Operand} {vs : List Value} (hx : xs.map (ev f) = vs) : Val P f C ⟨dst, .makeFunc fn #[] xs.toArray, ty, pos, af, gd⟩ (.func fn #[] vs.toArray) :=
 ⟨fun w _ => by simp [execOp, Instr.makeFunc, hx]⟩
theorem v_eqNil {x y : Operand} {T t' m : Nat} {a : Option Addr} {len cap : Nat} (hT : slB P T m = true) (hx : ev f x = .slice a len cap) (hy : ev f y = .slice none 0 0) : Val P f C ⟨dst, .binOp .eql T x y t', ty, pos, af, gd⟩ (.bool a.isNone) := by
 refine ⟨fun w _ => ?_⟩
 unfold slB at hT
 split at hT
 · rename_i e hu
   have hg : (eqGuard .eql T x y (.slice a len cap) (.slice none 0 0)).run P w = .ok () w := by
     simp [eqGuard]
   have he : (Op.equal T (.slice a len cap) (.slice none 0 0)).run P w = .ok a.isNone w := by
     unfold Op.equal
     show (Op.equalIn (_ + 1) T _ _).run P w = _
     unfold Op.equalIn
     simp only [Sem.run_bind]
     rw [run_underlying hu]
     cases a <;> simp
   simp [execOp, hx, hy, hg, binOp, he]
 · cases hT
variable {ops : Array Oper} {K : (Nat → Value) → World → Prop} {rest : List Oper} {d : Nat} {w0 : World} {F : Addr → Value → Prop} {E L : List (Nat × Obj)}
theorem s_build0 {T e m by_ : Nat} (hT : rowB P T e m by_ = true) (kk : ∀ b, sC P ops K rest (upd f d (.slice (some ⟨b, 0, none⟩) 0 0)) (Has w0 F ((b, .cells #[] e) :: L))) :
   sC P ops K (⟨some d, .buildSlice T 0 #[], ty, pos, af, none⟩ :: rest) f (Has w0 F L) := by
 intro w hw
 obtain ⟨i, z, hu, hi, h1, h2, h3, h4⟩ := rowB_spec hT
 have : (Instr.buildSlice T 0 #[]).run P w = .ok (.slice (some ⟨w.heap.size, 0, none⟩) 0 0) (w.alloc (.cells #[] e)) := by
   simp [Instr.buildSlice, run_underlying hu, sizeOf, typeInfo, zeroValue, hi, h3, newRow, Instr.fill, show Array.range 0 = (#[] : Array Nat) from rfl]
 unfold sw
 rw [if_pos wanted_free]
 unfold opk
 have hr : (execOp (ev f) ⟨some d, .buildSlice T 0 #[], ty, pos, af, none⟩).run P w = .ok (.value (.slice (some ⟨w.heap.size, 0, none⟩) 0 0)) (w.alloc (.cells #[] e)) := by
   simp [execOp, this]
 rw [hr]
 exact kk _ _ (hw.alloc _)
theorem run_appendCopy0 {w : World} {T ty : TypeId} {g b o pl pc : Nat} {ps : List PayS} (hT : paySliceB P T = true) (hpos : 0 < pl) (hb : pl * 48 ≤ 281474976710656) (hl : ps.length = pl)
   (hc : ∀ (j : Nat) (p : PayS), ps[j]? = some p → ∀ (k : Nat) (v : Value), p.cells[k]? = some v → w.cell? ⟨b, o + j * 6 + k, none⟩ = some v) :
   ∃ (c : Nat) (cs : Array Value), pl ≤ c ∧ cs.size = c * 6 ∧ (∀ (i : Nat) (v : Value), (flatC ps)[i]? = some v → cs[i]? = some v) ∧ (Builtin.append_ #[T, T] ty #[.slice (some ⟨g, 0, none⟩) 0 0, .slice (some ⟨b, o, none⟩) pl pc]).run P w = .ok (.slice (some ⟨w.heap.size, 0, none⟩) pl c) (w.drew.alloc (.cells cs (payElem P T))) := by
 obtain ⟨i, z, hu, hs, hi, hby, hz, hzs⟩ := paySliceB_spec hT
 have hsz : ∀ w, (sizeOf (payElem P T)).run P w = .ok 6 w := fun w => sizeB_run hs
 have hld := load_pays (P := P) (w := w.drew) (b := b) (o := o) hl (fun j p hj k v hv => by simpa using hc j p hj k v hv)
 have hld0 : ∀ w : World, (loadCells ⟨g, 0, none⟩ (0 * 6)).run P w = .ok #[] w := fun w => by simp [loadCells, loadCellsFrom]
 have hcap : Builtin.nextslicecap pl 0 = pl := by unfold Builtin.nextslicecap; rw [if_pos (by omega)]
 have hask : ∀ n w, (askRoom n).run P w = .ok () w := by intro n w; unfold askRoom; split <;> rfl
 have hch : (choose (.appendCap pl 0 (payElem P T))).run P w = .ok (pl + w.tape w.drawn (.appendCap pl 0 (payElem P T)) % (2 ^ 63 - pl)) w.drew := by
   unfold choose
   simp only [Sem.run, Question.forced, Question.cut, Bool.false_eq_true, if_false]
   rfl
 generalize hcc : pl + w.tape w.drawn (.appendCap pl 0 (payElem P T)) % (2 ^ 63 - pl) = c at hch
 refine ⟨c, (flatC ps).toArray ++ Builtin.zeroCells z (c - pl), by omega, ?_, ?_, ?_⟩
 · have : (Builtin.zeroCells z (c - pl)).size = (c - pl) * 6 := by simp [Builtin.zeroCells, hzs]
   rw [Array.size_append, this]
   simp [flatC_length, hl]
   omega
 · intro j v hv
   rw [Array.getElem?_append_left (by simpa using (List.getElem?_eq_some_iff.1 hv).1)]
   simpa using hv
 · have hn : ¬ pl ≤ 0 := by omega
   have hlt : ¬ 2 ^ 48 < pl * 48 := by omega
   have hov : ¬ (IntKind.i64.max < (pl : Int) ∧ i.bytes = 0) := by rw [hby]; simp
   have hzv : (zeroValue (payElem P T)).run P w.drew = .ok (.agg z) w.drew := by simp [zeroValue, typeInfo, hi, hz]
   have hnew : ∀ (o : Obj) (w : World), Sem.run P (Sem.new o Sem.pure) w = .ok w.heap.size (w.alloc o) := fun _ _ => rfl
   have h0 : pl ≠ 0 := by omega
   have hn48 : ¬ 281474976710656 < pl * 48 := by omega
   simp only [Builtin.append_, Sem.run_bind, Sem.run_pure, Result.andThen_ok]
   simp [underlying, hu, hsz, Builtin.lenOf, h0, typeInfo, hi, hby, hcap, hn48, hch, hask, Builtin.firstCells, hld, hzv, Value.cells, newRow, newObj, hnew, loadCells, loadCellsFrom]
   have hcut : (Question.appendCap pl 0 (payElem P T)).cut (w.tape w.drawn (.appendCap pl 0 (payElem P T))) = c := hcc
   rw [if_neg (show ¬ (Question.appendCap pl 0 (payElem P T)).forced = true from Bool.false_ne_true), hcut]
   simp only [loadCells] at hld
   simp [hld, hzv, Value.cells]
theorem s_appendCopy0 {T : TypeId} {x y : Operand} {ats : Array TypeId} {g : Nat} {pa : Option Addr} {pl pc : Nat} {ps : List PayS} (hT : paySliceB P T = true) (hat : ats = #[T, T]) (hx : ev f x = .slice (some ⟨g, 0, none⟩) 0 0) (hy : ev f y = .slice pa pl pc) (hp : PaysIn F pa pl ps) (hb : pl * 48 ≤ 281474976710656) (h0 : 0 < pl)
   (k1 : ∀ (b c : Nat) (cs : Array Value), pl ≤ c → cs.size = c * 6 → CellsOf cs ps → sC P ops K rest (upd f d (.slice (some ⟨b, 0, none⟩) pl c)) (Has w0 F ((b, .cells cs (payElem P T)) :: L))) :
   sC P ops K (⟨some d, .call ⟨.builtin .append, #[x, y], ats⟩, ty, pos, af, none⟩ :: rest) f (Has w0 F L) := by
 intro w hw
 unfold sw
 rw [if_pos wanted_free]
 unfold opk
 subst hat
 rcases hp.2 with h | ⟨b, o, rfl, hc⟩
 · exact absurd h (by omega)
 · obtain ⟨c, cs, h1, h2, h3, h4⟩ := run_appendCopy0 (P := P) (w := w) (T := T) (ty := ty) (g := g) (b := b) (o := o) (pl := pl) (pc := pc) hT h0 hb hp.1 (fun j p hj k v hv => hw.at _ _ (hc j p hj k v hv))
   have hr : (execOp (ev f) ⟨some d, .call ⟨.builtin .append, #[x, y], #[T, T]⟩, ty, pos, af, none⟩).run P w = .ok (.value (.slice (some ⟨w.heap.size, 0, none⟩) pl c)) (w.drew.alloc (.cells cs (payElem P T))) := by
     simp [execOp, resolve, invoke, builtin, hx, hy, h4]
   rw [hr]
   exact k1 _ c cs h1 h2 (fun j p hj k v hv => h3 _ _ (flatC_get ps j p hj k v hv)) _ (hw.drew.alloc _)
theorem s_pushAll {T e by_ n c : Nat} {ats : Array TypeId} {x y : Operand} {v : Value} {xs : List Value} {a : Option Addr} {ys : List Int} (hT : rowB P T e 1 by_ = true) (hbb : Nat.ble 1 by_ = true) (hat : ats = #[T, T])
   (hx : ev f x = v) (hy : ev f y = .slice a ys.length c) (hE : ListE e 1 v n xs E) (hi : IntsAt F a ys) (hbytes : (n + ys.length) * by_ ≤ 140737488355328)
   (kk : ∀ v' E', ListE e 1 v' (n + ys.length) (xs ++ ys.map I) E' → sC P ops K rest (upd f d v') (Has w0 F (E' ++ L))) :
   sC P ops K (⟨some d, .call ⟨.builtin .append, #[x, y], ats⟩, ty, pos, af, none⟩ :: rest) f (Has w0 F (E ++ L)) := by
 intro w hw
 subst hat
 unfold sw
 rw [if_pos wanted_free]
 unfold opk
 have hrun : ∀ v' w', (Builtin.append_ #[T, T] ty #[v, .slice a ys.length c]).run P w = .ok v' w' → (execOp (ev f) ⟨some d, .call ⟨.builtin .append, #[x, y], #[T, T]⟩, ty, pos, af, none⟩).run P w = .ok (.value v') w' := by
   intro v' w' hr
   simp [execOp, resolve, invoke, builtin, hx, hy, hr]
 cases ys with
 | nil =>
   obtain ⟨i, z, hu, hii, hs, hby, hz, hzs⟩ := rowB_spec hT
   have hsz : ∀ w, (sizeOf e).run P w = .ok 1 w := fun w => by simp [sizeOf, typeInfo, hii, hs]
   have : (Builtin.append_ #[T, T] ty #[v, .slice a 0 c]).run P w = .ok v w := by
     rcases hE.2 with ⟨rfl, rfl, rfl⟩ | ⟨g, cap, cur, rfl, rfl, hnc, hcm, hcs, htake⟩
     · cases a <;> simp [Builtin.append_, underlying, hu, hsz, Builtin.lenOf, Builtin.firstCells, loadCells, loadCellsFrom]
     · cases a <;> simp [Builtin.append_, underlying, hu, hsz, Builtin.lenOf, Builtin.firstCells, loadCells, loadCellsFrom, hnc, storeCells]
   rw [hrun _ _ this]
   exact kk v E (by simpa using hE) w hw
 | cons y0 r =>
   obtain ⟨b, o, rfl, hF⟩ := hi.resolve_left (by simp)
   obtain ⟨v', E', w', hr, hE', hw'⟩ := run_appendE (P := P) (w0 := w0) (F := F) (L := L) (c := c) (ty := ty) (b := b) (o := o) (mm := (y0 :: r).length) (news := (y0 :: r).map I) hT (by decide) hE hw (by simp) (fun j u hj => by
     rw [List.getElem?_map] at hj
     cases hy' : (y0 :: r)[j]? with
     | none => rw [hy'] at hj; cases hj
     | some q =>
       rw [hy'] at hj
       simp only [Option.map_some, Option.some.injEq] at hj
       subst hj
       exact hw.at _ _ (hF j q hy')) (fun u hu => by
     obtain ⟨q, _, rfl⟩ := List.mem_map.1 hu
     rfl) (by simp) hbytes (Nat.le_of_ble_eq_true hbb)
   rw [hrun _ _ hr]
   exact kk v' E' hE' w' hw'
end
end Go.Proofs.YtmkboljfbmlebacGreat
namespace Go.Proofs.YtmkboljfbmlebacGreat
open Go.RowKit
set_option linter.unusedSimpArgs false
set_option linter.unusedVariables false
structure NearG (k : Int) (h : H) : Prop where
 near : Near k h
 cred : ∀ i : Int, 0 ≤ i ∧ i < 4 → 0 ≤ h.cred i ∧ h.cred i ≤ 1000000
 lim : ∀ i j : Int, 0 ≤ i ∧ i < 4 → 0 ≤ j ∧ j < 4 → -1 ≤ h.lim i j ∧ h.lim i j ≤ 1000000
theorem GoodH.nearG {h : H} (g : GoodH h) : NearG 0 h := ⟨g.near, g.cred, g.lim⟩
theorem NearG.ofCore {k : Int} {h : H} (g : NearG k h.core) : NearG k h := ⟨⟨g.near.has, g.near.sent⟩, g.cred, g.lim⟩
theorem NearG.mono {k k' : Int} {h : H} (g : NearG k h) (hk : k ≤ k') : NearG k' h :=
 ⟨⟨fun i hi => by have := g.near.has i hi; omega, fun i j hi hj => by have := g.near.sent i j hi hj; omega⟩, g.cred, g.lim⟩
theorem may_near {h : H} {k : Int} (g : NearG k h) (hk : k ≤ 1000000) (a b n : Int) : mayM h a b n = maySendM h a b n := by
 unfold mayM maySendM
 cases ht : goodTransferB a b n
 · rfl
 · obtain ⟨ha, hb, hne, h1, h2⟩ := transfer_spec ht
   have e1 := g.near.has a ha
   have e2 := g.cred a ha
   have e3 := g.near.sent a b ha hb
   have e4 := g.near.sent b a hb ha
   have e5 := g.lim a b ha hb
   have l : leftM h a = h.has a + h.cred a := by
     unfold leftM
     rw [isBank_of ha]
     simp only [Bool.not_true, Bool.false_eq_true, if_false]
     exact wr_in (by omega) (by omega)
   have nn : netM h a b = h.sent a b - h.sent b a := by
     unfold netM
     rw [isBank_of ha, isBank_of hb]
     simp only [Bool.not_true, Bool.or_self, Bool.false_eq_true, if_false]
     exact wr_in (by omega) (by omega)
   rw [l, nn, wr_in (a := h.has a - n) (by omega) (by omega), wr_in (a := 0 - h.cred a) (by omega) (by omega), wr_in (a := h.sent a b - h.sent b a) (by omega) (by omega)]
   have d1 : decide (h.has a + h.cred a < n) = decide (h.has a - n < 0 - h.cred a) := by rw [Bool.eq_iff_iff]; simp; omega
   have d2 : decide (h.lim a b = -1) = decide (h.lim a b ≤ -1) := by rw [Bool.eq_iff_iff]; simp; omega
   rw [d1, d2]
theorem NearG.move {k : Int} {h : H} (g : NearG k h) (h0 : 0 ≤ k) (hk : k ≤ 1000000) {a b n : Int} (ht : goodTransferB a b n = true) : NearG (k + 1) (moveM h a b n) := by
 obtain ⟨ha, hb, hne, h1, h2⟩ := transfer_spec ht
 rw [move_at g.near hk ht]
 refine ⟨⟨fun i hi => ?_, fun i j hi hj => ?_⟩, g.cred, g.lim⟩
 · have e1 := g.near.has i hi
   have e2 := g.near.has a ha
   have e3 := g.near.has b hb
   simp only [up1]
   split
   · omega
   · split <;> omega
 · have e1 := g.near.sent i j hi hj
   have e2 := g.near.sent a b ha hb
   simp only [up2]
   split <;> omega
theorem NearG.settle {k : Int} {c : H} {ps : List PayS} (g : NearG k c) (h0 : 0 ≤ k) (hk : k ≤ 1000000) (hg : GoodPs ps) (n : Int) : NearG (k + 1) (settleC c ps n) := by
 unfold settleC
 split
 · rename_i p hs
   exact g.move h0 hk (pay_transfer (hg p (List.mem_of_getElem? (settles_spec hs).2.1)))
 · exact g.mono (by omega)
theorem drain_near (bank : Int) : ∀ (m : Nat) (s : QS) (k : Int), cnt s.ps = m → GoodPs s.ps → NearG k s.c → 0 ≤ k → k + m ≤ 1000000 → NearG (k + m - cnt (drain bank s).ps) (drain bank s).c ∧ GoodPs (drain bank s).ps := by
 intro m
 induction m using Nat.strongRecOn with
 | _ m ih =>
   intro s k hm hg hn h0 hk
   cases h : firstM s.c s.ps bank with
   | none => rw [drain_end h, hm]; exact ⟨hn.mono (by omega), hg⟩
   | some i =>
     rw [drain_go h]
     obtain ⟨p, r, _, h1, _⟩ := firstM_spec h
     have hc := cnt_settle h1
     have := ih (cnt (settleP s.ps i)) (by omega) (s.go i) (k + 1) rfl (settleP_good hg i) (hn.settle h0 (by omega) hg i) (by omega) (by omega)
     refine ⟨this.1.mono ?_, this.2⟩
     omega
end Go.Proofs.YtmkboljfbmlebacGreat
namespace Go.Proofs.YtmkboljfbmlebacGreat
open Go.RowKit
set_option linter.unusedSimpArgs false
set_option linter.unusedVariables false
theorem c_weak {P : Program} {n : Nat} {y : Code} {Q : Exit → (Nat → Value) → World → Prop} {f : Nat → Value} {C C' : World → Prop} (hc : ∀ w, C w → C' w) (h : cC P n y Q f C') : cC P n y Q f C := fun w hw => h w (hc w hw)
theorem IntsAt.take {F : Addr → Value → Prop} {a : Option Addr} {xs : List Int} (h : IntsAt F a xs) (k : Nat) : IntsAt F a (xs.take k) := by
 rcases h with rfl | ⟨b, o, h1, h2⟩
 · exact .inl (by simp)
 · refine .inr ⟨b, o, h1, fun j x hj => h2 j x ?_⟩
   rw [List.getElem?_take] at hj
   split at hj
   · exact hj
   · cases hj
def IntsRoom (xs : List Int) : (Addr → Value → Prop) → Value → Prop := fun F v => ∃ a c, v = .slice a xs.length c ∧ xs.length ≤ c ∧ IntsAt F a xs
theorem room_mono (xs : List Int) : Mono (IntsRoom xs) := by
 rintro F F' v hm ⟨a, c, h1, h2, h3⟩
 exact ⟨a, c, h1, h2, h3.mono hm⟩
theorem room_of_list {F : Addr → Value → Prop} {e : Nat} {v : Value} {xs : List Int} {E : List (Nat × Obj)} (h : ListE e 1 v xs.length (xs.map I) E) (hk : Knows F E) : IntsRoom xs F v := by
 obtain ⟨a, c, hv, hi⟩ := (ints_of_list h hk).at
 refine ⟨a, c, hv, ?_, hi⟩
 rcases h.2 with ⟨rfl, h2, rfl⟩ | ⟨g, cap, cur, rfl, rfl, h3, h4, h5, h6⟩
 · omega
 · simp at hv; omega
structure SbG where
 F : Addr → Value → Prop
 h : H
 ps : List PayS
 k : Nat
structure SbOk (w : World) (F0 : Addr → Value → Prop) (h0 : H) (ps0 : List PayS) (bank : Int) (nr : Int) (t : SbG) : Prop where
 more : More F0 t.F
 pays : PaysIn t.F t.h.pa t.h.pl t.ps
 out : (t.h.pa = h0.pa ∧ t.h.pl = h0.pl ∧ t.ps = ps0) ∨ PaysIn (Young w t.F) t.h.pa t.h.pl t.ps
 len : t.h.pl = h0.pl
 lc : t.h.pl ≤ t.h.pc
 seqs : SeqsApart t.ps
 good : GoodPs t.ps
 near : NearG (nr + t.k) t.h.core
 kl : t.k ≤ (queueM ps0 bank).length
 queue : queueM t.ps bank = (queueM ps0 bank).drop t.k
 goes : drain bank ⟨t.h.core, t.ps, (queueM ps0 bank).take t.k⟩ = drain bank ⟨h0.core, ps0, []⟩
section
variable {w : World} {F0 : Addr → Value → Prop} {h0 : H} {ps0 : List PayS} {bank nr : Int} {t : SbG}
theorem sb_start {h : H} {ps : List PayS} (hp : PaysIn (At w) h.pa h.pl ps) (hF : More (At w) F0) (hlc : h.pl ≤ h.pc) (hsa : SeqsApart ps) (hg : GoodPs ps) (hn : NearG nr h.core) : SbOk w F0 h ps bank nr ⟨F0, h, ps, 0⟩ :=
 ⟨fun _ _ h => h, hp.mono hF, .inl ⟨rfl, rfl, rfl⟩, rfl, hlc, hsa, hg, by simpa using hn, Nat.zero_le _, by simp, by simp⟩
theorem SbOk.step (o : SbOk w F0 h0 ps0 bank nr t) {n : Int} (hn : (queueM ps0 bank)[t.k]? = some n) :
   ∃ p, settles t.ps n = some p ∧ t.ps[n.toNat]? = some p ∧ p.src = bank ∧ queueM t.ps bank = n :: (queueM ps0 bank).drop (t.k + 1) ∧ 0 ≤ n ∧ n.toNat < t.h.pl ∧ n < t.h.pl := by
 have hk : t.k < (queueM ps0 bank).length := (List.getElem?_eq_some_iff.1 hn).1
 have hd : (queueM ps0 bank).drop t.k = n :: (queueM ps0 bank).drop (t.k + 1) := by rw [List.drop_eq_getElem_cons hk]; congr 1; exact (List.getElem?_eq_some_iff.1 hn).2
 have hq := o.queue
 rw [hd] at hq
 obtain ⟨p, h1, h2, _, h3⟩ := (queueM_mine (show n ∈ queueM t.ps bank by rw [hq]; simp)).settles
 have hlt := (List.getElem?_eq_some_iff.1 h2).1
 have := o.pays.1
 have h4 := (settles_spec h1).1
 exact ⟨p, h1, h2, h3, hq, h4, by omega, by omega⟩
theorem SbOk.may (o : SbOk w F0 h0 ps0 bank nr t) (hnr : nr + (queueM ps0 bank).length ≤ 1000000) (a b n : Int) : mayM t.h a b n = maySendM t.h.core a b n := by
 have hk := o.kl
 exact (may_near o.near.ofCore (by omega) a b n).trans rfl
theorem SbOk.stop (o : SbOk w F0 h0 ps0 bank nr t) (hf : firstM t.h.core t.ps bank = none) : drain bank ⟨h0.core, ps0, []⟩ = ⟨t.h.core, t.ps, (queueM ps0 bank).take t.k⟩ := by
 rw [← o.goes]; exact drain_end hf
theorem SbOk.fin (o : SbOk w F0 h0 ps0 bank nr t) (hk : ¬ (t.k : Int) < (queueM ps0 bank).length) : firstM t.h.core t.ps bank = none := by
 refine firstM_nil ?_
 rw [o.queue]; exact List.drop_eq_nil_of_le (by omega)
theorem SbOk.next (o : SbOk w F0 h0 ps0 bank nr t) (h0n : 0 ≤ nr) (hnr : nr + (queueM ps0 bank).length ≤ 1000000) {n : Int} {p : PayS} (hn : (queueM ps0 bank)[t.k]? = some n) (hs : settles t.ps n = some p) (hq : queueM t.ps bank = n :: (queueM ps0 bank).drop (t.k + 1)) (hm : maySendM t.h.core bank p.dst p.amt = true)
   {F' : Addr → Value → Prop} (hF : More t.F F') {h' : H} (hco : h'.core = settleC t.h.core t.ps n) (hlc : h'.pl ≤ h'.pc) (ho : (h'.pa = t.h.pa ∧ h'.pl = t.h.pl ∧ settleP t.ps n = t.ps) ∨ PaysIn (Young w F') h'.pa h'.pl (settleP t.ps n)) : SbOk w F0 h0 ps0 bank nr ⟨F', h', settleP t.ps n, t.k + 1⟩ := by
 have hk : t.k < (queueM ps0 bank).length := (List.getElem?_eq_some_iff.1 hn).1
 have hlen : h'.pl = t.h.pl := by
   rcases ho with ho | ho
   · exact ho.2.1
   · rw [← ho.1, settleP_len, o.pays.1]
 refine ⟨fun a v h => hF a v (o.more a v h), ?_, ?_, by simp only; rw [hlen, o.len], hlc, o.seqs.settle n, settleP_good o.good n, ?_, hk, queue_tail o.seqs hq, ?_⟩
 · rcases ho with ⟨h1, h2, h3⟩ | ho
   · simp only; rw [h1, h2, h3]; exact o.pays.mono hF
   · exact ho.mono (more_young w F')
 · rcases ho with ⟨h1, h2, h3⟩ | ho
   · simp only; rw [h1, h2, h3]
     exact o.out.imp id fun h => h.mono (young_mono hF)
   · exact .inr ho
 · simp only
   rw [hco]
   have := o.near.settle (by omega) (by omega) o.good n
   have e : nr + ((t.k + 1 : Nat) : Int) = nr + (t.k : Int) + 1 := by omega
   rw [e]; exact this
 · simp only
   rw [← o.goes, hco]
   have hf : firstM t.h.core t.ps bank = some n := firstM_yes hq (settles_spec hs).2.1 hm
   have e : (queueM ps0 bank).take (t.k + 1) = (queueM ps0 bank).take t.k ++ [n] := by rw [List.take_add_one, hn]; rfl
   rw [drain_go (s := ⟨t.h.core, t.ps, (queueM ps0 bank).take t.k⟩) hf, e]
   rfl
theorem SbOk.done (o : SbOk w F0 h0 ps0 bank nr t) (hf : firstM t.h.core t.ps bank = none) {w' : World} {L : List (Nat × Obj)} (hw : Has w t.F L w') {a : Option Addr} {c n : Nat} (hi : IntsAt (Young w F0) a (queueM ps0 bank)) (hn : n = t.k) : SweepF h0 ps0 (drain bank ⟨h0.core, ps0, []⟩) (Fresh w w') (.tuple #[.agg t.h.cells, .slice a n c]) := by
 rw [o.stop hf]
 have hl : ((queueM ps0 bank).take t.k).length = t.k := by rw [List.length_take]; have := o.kl; omega
 refine ⟨_, _, rfl, ⟨t.h, rfl, rfl, o.lc, o.out.imp id fun h => h.mono (young_fresh hw)⟩, a, c, ?_, (hi.take t.k).mono fun b v h => young_fresh hw b v (young_mono o.more b v h)⟩
 rw [hn, hl]
end
theorem SwOk.many {w : World} {h0 : H} {ps0 : List PayS} {e : Nat} {t : SwG} (k : SwOk w h0 ps0 e t) {F' : Addr → Value → Prop} (hF : More t.F F') {s : QS} (hlen : s.ps.length = t.ps.length) (hsum : s.xs.length + cnt s.ps = cnt t.ps) {h' : H} (hlc : h'.pl ≤ h'.pc)
   (ho : (h'.pa = t.h.pa ∧ h'.pl = t.h.pl ∧ s.ps = t.ps) ∨ PaysIn (Young w F') h'.pa h'.pl s.ps) {v' : Value} {E' : List (Nat × Obj)} (hl : ListE e 1 v' (t.xs.length + s.xs.length) (t.xs.map I ++ s.xs.map I) E') (b d : Nat) :
   SwOk w h0 ps0 e ⟨F', h', s.ps, t.xs ++ s.xs, v', E', b, d⟩ := by
 have hl' : h'.pl = t.h.pl := by
   rcases ho with ho | ho
   · exact ho.2.1
   · rw [← ho.1, hlen, k.pays.1]
 refine ⟨?_, ?_, by simp only; rw [hl', k.len], hlc, by simpa using hl, ?_⟩
 · rcases ho with ⟨h1, h2, h3⟩ | ho
   · simp only; rw [h1, h2, h3]; exact k.pays.mono hF
   · exact ho.mono (more_young w F')
 · rcases ho with ⟨h1, h2, h3⟩ | ho
   · simp only; rw [h1, h2, h3]
     exact k.out.imp id fun h => h.mono (young_mono hF)
   · exact .inr ho
 · have := k.sum
   simp only [List.length_append]; omega
structure SpOk (w : World) (h0 : H) (ps0 : List PayS) (e : Nat) (t : SwG) : Prop where
 sw : SwOk w h0 ps0 e t
 seqs : SeqsApart t.ps
 good : GoodPs t.ps
 near : NearG ((ps0.length : Int) - cnt t.ps) t.h.core
 cl : cnt t.ps ≤ ps0.length
 i4 : t.idle ≤ 4
 goes : sweepFrom (t.bank % 4) t.idle t.q = sweepM h0.core ps0
theorem sp_start {w : World} {h : H} {ps : List PayS} {e : Nat} (hp : PaysIn (At w) h.pa h.pl ps) (hlc : h.pl ≤ h.pc) (hg : goodB h.core ps = true) : SpOk w h ps e ⟨At w, h, ps, [], .slice none 0 0, [], 0, 0⟩ := by
 have hc : cnt ps ≤ ps.length := List.countP_le_length
 obtain ⟨h1, h2, _⟩ := good_pays hg
 refine ⟨swOk_start hp hlc, h2, h1, (GoodH.nearG (good_of hg)).mono (by simp only; omega), hc, by simp, ?_⟩
 simp only [sweepM, hg, cond_true]
 rfl
theorem SpOk.step {w : World} {h0 : H} {ps0 : List PayS} {e : Nat} {t : SwG} (o : SpOk w h0 ps0 e t) (hg : goodB h0.core ps0 = true) (hl : ps0.length ≤ 24) (hk : t.bank < 4) {F' : Addr → Value → Prop} (hF : More t.F F') {h' : H} (hco : h'.core = (drain t.bank ⟨t.h.core, t.ps, []⟩).c) (hlc : h'.pl ≤ h'.pc)
   (ho : (h'.pa = t.h.pa ∧ h'.pl = t.h.pl ∧ (drain t.bank ⟨t.h.core, t.ps, []⟩).ps = t.ps) ∨ PaysIn (Young w F') h'.pa h'.pl (drain t.bank ⟨t.h.core, t.ps, []⟩).ps) {v' : Value} {E' : List (Nat × Obj)}
   (hli : ListE e 1 v' (t.xs.length + (drain t.bank ⟨t.h.core, t.ps, []⟩).xs.length) (t.xs.map I ++ (drain t.bank ⟨t.h.core, t.ps, []⟩).xs.map I) E') :
   ∃ i, SpOk w h0 ps0 e ⟨F', h', (drain t.bank ⟨t.h.core, t.ps, []⟩).ps, t.xs ++ (drain t.bank ⟨t.h.core, t.ps, []⟩).xs, v', E', t.bank + 1, i⟩ ∧ ((t.xs ++ (drain t.bank ⟨t.h.core, t.ps, []⟩).xs).length = t.xs.length → i = 4 ∨ i = t.idle + 1) := by
 have hd := drain_app t.bank t.h.core t.ps t.xs
 have hgo := o.goes
 rw [Nat.mod_eq_of_lt hk] at hgo
 obtain ⟨i, h1, h2, h3⟩ := pass_step hg hk o.i4 hgo
 have hq : drain t.bank t.q = ⟨(drain t.bank ⟨t.h.core, t.ps, []⟩).c, (drain t.bank ⟨t.h.core, t.ps, []⟩).ps, t.xs ++ (drain t.bank ⟨t.h.core, t.ps, []⟩).xs⟩ := hd
 rw [hq] at h2 h3
 have hf := drain_facts t.bank ⟨t.h.core, t.ps, []⟩
 have hke := drain_keeps t.bank _ ⟨t.h.core, t.ps, []⟩ rfl o.seqs
 have hcl := o.cl
 have hne := drain_near t.bank _ ⟨t.h.core, t.ps, []⟩ ((ps0.length : Int) - cnt t.ps) rfl o.good o.near (by omega) (by simp only; omega)
 simp only [List.length_nil, Nat.zero_add] at hf
 refine ⟨i, ⟨o.sw.many hF hke.2 hf.2.1 hlc ho hli _ _, hke.1, hne.2, ?_, by simp only; omega, h1, ?_⟩, h3⟩
 · simp only
   rw [hco]
   exact hne.1.mono (by simp only; omega)
 · simp only [SwG.q]
   rw [hco]
   exact h2
end Go.Proofs.YtmkboljfbmlebacGreat
namespace Go.Proofs.YtmkboljfbmlebacGreat
open Go.RowKit
set_option linter.unusedSimpArgs false
set_option linter.unusedVariables false
structure KF where
 k : Nat
 F : Addr → Value → Prop
end Go.Proofs.YtmkboljfbmlebacGreat
namespace Go.Proofs.YtmkboljfbmlebacGreat
open Go.RowKit
set_option linter.unusedSimpArgs false
set_option linter.unusedVariables false
theorem a4_true {p : Int → Bool} : a4 p = true ↔ ∀ i : Int, 0 ≤ i ∧ i < 4 → p i = true := by
 simp only [a4, Bool.and_eq_true]
 constructor
 · rintro ⟨⟨⟨h0, h1⟩, h2⟩, h3⟩ i ⟨a, b⟩
   have : i = 0 ∨ i = 1 ∨ i = 2 ∨ i = 3 := by omega
   rcases this with rfl | rfl | rfl | rfl <;> assumption
 · intro h
   exact ⟨⟨⟨h 0 (by omega), h 1 (by omega)⟩, h 2 (by omega)⟩, h 3 (by omega)⟩
def firsts (ps : List PayS) (n : Int → Int) (b : Int) : List Int := (queueM ps b).take (n b).toNat
def inS (ps : List PayS) (n : Int → Int) (d : Int) : Int := toS ps d (firsts ps n 0) + toS ps d (firsts ps n 1) + toS ps d (firsts ps n 2) + toS ps d (firsts ps n 3)
theorem queue_goodL {ps : List PayS} (hg : GoodPs ps) (b : Int) : GoodL ps b (queueM ps b) := fun i hi => by
 obtain ⟨_, p, hp, _, hs⟩ := queueM_mine hi
 exact ⟨p, hp, by rw [← hs]; exact pay_transfer (hg p (List.mem_of_getElem? hp))⟩
theorem GoodL.take {ps : List PayS} {b : Int} {xs : List Int} (h : GoodL ps b xs) (k : Nat) : GoodL ps b (xs.take k) := fun i hi => h i (List.mem_of_mem_take hi)
theorem queueM_len (ps : List PayS) (b : Int) : (queueM ps b).length ≤ ps.length := queueTo_len ps b ps.length
structure StandsAt (h : H) (ps : List PayS) (n : Int → Int) (x : H) : Prop where
 has : ∀ i : Int, 0 ≤ i ∧ i < 4 → x.has i = h.has i - outS ps (firsts ps n i) + inS ps n i
 sent : ∀ i j : Int, 0 ≤ i ∧ i < 4 → 0 ≤ j ∧ j < 4 → x.sent i j = h.sent i j + toS ps j (firsts ps n i)
 cred : x.cred = h.cred
 lim : x.lim = h.lim
 near : Near 96 x
theorem moves_spec {h : H} {ps : List PayS} (hg : goodB h ps = true) (n : Int → Int) : StandsAt h ps n (movesTo h ps n 4) := by
 obtain ⟨g1, _, g3⟩ := good_pays hg
 have gl : ∀ b : Int, GoodL ps b (firsts ps n b) := fun b => (queue_goodL g1 b).take _
 have ll : ∀ b : Int, (firsts ps n b).length ≤ 24 := fun b => by
   have := queueM_len ps b
   unfold firsts
   rw [List.length_take]; omega
 have h0 := moveQ_spec ps 0 (firsts ps n 0) h 0 (gl 0) (good_of hg).near (by omega) (by have := ll 0; omega)
 have e1 : movesTo h ps n 1 = moveQ ps 0 h (firsts ps n 0) := rfl
 rw [← e1] at h0
 obtain ⟨a1, a2, a3, a4, a5⟩ := h0
 have h1 := moveQ_spec ps 1 (firsts ps n 1) _ _ (gl 1) a5 (by omega) (by have := ll 0; have := ll 1; omega)
 have e2 : movesTo h ps n 2 = moveQ ps 1 (movesTo h ps n 1) (firsts ps n 1) := rfl
 rw [← e2] at h1
 obtain ⟨b1, b2, b3, b4, b5⟩ := h1
 have h2 := moveQ_spec ps 2 (firsts ps n 2) _ _ (gl 2) b5 (by omega) (by have := ll 0; have := ll 1; have := ll 2; omega)
 have e3 : movesTo h ps n 3 = moveQ ps 2 (movesTo h ps n 2) (firsts ps n 2) := rfl
 rw [← e3] at h2
 obtain ⟨c1, c2, c3, c4, c5⟩ := h2
 have h3 := moveQ_spec ps 3 (firsts ps n 3) _ _ (gl 3) c5 (by omega) (by have := ll 0; have := ll 1; have := ll 2; have := ll 3; omega)
 have e4 : movesTo h ps n 4 = moveQ ps 3 (movesTo h ps n 3) (firsts ps n 3) := rfl
 rw [← e4] at h3
 obtain ⟨d1, d2, d3, d4, d5⟩ := h3
 refine ⟨fun i hi => ?_, fun i j hi hj => ?_, by rw [d3, c3, b3, a3], by rw [d4, c4, b4, a4], ⟨fun i hi => ?_, fun i j hi hj => ?_⟩⟩
 · rw [d1 i hi, c1 i hi, b1 i hi, a1 i hi]
   unfold inS
   have : i = 0 ∨ i = 1 ∨ i = 2 ∨ i = 3 := by omega
   rcases this with rfl | rfl | rfl | rfl <;> simp <;> omega
 · rw [d2 i j hi hj, c2 i j hi hj, b2 i j hi hj, a2 i j hi hj]
   have : i = 0 ∨ i = 1 ∨ i = 2 ∨ i = 3 := by omega
   rcases this with rfl | rfl | rfl | rfl <;> simp
 · have := d5.has i hi
   have := ll 0; have := ll 1; have := ll 2; have := ll 3
   omega
 · have := d5.sent i j hi hj
   have := ll 0; have := ll 1; have := ll 2; have := ll 3
   omega
theorem ok_iff {x : H} (hn : Near 96 x) (hc : ∀ i : Int, 0 ≤ i ∧ i < 4 → 0 ≤ x.cred i ∧ x.cred i ≤ 1000000) {b : Int} (hb : 0 ≤ b ∧ b < 4) :
   okBank x b = true ↔ 0 ≤ x.has b + x.cred b ∧ ∀ t : Int, 0 ≤ t ∧ t < 4 → 0 ≤ x.lim b t → x.sent b t - x.sent t b ≤ x.lim b t := by
 have h1 := hn.has b hb
 have h2 := hc b hb
 unfold okBank
 rw [Bool.and_eq_true, a4_true, wr_in (by omega) (by omega)]
 simp only [Bool.not_eq_true', decide_eq_false_iff_not, Bool.and_eq_false_iff]
 constructor
 · rintro ⟨e1, e2⟩
   refine ⟨by omega, fun t ht hl => ?_⟩
   have h3 := hn.sent b t hb ht
   have h4 := hn.sent t b ht hb
   have := e2 t ht
   rw [wr_in (by omega) (by omega)] at this
   omega
 · rintro ⟨e1, e2⟩
   refine ⟨by omega, fun t ht => ?_⟩
   have h3 := hn.sent b t hb ht
   have h4 := hn.sent t b ht hb
   rw [wr_in (by omega) (by omega)]
   have := e2 t ht
   omega
structure Poss (h : H) (ps : List PayS) (n : Int → Int) : Prop where
 good : goodB h ps = true
 size : ∀ b : Int, 0 ≤ b ∧ b < 4 → 0 ≤ n b ∧ n b ≤ (queueM ps b).length
 left : ∀ b : Int, 0 ≤ b ∧ b < 4 → n b ≠ 0 → 0 ≤ h.has b - outS ps (firsts ps n b) + inS ps n b + h.cred b
 lim : ∀ b t : Int, 0 ≤ b ∧ b < 4 → 0 ≤ t ∧ t < 4 → n b ≠ 0 → 0 ≤ h.lim b t → h.sent b t + toS ps t (firsts ps n b) - (h.sent t b + toS ps b (firsts ps n t)) ≤ h.lim b t
theorem poss_iff {h : H} {ps : List PayS} {n : Int → Int} : togetherM h ps n = true ↔ Poss h ps n := by
 unfold togetherM
 rw [Bool.and_eq_true, Bool.and_eq_true, a4_true, a4_true]
 constructor
 · rintro ⟨⟨hg, hs⟩, ho⟩
   have st := moves_spec hg n
   have gh := good_of hg
   have key : ∀ b : Int, 0 ≤ b ∧ b < 4 → n b ≠ 0 → _ := fun b hb hn => (ok_iff st.near (fun i hi => by rw [st.cred]; exact gh.cred i hi) hb).1 (by
     have := ho b hb
     simpa [hn] using this)
   refine ⟨hg, fun b hb => within_iff.1 (hs b hb), fun b hb hn => ?_, fun b t hb ht hn hl => ?_⟩
   · have := (key b hb hn).1
     rw [st.has b hb, st.cred] at this; exact this
   · have := (key b hb hn).2 t ht
     rw [st.lim, st.sent b t hb ht, st.sent t b ht hb] at this
     exact this hl
 · rintro ⟨hg, hs, hl, hi⟩
   have st := moves_spec hg n
   have gh := good_of hg
   refine ⟨⟨hg, fun b hb => within_iff.2 (hs b hb)⟩, fun b hb => ?_⟩
   by_cases hn : n b = 0
   · simp [hn]
   · simp only [hn, decide_false, Bool.false_or]
     refine (ok_iff st.near (fun i hi => by rw [st.cred]; exact gh.cred i hi) hb).2 ⟨?_, fun t ht h0 => ?_⟩
     · rw [st.has b hb, st.cred]; exact hl b hb hn
     · rw [st.lim] at h0 ⊢
       rw [st.sent b t hb ht, st.sent t b ht hb]; exact hi b t hb ht hn h0
theorem in_mono {ps : List PayS} (hg : GoodPs ps) {n m : Int → Int} (hnm : ∀ b : Int, 0 ≤ b ∧ b < 4 → n b ≤ m b) (b d : Int) (hb : 0 ≤ b ∧ b < 4) : toS ps d (firsts ps n b) ≤ toS ps d (firsts ps m b) :=
 toS_take ps d (queueM ps b) (toOf_nonneg (queue_goodL hg b) d) _ _ (by have := hnm b hb; omega)
theorem inS_mono {ps : List PayS} (hg : GoodPs ps) {n m : Int → Int} (hnm : ∀ b : Int, 0 ≤ b ∧ b < 4 → n b ≤ m b) (d : Int) : inS ps n d ≤ inS ps m d := by
 have e0 := in_mono hg hnm 0 d (by omega)
 have e1 := in_mono hg hnm 1 d (by omega)
 have e2 := in_mono hg hnm 2 d (by omega)
 have e3 := in_mono hg hnm 3 d (by omega)
 unfold inS; omega
theorem Poss.lift {h : H} {ps : List PayS} {n m : Int → Int} (p : Poss h ps n) (hnm : ∀ b : Int, 0 ≤ b ∧ b < 4 → n b ≤ m b) {b : Int} (hb : 0 ≤ b ∧ b < 4) (he : m b = n b) (hn : n b ≠ 0) :
   0 ≤ h.has b - outS ps (firsts ps m b) + inS ps m b + h.cred b ∧ ∀ t : Int, 0 ≤ t ∧ t < 4 → 0 ≤ h.lim b t → h.sent b t + toS ps t (firsts ps m b) - (h.sent t b + toS ps b (firsts ps m t)) ≤ h.lim b t := by
 have g1 := (good_pays p.good).1
 have e : firsts ps m b = firsts ps n b := by unfold firsts; rw [he]
 rw [e]
 have e1 := p.left b hb hn
 have e2 := inS_mono g1 hnm b
 refine ⟨by omega, fun t ht hl => ?_⟩
 have e3 := p.lim b t hb ht hn hl
 have e4 := in_mono g1 hnm t b ht
 omega
def joinM (n m : Int → Int) : Int → Int := fun b => if n b < m b then m b else n b
theorem Poss.join {h : H} {ps : List PayS} {n m : Int → Int} (p : Poss h ps n) (q : Poss h ps m) : Poss h ps (joinM n m) := by
 have l1 : ∀ b : Int, 0 ≤ b ∧ b < 4 → n b ≤ joinM n m b := fun b _ => by unfold joinM; split <;> omega
 have l2 : ∀ b : Int, 0 ≤ b ∧ b < 4 → m b ≤ joinM n m b := fun b _ => by unfold joinM; split <;> omega
 have key : ∀ b : Int, 0 ≤ b ∧ b < 4 → joinM n m b ≠ 0 → _ := fun b hb hne => by
   by_cases hlt : n b < m b
   · have e : joinM n m b = m b := by simp only [joinM, if_pos hlt]
     exact q.lift l2 hb e (by rw [← e]; exact hne)
   · have e : joinM n m b = n b := by simp only [joinM, if_neg hlt]
     exact p.lift l1 hb e (by rw [← e]; exact hne)
 refine ⟨p.good, fun b hb => ?_, fun b hb hne => (key b hb hne).1, fun b t hb ht hne hl => (key b hb hne).2 t ht hl⟩
 have e1 := p.size b hb
 have e2 := q.size b hb
 unfold joinM; split <;> omega
theorem poss_zero {h : H} {ps : List PayS} (hg : goodB h ps = true) {n : Int → Int} (hn : ∀ b : Int, 0 ≤ b ∧ b < 4 → n b = 0) : Poss h ps n :=
 ⟨hg, fun b hb => by rw [hn b hb]; omega, fun b hb h => absurd (hn b hb) h, fun b t hb ht h => absurd (hn b hb) h⟩
structure IsMost (h : H) (ps : List PayS) (m : Int → Int) : Prop where
 poss : Poss h ps m
 most : ∀ n, Poss h ps n → ∀ b : Int, 0 ≤ b ∧ b < 4 → n b ≤ m b
theorem IsMost.unique {h : H} {ps : List PayS} {m m' : Int → Int} (a : IsMost h ps m) (a' : IsMost h ps m') (b : Int) (hb : 0 ≤ b ∧ b < 4) : m b = m' b := by
 have := a.most m' a'.poss b hb
 have := a'.most m a.poss b hb
 omega
theorem most_of_one {h : H} {ps : List PayS} (hg : goodB h ps = true) (b : Int) (hb : 0 ≤ b ∧ b < 4) : ∃ n, Poss h ps n ∧ ∀ n', Poss h ps n' → n' b ≤ n b := by
 have go : ∀ (k : Nat) (n : Int → Int), Poss h ps n → (queueM ps b).length - (n b).toNat ≤ k → ∃ n, Poss h ps n ∧ ∀ n', Poss h ps n' → n' b ≤ n b := by
   intro k
   induction k with
   | zero =>
     intro n p hk
     refine ⟨n, p, fun n' p' => ?_⟩
     have := p.size b hb
     have := p'.size b hb
     omega
   | succ k ih =>
     intro n p hk
     by_cases hex : ∃ n', Poss h ps n' ∧ n b < n' b
     · obtain ⟨n', p', hlt⟩ := hex
       have := p.size b hb
       exact ih n' p' (by omega)
     · exact ⟨n, p, fun n' p' => by
         rcases Int.lt_or_le (n b) (n' b) with h | h
         · exact absurd ⟨n', p', h⟩ hex
         · exact h⟩
 exact go _ (fun _ => 0) (poss_zero hg (fun _ _ => rfl)) (Nat.le_refl _)
theorem most_exists {h : H} {ps : List PayS} (hg : goodB h ps = true) : ∃ m, IsMost h ps m := by
 obtain ⟨n0, p0, m0⟩ := most_of_one hg 0 (by omega)
 obtain ⟨n1, p1, m1⟩ := most_of_one hg 1 (by omega)
 obtain ⟨n2, p2, m2⟩ := most_of_one hg 2 (by omega)
 obtain ⟨n3, p3, m3⟩ := most_of_one hg 3 (by omega)
 refine ⟨joinM (joinM n0 n1) (joinM n2 n3), (p0.join p1).join (p2.join p3), fun n p b hb => ?_⟩
 have : b = 0 ∨ b = 1 ∨ b = 2 ∨ b = 3 := by omega
 rcases this with rfl | rfl | rfl | rfl
 · have := m0 n p; unfold joinM; repeat' split
   all_goals omega
 · have := m1 n p; unfold joinM; repeat' split
   all_goals omega
 · have := m2 n p; unfold joinM; repeat' split
   all_goals omega
 · have := m3 n p; unfold joinM; repeat' split
   all_goals omega
noncomputable def mostM (h : H) (ps : List PayS) : Int → Int := if hg : goodB h ps = true then Classical.choose (most_exists hg) else fun _ => 0
theorem mostM_is {h : H} {ps : List PayS} (hg : goodB h ps = true) : IsMost h ps (mostM h ps) := by
 unfold mostM
 rw [dif_pos hg]
 exact Classical.choose_spec (most_exists hg)
theorem mostM_bad {h : H} {ps : List PayS} (hg : goodB h ps = false) : mostM h ps = fun _ => 0 := by
 unfold mostM
 rw [dif_neg (by rw [hg]; decide)]
theorem mostM_row {h : H} {ps : List PayS} {m : Int → Int} (a : IsMost h ps m) : rowA (mostM h ps) = rowA m := by
 have u := fun b hb => (mostM_is a.poss.good).unique a b hb
 unfold rowA
 exact sameq _ _ (fun i hi => by unfold rowC; rw [u i (by omega)])
noncomputable def untieXs (h : H) (ps : List PayS) : List Int := firsts ps (mostM h ps) 0 ++ firsts ps (mostM h ps) 1 ++ firsts ps (mostM h ps) 2 ++ firsts ps (mostM h ps) 3
noncomputable def untieM (h : H) (ps : List PayS) : QS := ⟨chainC h ps (untieXs h ps), chainP ps (untieXs h ps), untieXs h ps⟩
end Go.Proofs.YtmkboljfbmlebacGreat
namespace Go.Proofs.YtmkboljfbmlebacGreat
open Go.RowKit
set_option linter.unusedSimpArgs false
set_option linter.unusedVariables false
theorem firsts_congr {ps : List PayS} {n m : Int → Int} {b : Int} (h : n b = m b) : firsts ps n b = firsts ps m b := by unfold firsts; rw [h]
theorem inS_congr {ps : List PayS} {n m : Int → Int} (h : ∀ b : Int, 0 ≤ b ∧ b < 4 → n b = m b) (d : Int) : inS ps n d = inS ps m d := by
 unfold inS
 rw [firsts_congr (h 0 (by omega)), firsts_congr (h 1 (by omega)), firsts_congr (h 2 (by omega)), firsts_congr (h 3 (by omega))]
theorem Poss.congr {h : H} {ps : List PayS} {n m : Int → Int} (p : Poss h ps n) (e : ∀ b : Int, 0 ≤ b ∧ b < 4 → n b = m b) : Poss h ps m :=
 ⟨p.good, fun b hb => by rw [← e b hb]; exact p.size b hb, fun b hb hn => by
   rw [← firsts_congr (e b hb), ← inS_congr e]; exact p.left b hb (by rw [e b hb]; exact hn), fun b t hb ht hn hl => by
   rw [← firsts_congr (e b hb), ← firsts_congr (e t ht)]; exact p.lim b t hb ht (by rw [e b hb]; exact hn) hl⟩
theorem Poss.core {h : H} {ps : List PayS} {n : Int → Int} : Poss h.core ps n ↔ Poss h ps n := ⟨fun p => ⟨p.good, p.size, p.left, p.lim⟩, fun p => ⟨p.good, p.size, p.left, p.lim⟩⟩
theorem together_core (h : H) (ps : List PayS) (n : Int → Int) : togetherM h.core ps n = togetherM h ps n := by
 rw [Bool.eq_iff_iff, poss_iff, poss_iff]; exact Poss.core
def Bef (n' n : Int → Int) : Prop := n' 3 < n 3 ∨ (n' 3 = n 3 ∧ (n' 2 < n 2 ∨ (n' 2 = n 2 ∧ (n' 1 < n 1 ∨ (n' 1 = n 1 ∧ n' 0 < n 0)))))
def Same4 (n' n : Int → Int) : Prop := n' 0 = n 0 ∧ n' 1 = n 1 ∧ n' 2 = n 2 ∧ n' 3 = n 3
theorem Same4.all {n' n : Int → Int} (h : Same4 n' n) : ∀ b : Int, 0 ≤ b ∧ b < 4 → n' b = n b := by
 obtain ⟨h0, h1, h2, h3⟩ := h
 intro b hb
 have : b = 0 ∨ b = 1 ∨ b = 2 ∨ b = 3 := by omega
 rcases this with rfl | rfl | rfl | rfl <;> assumption
def qLen (ps : List PayS) (b : Int) : Int := (queueM ps b).length
structure Odo (h : H) (ps : List PayS) (n best : Int → Int) : Prop where
 size : ∀ b : Int, 0 ≤ b ∧ b < 4 → 0 ≤ n b ∧ n b ≤ qLen ps b
 poss : Poss h ps best
 seen : ∀ n', Poss h ps n' → Bef n' n → ∀ b : Int, 0 ≤ b ∧ b < 4 → n' b ≤ best b
theorem odo_start {h : H} {ps : List PayS} (hg : goodB h ps = true) {n best : Int → Int} (hn : ∀ b : Int, 0 ≤ b ∧ b < 4 → n b = 0) (hb : ∀ b : Int, 0 ≤ b ∧ b < 4 → best b = 0) : Odo h ps n best := by
 refine ⟨fun b hb => ?_, poss_zero hg hb, fun n' p hbef => ?_⟩
 · rw [hn b hb]; unfold qLen; omega
 · exfalso
   have e0 := p.size 0 (by omega)
   have e1 := p.size 1 (by omega)
   have e2 := p.size 2 (by omega)
   have e3 := p.size 3 (by omega)
   unfold Bef at hbef
   rw [hn 0 (by omega), hn 1 (by omega), hn 2 (by omega), hn 3 (by omega)] at hbef
   omega
structure Seen (h : H) (ps : List PayS) (n best : Int → Int) : Prop where
 poss : Poss h ps best
 seen : ∀ n', Poss h ps n' → Bef n' n ∨ Same4 n' n → ∀ b : Int, 0 ≤ b ∧ b < 4 → n' b ≤ best b
theorem Odo.no {h : H} {ps : List PayS} {n best : Int → Int} (o : Odo h ps n best) (ht : togetherM h ps n = false) : Seen h ps n best :=
 ⟨o.poss, fun n' p hb => hb.elim (o.seen n' p) fun e => by
   have := (poss_iff).2 (p.congr e.all)
   rw [ht] at this; cases this⟩
theorem Odo.less {h : H} {ps : List PayS} {n best : Int → Int} (o : Odo h ps n best) (hl : ∀ b : Int, 0 ≤ b ∧ b < 4 → n b ≤ best b) : Seen h ps n best :=
 ⟨o.poss, fun n' p hb => hb.elim (o.seen n' p) fun e b hb => by rw [e.all b hb]; exact hl b hb⟩
theorem Odo.yes {h : H} {ps : List PayS} {n best best' : Int → Int} (o : Odo h ps n best) (ht : togetherM h ps n = true) (hb : ∀ b : Int, 0 ≤ b ∧ b < 4 → best' b = joinM best n b) : Seen h ps n best' := by
 have pn := poss_iff.1 ht
 refine ⟨(o.poss.join pn).congr fun b h => (hb b h).symm, fun n' p hbs b h => ?_⟩
 rw [hb b h]
 rcases hbs with hbs | e
 · have := o.seen n' p hbs b h
   unfold joinM; split <;> omega
 · rw [e.all b h]
   unfold joinM; split <;> omega
theorem Seen.next {h : H} {ps : List PayS} {n best n2 : Int → Int} (o : Seen h ps n best) (hs : ∀ b : Int, 0 ≤ b ∧ b < 4 → 0 ≤ n b ∧ n b ≤ qLen ps b) (k : Int) (hk : 0 ≤ k ∧ k < 4) (hlo : ∀ b : Int, 0 ≤ b → b < k → n b = qLen ps b ∧ n2 b = 0) (hat : n k ≠ qLen ps k ∧ n2 k = n k + 1) (hhi : ∀ b : Int, k < b → b < 4 → n2 b = n b) :
   Odo h ps n2 best ∧ n 0 + 25 * n 1 + 625 * n 2 + 15625 * n 3 < n2 0 + 25 * n2 1 + 625 * n2 2 + 15625 * n2 3 := by
 have hg := (good_pays o.poss.good).2.2
 have l24 : ∀ b, qLen ps b ≤ 24 := fun b => by have := queueM_len ps b; unfold qLen; omega
 have s0 := hs 0 (by omega)
 have s1 := hs 1 (by omega)
 have s2 := hs 2 (by omega)
 have s3 := hs 3 (by omega)
 have t0 := l24 0
 have t1 := l24 1
 have t2 := l24 2
 have t3 := l24 3
 have hk4 : k = 0 ∨ k = 1 ∨ k = 2 ∨ k = 3 := by omega
 rcases hk4 with rfl | rfl | rfl | rfl
 · have a0 := hat
   have b1 := hhi 1 (by omega) (by omega)
   have b2 := hhi 2 (by omega) (by omega)
   have b3 := hhi 3 (by omega) (by omega)
   refine ⟨⟨fun b hb => ?_, o.poss, fun n' p hbe => o.seen n' p ?_⟩, by omega⟩
   · have : b = 0 ∨ b = 1 ∨ b = 2 ∨ b = 3 := by omega
     rcases this with rfl | rfl | rfl | rfl <;> omega
   · have p0 := p.size 0 (by omega)
     have p1 := p.size 1 (by omega)
     have p2 := p.size 2 (by omega)
     have p3 := p.size 3 (by omega)
     unfold qLen at *
     unfold Bef Same4 at *
     omega
 · have a0 := hlo 0 (by omega) (by omega)
   have b1 := hat
   have b2 := hhi 2 (by omega) (by omega)
   have b3 := hhi 3 (by omega) (by omega)
   refine ⟨⟨fun b hb => ?_, o.poss, fun n' p hbe => o.seen n' p ?_⟩, by omega⟩
   · have : b = 0 ∨ b = 1 ∨ b = 2 ∨ b = 3 := by omega
     rcases this with rfl | rfl | rfl | rfl <;> omega
   · have p0 := p.size 0 (by omega)
     have p1 := p.size 1 (by omega)
     have p2 := p.size 2 (by omega)
     have p3 := p.size 3 (by omega)
     unfold qLen at *
     unfold Bef Same4 at *
     omega
 · have a0 := hlo 0 (by omega) (by omega)
   have b1 := hlo 1 (by omega) (by omega)
   have b2 := hat
   have b3 := hhi 3 (by omega) (by omega)
   refine ⟨⟨fun b hb => ?_, o.poss, fun n' p hbe => o.seen n' p ?_⟩, by omega⟩
   · have : b = 0 ∨ b = 1 ∨ b = 2 ∨ b = 3 := by omega
     rcases this with rfl | rfl | rfl | rfl <;> omega
   · have p0 := p.size 0 (by omega)
     have p1 := p.size 1 (by omega)
     have p2 := p.size 2 (by omega)
     have p3 := p.size 3 (by omega)
     unfold qLen at *
     unfold Bef Same4 at *
     omega
 · have a0 := hlo 0 (by omega) (by omega)
   have b1 := hlo 1 (by omega) (by omega)
   have b2 := hlo 2 (by omega) (by omega)
   have b3 := hat
   refine ⟨⟨fun b hb => ?_, o.poss, fun n' p hbe => o.seen n' p ?_⟩, by omega⟩
   · have : b = 0 ∨ b = 1 ∨ b = 2 ∨ b = 3 := by omega
     rcases this with rfl | rfl | rfl | rfl <;> omega
   · have p0 := p.size 0 (by omega)
     have p1 := p.size 1 (by omega)
     have p2 := p.size 2 (by omega)
     have p3 := p.size 3 (by omega)
     unfold qLen at *
     unfold Bef Same4 at *
     omega
theorem Seen.most {h : H} {ps : List PayS} {n best : Int → Int} (o : Seen h ps n best) (he : ∀ b : Int, 0 ≤ b ∧ b < 4 → n b = qLen ps b) : IsMost h ps best := by
 refine ⟨o.poss, fun n' p => o.seen n' p ?_⟩
 have p0 := p.size 0 (by omega)
 have p1 := p.size 1 (by omega)
 have p2 := p.size 2 (by omega)
 have p3 := p.size 3 (by omega)
 have e0 := he 0 (by omega)
 have e1 := he 1 (by omega)
 have e2 := he 2 (by omega)
 have e3 := he 3 (by omega)
 unfold qLen at *
 unfold Bef Same4
 omega
theorem settlesOf {ps : List PayS} {n : Int} {p : PayS} (h0 : 0 ≤ n) (hp : ps[n.toNat]? = some p) (hs : p.sta = 1) : settles ps n = some p := by simp [settles, h0, hp, hs]
theorem firsts_mine {ps : List PayS} {n : Int → Int} {b i : Int} (h : i ∈ firsts ps n b) : Mine ps b i := queueM_mine (List.mem_of_mem_take h)
theorem Mine.same {ps : List PayS} {a b i : Int} (h : Mine ps a i) (h' : Mine ps b i) : a = b := by
 obtain ⟨_, p, hp, _, h1⟩ := h
 obtain ⟨_, q, hq, _, h2⟩ := h'
 rw [hp] at hq; simp at hq; subst hq
 omega
def allFirsts (ps : List PayS) (n : Int → Int) : List Int := firsts ps n 0 ++ firsts ps n 1 ++ firsts ps n 2 ++ firsts ps n 3
theorem firsts_nodup (ps : List PayS) (n : Int → Int) (b : Int) : (firsts ps n b).Nodup := (List.take_sublist _ _).nodup (queueM_nodup ps b)
theorem allFirsts_nodup (ps : List PayS) (n : Int → Int) : (allFirsts ps n).Nodup := by
 unfold allFirsts
 have ne : ∀ {a b i j : Int}, a ≠ b → i ∈ firsts ps n a → j ∈ firsts ps n b → i ≠ j := fun hab hi hj e => hab (by
   subst e; exact (firsts_mine hi).same (firsts_mine hj))
 simp only [List.nodup_append, List.mem_append]
 refine ⟨⟨⟨firsts_nodup _ _ _, firsts_nodup _ _ _, fun a ha b hb => ne (by omega) ha hb⟩, firsts_nodup _ _ _, ?_⟩, firsts_nodup _ _ _, ?_⟩
 · rintro a (ha | ha) b hb
   · exact ne (by omega) ha hb
   · exact ne (by omega) ha hb
 · rintro a ((ha | ha) | ha) b hb
   · exact ne (by omega) ha hb
   · exact ne (by omega) ha hb
   · exact ne (by omega) ha hb
theorem allFirsts_settles {ps : List PayS} {n : Int → Int} {i : Int} (h : i ∈ allFirsts ps n) : ∃ p, settles ps i = some p := by
 unfold allFirsts at h
 simp only [List.mem_append] at h
 have : ∃ b, i ∈ firsts ps n b := by
   rcases h with ((h | h) | h) | h
   · exact ⟨_, h⟩
   · exact ⟨_, h⟩
   · exact ⟨_, h⟩
   · exact ⟨_, h⟩
 obtain ⟨b, hb⟩ := this
 obtain ⟨p, hp, _⟩ := (firsts_mine hb).settles
 exact ⟨p, hp⟩
end Go.Proofs.YtmkboljfbmlebacGreat
namespace Go.Proofs.YtmkboljfbmlebacGreat
open Go.RowKit
set_option linter.unusedSimpArgs false
set_option linter.unusedVariables false
theorem rowA_set (r : Int → Int) {i : Int} {v : Int} (hi : 0 ≤ i ∧ i < 4) : 0 + i.toNat * 1 < (rowA r).size ∧ (rowA r).setIfInBounds (0 + i.toNat * 1) (I v) = rowA (up1 r i v) := by
 refine ⟨by rw [rowA_size]; omega, ?_⟩
 unfold rowA
 exact setq _ _ (fun j hj => by
   unfold rowC up1
   by_cases e : (j : Int) = i
   · rw [if_pos e, if_pos (by omega)]
   · rw [if_neg e, if_neg (by omega)])
theorem rowA_congr {r s : Int → Int} (h : ∀ b : Int, 0 ≤ b ∧ b < 4 → r b = s b) : rowA r = rowA s := by
 unfold rowA
 exact sameq _ _ (fun i hi => by unfold rowC; rw [h i (by omega)])
def maxI (a b : Int) : Int := if a < b then b else a
section
variable {P : Program} {f : Nat → Value} {C : World → Prop} {dst : Option Nat} {ty : TypeId} {pos : String} {af : Array Edge} {gd : Option (Nat × Bool)}
theorem v_max {x y : Operand} {ats : Array TypeId} {a b : Int} (hx : ev f x = I a) (hy : ev f y = I b) : Val P f C ⟨dst, .call ⟨.builtin .max, #[x, y], ats⟩, ty, pos, af, gd⟩ (I (maxI a b)) :=
 ⟨fun w _ => by simp [execOp, resolve, invoke, builtin, hx, hy, Builtin.max_, Builtin.max2, maxI]⟩
end
theorem moveQ_take {ps : List PayS} {b : Int} {x : H} {j : Nat} {i : Int} {p : PayS} (hi : (queueM ps b)[j]? = some i) (hp : ps[i.toNat]? = some p) : moveQ ps b x ((queueM ps b).take (j + 1)) = moveM (moveQ ps b x ((queueM ps b).take j)) b p.dst p.amt := by
 rw [List.take_add_one, hi]
 show moveQ ps b x (_ ++ [i]) = _
 rw [moveQ_snoc, hp]
theorem tog_house {h : H} {ps : List PayS} {n : Int → Int} (hg : goodB h ps = false) : togetherM h ps n = false := by simp [togetherM, hg]
theorem tog_size {h : H} {ps : List PayS} {n : Int → Int} {b : Int} (hb : 0 ≤ b ∧ b < 4) (hs : withinB (n b) 0 (queueM ps b).length = false) : togetherM h ps n = false := by
 cases ht : togetherM h ps n
 · rfl
 · have := (poss_iff.1 ht).size b hb
   rw [within_iff.2 this] at hs; cases hs
theorem tog_ok {h : H} {ps : List PayS} {n : Int → Int} {b : Int} (hb : 0 ≤ b ∧ b < 4) (hn : ¬ n b = 0) (ho : okBank (movesTo h ps n 4) b = false) : togetherM h ps n = false := by
 cases ht : togetherM h ps n
 · rfl
 · unfold togetherM at ht
   simp only [Bool.and_eq_true, a4_true] at ht
   have := ht.2 b hb
   simp [hn, ho] at this
theorem ok_left {x : H} {b : Int} (h : wr (x.has b + x.cred b) < 0) : okBank x b = false := by simp [okBank, h]
theorem ok_lim {x : H} {b t : Int} (ht : 0 ≤ t ∧ t < 4) (h0 : 0 ≤ x.lim b t) (h : x.lim b t < wr (x.sent b t - x.sent t b)) : okBank x b = false := by
 cases ho : okBank x b
 · rfl
 · unfold okBank at ho
   simp only [Bool.and_eq_true, a4_true] at ho
   have := ho.2 t ht
   simp [h0, h] at this
theorem ok_all {x : H} {b : Int} (hl : ¬ wr (x.has b + x.cred b) < 0) (h : ∀ t : Int, 0 ≤ t ∧ t < 4 → ¬ (0 ≤ x.lim b t ∧ x.lim b t < wr (x.sent b t - x.sent t b))) : okBank x b = true := by
 unfold okBank
 rw [Bool.and_eq_true, a4_true]
 refine ⟨by simp; omega, fun t ht => ?_⟩
 have := h t ht
 simp only [Bool.not_eq_true', Bool.and_eq_false_iff, decide_eq_false_iff_not]
 omega
theorem tog_all {h : H} {ps : List PayS} {n : Int → Int} (hg : goodB h ps = true) (hs : ∀ b : Int, 0 ≤ b ∧ b < 4 → withinB (n b) 0 (queueM ps b).length = true) (ho : ∀ b : Int, 0 ≤ b ∧ b < 4 → n b = 0 ∨ okBank (movesTo h ps n 4) b = true) : togetherM h ps n = true := by
 unfold togetherM
 rw [Bool.and_eq_true, Bool.and_eq_true, a4_true, a4_true]
 refine ⟨⟨hg, hs⟩, fun b hb => ?_⟩
 rcases ho b hb with e | e <;> simp [e]
def sizeTo (ps : List PayS) (k : Nat) : Int → Int := fun b => if b < k then qLen ps b else 0
theorem size_step (ps : List PayS) {k : Nat} (hk : k < 4) : rowA (up1 (sizeTo ps k) k (queueM ps k).length) = rowA (sizeTo ps (k + 1)) := rowA_congr fun b hb => by
 unfold up1 sizeTo qLen
 by_cases e : b = k
 · subst e; rw [if_pos rfl, if_pos (by omega)]
 · rw [if_neg e]
   by_cases h : b < k
   · rw [if_pos h, if_pos (by omega)]
   · rw [if_neg h, if_neg (by omega)]
theorem size_all (ps : List PayS) : rowA (sizeTo ps 4) = rowA (qLen ps) := rowA_congr fun b hb => by unfold sizeTo; rw [if_pos (by omega)]
def moreTo (best n : Int → Int) : Nat → Bool
 | 0 => false
 | m + 1 => moreTo best n m || decide (best m < n m)
theorem more_none {best n : Int → Int} (h : moreTo best n 4 = false) : ∀ b : Int, 0 ≤ b ∧ b < 4 → n b ≤ best b := by
 simp only [moreTo, Bool.or_eq_false_iff, decide_eq_false_iff_not, Bool.false_or] at h
 intro b hb
 have : b = 0 ∨ b = 1 ∨ b = 2 ∨ b = 3 := by omega
 obtain ⟨⟨⟨h0, h1⟩, h2⟩, h3⟩ := h
 rcases this with rfl | rfl | rfl | rfl
 · simp at h0; omega
 · simp at h1; omega
 · simp at h2; omega
 · simp at h3; omega
structure MG where
 F : Addr → Value → Prop
 n : Int → Int
 best : Int → Int
def rank (n : Int → Int) : Nat := (390625 - (n 0 + 25 * n 1 + 625 * n 2 + 15625 * n 3)).toNat
theorem rank_less {ps : List PayS} {n n2 : Int → Int} (hl : ps.length ≤ 24) (hs : ∀ b : Int, 0 ≤ b ∧ b < 4 → 0 ≤ n b ∧ n b ≤ qLen ps b) (h : n 0 + 25 * n 1 + 625 * n 2 + 15625 * n 3 < n2 0 + 25 * n2 1 + 625 * n2 2 + 15625 * n2 3) : rank n2 < rank n := by
 have l24 : ∀ b, qLen ps b ≤ 24 := fun b => by have := queueM_len ps b; unfold qLen; omega
 have s0 := hs 0 (by omega)
 have s1 := hs 1 (by omega)
 have s2 := hs 2 (by omega)
 have s3 := hs 3 (by omega)
 have t0 := l24 0
 have t1 := l24 1
 have t2 := l24 2
 have t3 := l24 3
 unfold rank
 omega
theorem chain_snoc : ∀ (xs : List Int) (c : H) (ps : List PayS) (i : Int), chainC c ps (xs ++ [i]) = settleC (chainC c ps xs) (chainP ps xs) i ∧ chainP ps (xs ++ [i]) = settleP (chainP ps xs) i
 | [], _, _, _ => ⟨rfl, rfl⟩
 | j :: r, c, ps, i => by
   simp only [List.cons_append, chainC, chainP]
   exact chain_snoc r _ _ i
theorem settles_other {ps : List PayS} {i k : Int} {p : PayS} (h : settles ps i = some p) (hk : 0 ≤ k) (hne : i ≠ k) : settles (settleP ps k) i = some p := by
 obtain ⟨i0, hp, hs⟩ := settles_spec h
 cases hk' : settles ps k with
 | none => simp only [settleP, hk']; exact h
 | some q => exact settlesOf i0 (by rw [settleP_at hk', if_neg (by omega)]; exact hp) hs
theorem chain_settles : ∀ (xs : List Int) {ps : List PayS} {i : Int} {p : PayS}, settles ps i = some p → (∀ k ∈ xs, 0 ≤ k) → i ∉ xs → settles (chainP ps xs) i = some p
 | [], _, _, _, h, _, _ => h
 | k :: r, ps, i, p, h, h0, hn => by
   simp only [List.mem_cons, not_or] at hn
   exact chain_settles r (settles_other h (h0 k (by simp)) hn.1) (fun j hj => h0 j (by simp [hj])) hn.2
def upTo (ps : List PayS) (m : Int → Int) : Nat → List Int
 | 0 => []
 | b + 1 => upTo ps m b ++ firsts ps m b
theorem upTo_all (ps : List PayS) (m : Int → Int) : upTo ps m 4 = allFirsts ps m := by simp [upTo, allFirsts]
theorem upTo_mine {ps : List PayS} {m : Int → Int} : ∀ {b : Nat} {i : Int}, i ∈ upTo ps m b → ∃ a : Nat, a < b ∧ Mine ps a i
 | 0, i, h => by simp [upTo] at h
 | b + 1, i, h => by
   rcases List.mem_append.1 h with h | h
   · obtain ⟨a, ha, hm⟩ := upTo_mine h; exact ⟨a, by omega, hm⟩
   · exact ⟨b, by omega, firsts_mine h⟩
def unXs (ps : List PayS) (m : Int → Int) (b j : Nat) : List Int := upTo ps m b ++ (firsts ps m b).take j
theorem un_none (ps : List PayS) (m : Int → Int) (b : Nat) : unXs ps m b 0 = upTo ps m b := by simp [unXs]
theorem un_end {ps : List PayS} {m : Int → Int} {b j : Nat} (h : (queueM ps b).length ≤ j) : unXs ps m b j = upTo ps m (b + 1) := by
 unfold unXs
 rw [List.take_of_length_le (by unfold firsts; rw [List.length_take]; omega)]
 rfl
theorem un_yes {ps : List PayS} {m : Int → Int} {b j : Nat} {i : Int} (hi : (queueM ps b)[j]? = some i) (hj : (j : Int) < m b) : unXs ps m b (j + 1) = unXs ps m b j ++ [i] := by
 unfold unXs
 have : (firsts ps m b)[j]? = some i := by unfold firsts; rw [List.getElem?_take, if_pos (by omega)]; exact hi
 rw [List.take_add_one, this, List.append_assoc]
 rfl
theorem un_no {ps : List PayS} {m : Int → Int} {b j : Nat} (hj : ¬ (j : Int) < m b) : unXs ps m b (j + 1) = unXs ps m b j := by
 unfold unXs
 have hl : (firsts ps m b).length ≤ j := by unfold firsts; rw [List.length_take]; omega
 rw [List.take_of_length_le hl, List.take_of_length_le (by omega)]
theorem un_settles {ps : List PayS} {m : Int → Int} {b j : Nat} {i : Int} (hi : (queueM ps b)[j]? = some i) : ∃ p, settles (chainP ps (unXs ps m b j)) i = some p ∧ settles ps i = some p := by
 have hm := queueM_mine (List.mem_of_getElem? hi)
 obtain ⟨p, hp, _⟩ := hm.settles
 refine ⟨p, chain_settles _ hp (fun k hk => ?_) (fun hin => ?_), hp⟩
 · rcases List.mem_append.1 hk with hk | hk
   · obtain ⟨a, _, ha⟩ := upTo_mine hk; exact ha.1
   · exact (firsts_mine (List.mem_of_mem_take hk)).1
 · rcases List.mem_append.1 hin with hk | hk
   · obtain ⟨a, hab, ha⟩ := upTo_mine hk
     have := ha.same hm
     omega
   · have h1 : i ∈ (queueM ps b).take j := by
       have : (firsts ps m b).take j = ((queueM ps b).take j).take (m b).toNat := by unfold firsts; rw [List.take_take, List.take_take, Nat.min_comm]
       rw [this] at hk
       exact List.mem_of_mem_take hk
     obtain ⟨k, hk1, hk2⟩ := List.getElem_of_mem h1
     rw [List.length_take] at hk1
     rw [List.getElem_take] at hk2
     obtain ⟨hj, hj2⟩ := List.getElem?_eq_some_iff.1 hi
     have := (List.getElem_inj (queueM_nodup ps b)).1 (hk2.trans hj2.symm)
     omega
structure UnOk (w : World) (h0 : H) (ps0 : List PayS) (e : Nat) (xs : List Int) (t : SwG) : Prop where
 sw : SwOk w h0 ps0 e t
 eq : t.xs = xs
 c : t.h.core = chainC h0.core ps0 xs
 p : t.ps = chainP ps0 xs
 more : More (At w) t.F
theorem UnOk.learn {w : World} {h0 : H} {ps0 : List PayS} {e : Nat} {xs : List Int} {t : SwG} (o : UnOk w h0 ps0 e xs t) {F' : Addr → Value → Prop} (hF : More t.F F') (b d : Nat) : UnOk w h0 ps0 e xs ⟨F', t.h, t.ps, t.xs, t.v, t.E, b, d⟩ :=
 ⟨o.sw.learn hF b d, o.eq, o.c, o.p, fun a v h => hF a v (o.more a v h)⟩
theorem UnOk.go {w : World} {h0 : H} {ps0 : List PayS} {e : Nat} {xs : List Int} {t : SwG} (o : UnOk w h0 ps0 e xs t) {F' : Addr → Value → Prop} (hF : More t.F F') {i : Int} {p : PayS} (hs : settles t.ps i = some p) {h' : H} (hco : h'.core = settleC t.h.core t.ps i) (hlc : h'.pl ≤ h'.pc)
   (ho : (h'.pa = t.h.pa ∧ h'.pl = t.h.pl ∧ settleP t.ps i = t.ps) ∨ PaysIn (Young w F') h'.pa h'.pl (settleP t.ps i)) {v' : Value} {E' : List (Nat × Obj)} (hl : ListE e 1 v' (t.xs.length + 1) (t.xs.map I ++ [I i]) E') (b d : Nat) :
   UnOk w h0 ps0 e (xs ++ [i]) ⟨F', h', settleP t.ps i, t.xs ++ [i], v', E', b, d⟩ := by
 obtain ⟨c1, c2⟩ := chain_snoc xs h0.core ps0 i
 exact ⟨o.sw.go hF hs hlc ho hl b d, by simp only; rw [o.eq], by simp only; rw [hco, o.c, o.p, c1], by simp only; rw [o.p, c2], fun a v h => hF a v (o.more a v h)⟩
end Go.Proofs.YtmkboljfbmlebacGreat
namespace Go.Proofs.YtmkboljfbmlebacGreat
open Go.RowKit
set_option linter.unusedSimpArgs false
set_option linter.unusedVariables false
set_option maxRecDepth 100000
attribute [local irreducible] cC sC nC rC qw
set_option maxHeartbeats 1000000 in
theorem gr_AllTogether (h : H) (ps : List PayS) (n : Int → Int) (w : World) (hp : PaysIn (At w) h.pa h.pl ps) (hb : h.pl * 48 ≤ 281474976710656) (hlc : h.pl ≤ h.pc) : Gives Tryz.prog 71 [.agg h.cells, .agg (rowA n)] w (.bool (togetherM h ps n)) := by
 refine gives_of Tryz.func71 rfl Tryz.ntmps71 (by simp) (r_seq (by kernel_rfl) (s_box (v := .agg _) rfl (fun b2 => ?_)))
 refine s_box (v := .agg _) rfl (fun b3 => ?_)
 refine s_val (v_asB rfl) (s_nil (c_seq (r_seq (by kernel_rfl) (s_val (v_loadA (m := 42) (by kernel_rfl) rfl (.there .here) (H.size _)) (s_call (by kernel_rfl) (fun w hw => gr_IsHouse _ ps w (hp.at hw) hb hlc) (s_val (v_not rfl) (s_nil (c_condN rfl rfl (fun h14 => ?_) (fun h14 => ?_)))))))))
 · refine r_seq (by kernel_rfl) (s_val (v_asB rfl) (s_nil (c_ret (n_ret (n_dnB rfl (by decide) rfl ?_)))))
   exact (tog_house ((isHouse_eq hp.1).symm.trans h14)).symm
 refine c_skip (n_then (r_seq (by kernel_rfl) (s_val (v_loadA (m := 42) (by kernel_rfl) rfl (.there .here) (H.size _)) (s_alloc (z := .agg zeroH.cells) (by kernel_rfl) (fun b5 => ?_)))))
 refine s_storeA (m := 42) (by kernel_rfl) rfl rfl .here (H.size _) (H.size _) (H.all1 _) (s_nil (c_seq (r_seq (by kernel_rfl) (s_val (v_mvI rfl) (s_nil (c_block (c_loop (σ := KF) (fun (s : KF) f => ∃ g, (s.k ≤ 4 ∧ More (At w) s.F ∧ ∀ b : Int, 0 ≤ b → b < s.k → withinB (n b) 0 (queueM ps b).length = true) ∧ f = (upd (upd (upd (upd g 2 (.pointer (some ⟨b2, 0, none⟩))) 3 (.pointer (some ⟨b3, 0, none⟩))) 5 (.pointer (some ⟨b5, 0, none⟩))) 16 (I s.k))) (fun (s : KF) => Has w s.F [(b5, .cells (movesTo h ps n s.k).cells 43), (b3, .cells (rowA n) 39), (b2, .cells h.cells 43)]) (fun (s : KF) => 4 - s.k) ⟨0, At w⟩ ⟨_, ⟨Nat.zero_le _, fun _ _ h => h, fun b h0 h1 => by dsimp only at h1; omega⟩, live4 rfl rfl rfl rfl⟩ (fun w hw => hw) ?_)))))))
 rintro s _ ⟨g, ⟨hkl, hmo, hsz⟩, rfl⟩
 refine r_seq (by kernel_rfl) (s_val (v_lsI rfl rfl) (s_nil (c_seq (c_cond rfl rfl (fun h17 => ?_) (fun h17 => ?_)))))
 · have hk4 : s.k < 4 := by have := of_decide_eq_true h17; omega
   have hki : 0 ≤ (s.k : Int) ∧ (s.k : Int) < 4 := ⟨by omega, by omega⟩
   refine c_skip (n_then (c_seq (c_block (r_seq (by kernel_rfl) (s_val (v_mvI rfl) (s_val (v_asI rfl) (s_nil (r_seq (by kernel_rfl) (s_val (v_loadA (m := 42) (by kernel_rfl) rfl (.there (.there .here)) (H.size _)) (s_val (v_mvI rfl) (s_callF (by kernel_rfl) (fun w hw => gr_QueueOf h ps s.k w ((hp.mono hmo).at hw) hb hlc) (fun F21 v21 E21 hF21 hK21 hR21 => ?_))))))))))))
   obtain ⟨a21, c21, rfl, ia21⟩ := (ints_of_list hR21 hK21).at
   refine s_val (v_assign (v := .slice _ _ _) rfl) (s_nil (c_seq (r_seq (by kernel_rfl) (s_val (v_mvI rfl) (s_val (v_ixA 1 (by kernel_rfl) rfl rfl (by assumption)) (s_val (v_ldI (by kernel_rfl) rfl (.there .here) (rowA_at0 _ (by assumption))) (s_val (v_move (v := .slice _ _ _) rfl) (s_val (v_lenS (T := 29) (m := 1) (by kernel_rfl) rfl rfl) (s_call (by kernel_rfl) (fun w hw => gr_within _ _ _ w) (s_val (v_not rfl) (s_nil (c_condN rfl rfl (fun h28 => ?_) (fun h28 => ?_)))))))))))))
   · refine r_seq (by kernel_rfl) (s_val (v_asB rfl) (s_nil (c_ret (n_ret (n_bret (n_ret (n_ret (n_bret (n_ret (n_dnB rfl (by decide) rfl ?_))))))))))
     exact (tog_size (b := (s.k : Int)) ⟨by omega, by omega⟩ h28).symm
   refine c_skip (n_then (r_seq (by kernel_rfl) (s_val (v_mvI rfl) (s_val (v_ixA 1 (by kernel_rfl) rfl rfl (by assumption)) (s_val (v_ldI (by kernel_rfl) rfl (.there .here) (rowA_at0 _ (by assumption))) (s_val (v_mvI rfl) (s_nil (c_block (c_loop (σ := Nat) (fun (j : Nat) f => ∃ g, (j ≤ (n s.k).toNat) ∧ f = (upd (upd (upd (upd (upd (upd (upd (upd g 2 (.pointer (some ⟨b2, 0, none⟩))) 3 (.pointer (some ⟨b3, 0, none⟩))) 5 (.pointer (some ⟨b5, 0, none⟩))) 6 (I s.k)) 7 (.slice a21 (queueM ps s.k).length c21)) 16 (I s.k)) 31 (I (n s.k))) 32 (I j))) (fun (j : Nat) => Has w F21 [(b5, .cells (moveQ ps s.k (movesTo h ps n s.k) ((queueM ps s.k).take j)).cells 43), (b3, .cells (rowA n) 39), (b2, .cells h.cells 43)]) (fun (j : Nat) => (n s.k).toNat - j) 0 ⟨_, Nat.zero_le _, live8 rfl rfl rfl rfl rfl rfl rfl rfl⟩ (fun w hw => hw) ?_)))))))))
   rintro j _ ⟨g, hjl, rfl⟩
   refine r_seq (by kernel_rfl) (s_val (v_lsI rfl rfl) (s_nil (c_seq (c_condR rfl rfl (fun h33 => ?_) (fun h33 => ?_)))))
   · have hws := within_iff.1 h28
     have hjj : j = (n s.k).toNat := by have := of_decide_eq_false h33; omega
     refine c_exit (n_exit (n_exit (n_bhere (n_bnormal (n_then (r_list (by kernel_rfl) (s_val (v_add rfl rfl (by omega)) (s_val (v_mvI rfl) (s_end ?_)))))))))
     refine n_round (s := s) ⟨s.k + 1, F21⟩ ⟨_, ⟨by dsimp only; omega, fun a v h => hF21 a v (hmo a v h), fun b h0 h1 => by
     dsimp only at h1
     by_cases e : b = (s.k : Int)
     · subst e; exact h28
     · exact hsz b h0 (by omega)⟩, live4 rfl rfl rfl rfl⟩ (fun _ hw => by rw [hjj] at hw; exact hw) (by dsimp only; omega)
   have hj0 := of_decide_eq_true h33
   have hws := within_iff.1 h28
   obtain ⟨bq, oq, i, ha21, hi, hfi⟩ := ia21.get (j := j) (by omega)
   obtain ⟨p, hst, hpi, hsta, hsrc⟩ := (queueM_mine (List.mem_of_getElem? hi)).settles
   have hi0 := (settles_spec hst).1
   have hil : i.toNat < h.pl := by have := (List.getElem?_eq_some_iff.1 hpi).1; have := hp.1; omega
   obtain ⟨bp, op, hpa, hc⟩ := hp.some hil
   have hql := queueM_len ps s.k
   have hpl := hp.1
   refine c_skip (n_then (c_seq (c_block (r_seq (by kernel_rfl) (s_val (v_mvI rfl) (s_val (v_asI rfl) (s_nil (t_list (k := 21) (by kernel_rfl) (by kernel_rfl) (fun w hw => hw.drew) (by kernel_rfl) (q_val (v_loadA (m := 42) (by kernel_rfl) rfl .here (H.size _)) (q_val (v_mvI rfl) (q_val (v_fd 40 (by kernel_rfl) rfl) (q_val (v_load1 (v := .slice _ _ _) (by kernel_rfl) rfl (.there (.there .here)) (H.at_pays _)) (q_val (v_move (v := .slice _ _ _) rfl) (q_val (v_mvI rfl) (q_val (v_idxS (size := 1) (k := .i64) (by kernel_rfl) (congrArg (fun a => Value.slice a (queueM ps s.k).length c21) ha21) rfl ⟨by omega, by omega⟩) (q_val (v_load1o (v := I i) (by kernel_rfl) rfl (by simpa using hfi)) (q_val (v_idxS (size := 6) (k := .i64) (by kernel_rfl) (congrArg (fun a => Value.slice a h.pl h.pc) hpa) rfl ⟨by omega, by omega⟩) (q_val (v_fd 1 (by kernel_rfl) rfl) (q_val (v_load1o (by kernel_rfl) rfl (hF21 _ _ (hmo _ _ (hc _ p hpi 1 _ rfl)))) ?_)))))))))))))))))))
   refine q_val (v_fd 40 (by kernel_rfl) rfl) (q_val (v_load1 (v := .slice _ _ _) (by kernel_rfl) rfl (.there (.there .here)) (H.at_pays _)) (q_val (v_move (v := .slice _ _ _) rfl) (q_val (v_mvI rfl) (q_val (v_idxS (size := 1) (k := .i64) (by kernel_rfl) (congrArg (fun a => Value.slice a (queueM ps s.k).length c21) ha21) rfl ⟨by omega, by omega⟩) (q_val (v_load1o (v := I i) (by kernel_rfl) rfl (by simpa using hfi)) (q_val (v_idxS (size := 6) (k := .i64) (by kernel_rfl) (congrArg (fun a => Value.slice a h.pl h.pc) hpa) rfl ⟨by omega, by omega⟩) (q_val (v_fd 2 (by kernel_rfl) rfl) (q_val (v_load1o (by kernel_rfl) rfl (hF21 _ _ (hmo _ _ (hc _ p hpi 2 _ rfl)))) (q_call (by kernel_rfl) (fun w hw => gr_MoveSum _ _ _ _ w) (q_tail (s_storeA (m := 42) (by kernel_rfl) rfl rfl .here (H.size _) (H.size _) (H.all1 _) (s_end (n_bnormal (n_then (r_list (by kernel_rfl) (s_val (v_add rfl rfl (by omega)) (s_val (v_mvI rfl) (s_end (n_round (j + 1) ⟨_, (by omega), live8 rfl rfl rfl rfl rfl rfl rfl rfl⟩ (fun _ hw => by rw [moveQ_take hi hpi]; exact hw) (by omega))))))))))))))))))))
 have hk4 : s.k = 4 := by have := of_decide_eq_false h17; omega
 refine c_exit (n_exit (n_exit (n_bhere (n_then (c_seq (r_seq (by kernel_rfl) (s_val (v_mvI rfl) (s_nil (c_block (c_loop (σ := Nat) (fun (k : Nat) f => ∃ g, (k ≤ 4 ∧ ∀ b : Int, 0 ≤ b → b < k → n b = 0 ∨ okBank (movesTo h ps n 4) b = true) ∧ f = (upd (upd (upd (upd g 2 (.pointer (some ⟨b2, 0, none⟩))) 3 (.pointer (some ⟨b3, 0, none⟩))) 5 (.pointer (some ⟨b5, 0, none⟩))) 58 (I k))) (fun (k : Nat) => Has w s.F [(b5, .cells (movesTo h ps n 4).cells 43), (b3, .cells (rowA n) 39), (b2, .cells h.cells 43)]) (fun (k : Nat) => 4 - k) 0 ⟨_, ⟨Nat.zero_le _, fun b h0 h1 => by omega⟩, live4 rfl rfl rfl rfl⟩ (fun w hw => by rw [hk4] at hw; exact hw) ?_))))))))))
 rintro k _ ⟨g, ⟨hkl2, hok⟩, rfl⟩
 refine r_seq (by kernel_rfl) (s_val (v_lsI rfl rfl) (s_nil (c_seq (c_condR rfl rfl (fun h59 => ?_) (fun h59 => ?_)))))
 · have hk0 := of_decide_eq_false h59
   refine c_exit (n_exit (n_exit (n_bhere (n_then (r_seq (by kernel_rfl) (s_val (v_asB rfl) (s_nil (c_ret (n_dnB rfl (by decide) rfl ?_)))))))))
   exact (tog_all ((isHouse_eq hp.1).symm.trans h14) (fun b hb => hsz b hb.1 (by omega)) (fun b hb => hok b hb.1 (by omega))).symm
 have hk0 := of_decide_eq_true h59
 have hi : 0 ≤ (k : Int) ∧ (k : Int) < 4 := ⟨by omega, by omega⟩
 refine c_skip (n_then (c_seq (c_block (r_seq (by kernel_rfl) (s_val (v_mvI rfl) (s_val (v_asI rfl) (s_nil (c_seq (r_seq (by kernel_rfl) (s_val (v_mvI rfl) (s_val (v_ixA 1 (by kernel_rfl) rfl rfl (by assumption)) (s_val (v_ldI (by kernel_rfl) rfl (.there .here) (rowA_at0 _ (by assumption))) (s_val (v_eql (k := .i64) rfl rfl) (s_nil (c_cond rfl rfl (fun h64 => ?_) (fun h64 => ?_))))))))))))))))
 · refine c_exit (n_exit (n_bhere (n_then (r_list (by kernel_rfl) (s_val (v_add rfl rfl (by omega)) (s_val (v_mvI rfl) (s_end ?_)))))))
   refine n_round (k + 1) ⟨_, ⟨by omega, fun b h0 h1 => by
     by_cases e : b = (k : Int)
     · subst e; exact .inl (of_decide_eq_true h64)
     · exact hok b h0 (by omega)⟩, live4 rfl rfl rfl rfl⟩ (fun _ hw => hw) (by omega)
 refine c_skip (n_then (c_seq (d_seq (by kernel_rfl) (by kernel_rfl) (fun w hw => hw.drew) (by kernel_rfl) (q_val (v_mvI rfl) (q_val (v_fd 0 (by kernel_rfl) rfl) (q_val (v_ixA 2 (by kernel_rfl) rfl rfl (by assumption)) (q_val (v_fd 0 (by kernel_rfl) rfl) (q_val (v_ldI (by kernel_rfl) rfl .here (H.at_has _ (by assumption))) (q_val (v_mvI rfl) (q_val (v_fd 0 (by kernel_rfl) rfl) (q_val (v_ixA 2 (by kernel_rfl) rfl rfl (by assumption)) (q_val (v_fd 1 (by kernel_rfl) rfl) (q_val (v_ldI (by kernel_rfl) rfl .here (H.at_cred _ (by assumption))) (q_val (v_addw rfl rfl) (q_val (v_lsI rfl rfl) (q_nil (c_cond rfl rfl (fun h76 => ?_) (fun h76 => ?_))))))))))))))))))
 · refine r_seq (by kernel_rfl) (s_val (v_asB rfl) (s_nil (c_ret (n_ret (n_bret (n_ret (n_ret (n_bret (n_ret (n_dnB rfl (by decide) rfl ?_))))))))))
   exact (tog_ok hi (of_decide_eq_false h64) (ok_left (of_decide_eq_true h76))).symm
 refine c_skip (n_then (r_seq (by kernel_rfl) (s_val (v_mvI rfl) (s_nil (c_block (c_loop (σ := Nat) (fun (m : Nat) f => ∃ g, (m ≤ 4 ∧ ∀ t : Int, 0 ≤ t → t < m → ¬ (0 ≤ (movesTo h ps n 4).lim k t ∧ (movesTo h ps n 4).lim k t < wr ((movesTo h ps n 4).sent k t - (movesTo h ps n 4).sent t k))) ∧ f = (upd (upd (upd (upd (upd (upd g 2 (.pointer (some ⟨b2, 0, none⟩))) 3 (.pointer (some ⟨b3, 0, none⟩))) 5 (.pointer (some ⟨b5, 0, none⟩))) 9 (I k)) 58 (I k)) 77 (I m))) (fun (m : Nat) => Has w s.F [(b5, .cells (movesTo h ps n 4).cells 43), (b3, .cells (rowA n) 39), (b2, .cells h.cells 43)]) (fun (m : Nat) => 4 - m) 0 ⟨_, ⟨Nat.zero_le _, fun t h0 h1 => by omega⟩, live6 rfl rfl rfl rfl rfl rfl⟩ (fun w hw => hw) ?_))))))
 rintro m _ ⟨g, ⟨hml, hlm⟩, rfl⟩
 refine r_seq (by kernel_rfl) (s_val (v_lsI rfl rfl) (s_nil (c_seq (c_condR rfl rfl (fun h78 => ?_) (fun h78 => ?_)))))
 · have hm0 := of_decide_eq_false h78
   refine c_exit (n_exit (n_exit (n_bhere (n_bnormal (n_then (r_list (by kernel_rfl) (s_val (v_add rfl rfl (by omega)) (s_val (v_mvI rfl) (s_end ?_)))))))))
   refine n_round (k + 1) ⟨_, ⟨by omega, fun b h0 h1 => by
     by_cases e : b = (k : Int)
     · subst e; exact .inr (ok_all (of_decide_eq_false h76) (fun t ht => hlm t ht.1 (by omega)))
     · exact hok b h0 (by omega)⟩, live4 rfl rfl rfl rfl⟩ (fun _ hw => hw) (by omega)
 have hm0 := of_decide_eq_true h78
 have hm : 0 ≤ (m : Int) ∧ (m : Int) < 4 := ⟨by omega, by omega⟩
 refine c_skip (n_then (c_seq (c_block (r_seq (by kernel_rfl) (s_val (v_mvI rfl) (s_val (v_asI rfl) (s_nil (r_seq (by kernel_rfl) (s_val (v_mvI rfl) (s_val (v_mvI rfl) (s_val (v_fd 24 (by kernel_rfl) rfl) (s_val (v_ixA 4 (by kernel_rfl) rfl rfl (by assumption)) (s_val (v_ixA 1 (by kernel_rfl) rfl rfl (by assumption)) (s_val (v_ldI (by kernel_rfl) rfl .here (H.at_lim _ (by assumption) (by assumption))) (s_val (v_asI rfl) (s_nil (d_seq (by kernel_rfl) (by kernel_rfl) (fun w hw => hw.drew) (by kernel_rfl) (q_val (v_mvI rfl) (q_val (v_geq (k := .i64) rfl rfl) ?_)))))))))))))))))))
 refine q_val (v_mvB rfl) (q_splitR (s := 88) rfl (fun h88 => ?_) (fun h88 => ?_))
 · refine q_pass rfl rfl h88 (q_pass rfl rfl h88 (q_pass rfl rfl h88 (q_pass rfl rfl h88 (q_pass rfl rfl h88 (q_pass rfl rfl h88 (q_pass rfl rfl h88 (q_pass rfl rfl h88 (q_pass rfl rfl h88 (q_pass rfl rfl h88 (q_pass rfl rfl h88 (q_pass rfl rfl h88 (q_pass rfl rfl h88 (q_pass rfl rfl h88 (q_pass rfl rfl h88 (q_val (v_pickF (v := .bool _) rfl h88 rfl) (q_nil (c_condFh rfl rfl rfl (c_skip (n_bnormal ?_)))))))))))))))))))
   refine n_then (r_list (by kernel_rfl) (s_val (v_add rfl rfl (by omega)) (s_val (v_mvI rfl) (s_end ?_))))
   refine n_round (m + 1) ⟨_, ⟨by omega, fun t h0 h1 => by
     by_cases e : t = (m : Int)
     · subst e; exact fun h => absurd h.1 (of_decide_eq_false h88)
     · exact hlm t h0 (by omega)⟩, live6 rfl rfl rfl rfl rfl rfl⟩ (fun _ hw => hw) (by omega)
 refine q_want rfl rfl h88 (q_val (v_mvI rfl) (q_want rfl rfl h88 (q_val (v_mvI rfl) (q_want rfl rfl h88 (q_val (v_fd 8 (by kernel_rfl) rfl) (q_want rfl rfl h88 (q_val (v_ixA 4 (by kernel_rfl) rfl rfl (by assumption)) (q_want rfl rfl h88 (q_val (v_ixA 1 (by kernel_rfl) rfl rfl (by assumption)) (q_want rfl rfl h88 (q_val (v_ldI (by kernel_rfl) rfl .here (H.at_sent _ (by assumption) (by assumption))) (q_want rfl rfl h88 (q_val (v_mvI rfl) (q_want rfl rfl h88 (q_val (v_mvI rfl) (q_want rfl rfl h88 (q_val (v_fd 8 (by kernel_rfl) rfl) (q_want rfl rfl h88 (q_val (v_ixA 4 (by kernel_rfl) rfl rfl (by assumption)) ?_)))))))))))))))))))
 refine q_want rfl rfl h88 (q_val (v_ixA 1 (by kernel_rfl) rfl rfl (by assumption)) (q_want rfl rfl h88 (q_val (v_ldI (by kernel_rfl) rfl .here (H.at_sent _ (by assumption) (by assumption))) (q_want rfl rfl h88 (q_val (v_subw rfl rfl) (q_want rfl rfl h88 (q_val (v_mvI rfl) (q_want rfl rfl h88 (q_val (v_gtr (k := .i64) rfl rfl) (q_val (v_pickT (v := .bool _) rfl h88 rfl) (q_nil (c_condR rfl rfl (fun h104 => ?_) (fun h104 => ?_)))))))))))))
 · refine c_skip (n_bnormal (n_then (r_list (by kernel_rfl) (s_val (v_add rfl rfl (by omega)) (s_val (v_mvI rfl) (s_end ?_))))))
   refine n_round (m + 1) ⟨_, ⟨by omega, fun t h0 h1 => by
     by_cases e : t = (m : Int)
     · subst e; exact fun h => absurd h.2 (of_decide_eq_false h104)
     · exact hlm t h0 (by omega)⟩, live6 rfl rfl rfl rfl rfl rfl⟩ (fun _ hw => hw) (by omega)
 refine r_seq (by kernel_rfl) (s_val (v_asB rfl) (s_nil (c_ret (n_bret (n_ret (n_ret (n_bret (n_bret (n_ret (n_ret (n_bret (n_ret (n_dnB rfl (by decide) rfl ?_)))))))))))))
 exact (tog_ok hi (of_decide_eq_false h64) (ok_lim hm (of_decide_eq_true h88) (of_decide_eq_true h104))).symm
end Go.Proofs.YtmkboljfbmlebacGreat
