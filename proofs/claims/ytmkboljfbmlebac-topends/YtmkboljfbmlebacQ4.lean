/- What the laws of this place stand on, part 4. Each part names its own conditions in what it states. -/
import Derived.Test.YtmkboljfbmlebacQ3
import Derived.Sort.Grow
import Derived.Deep.Draws
namespace Go.Proofs.Ytmkboljfbmlebac
open Go.RowKit
set_option linter.unusedSimpArgs false
set_option linter.unusedVariables false
theorem Bel.grown {w w' : World} (h : Bel w.heap.size w w') : ∃ q os, w' = Sort.grow (w.drewN q) os := by
 refine ⟨w'.drawn - w.drawn, w'.heap.extract w.heap.size w'.heap.size, ?_⟩
 have e1 : w.drawn + (w'.drawn - w.drawn) = w'.drawn := by have := h.drawn; omega
 have e2 : w.heap ++ w'.heap.extract w.heap.size w'.heap.size = w'.heap := by
   apply Array.ext_getElem?
   intro k
   rcases Nat.lt_or_ge k w.heap.size with hk | hk
   · rw [Array.getElem?_append_left hk]; exact (h.block k hk).symm
   · rw [Array.getElem?_append_right hk, Array.getElem?_extract]
     split
     · congr 1; omega
     · rw [Array.getElem?_eq_none (by omega)]
 have e3 := h.os
 have e4 := h.tape
 have e5 := h.output
 cases w
 cases w'
 simp only [Sort.grow, World.drewN] at *
 subst e3 e4 e5
 rw [e1, e2]
theorem grow_bel (w : World) (q : Nat) (os : Array Obj) : Bel w.heap.size w (Sort.grow (w.drewN q) os) :=
 ⟨⟨rfl, rfl, rfl, by simp [Sort.grow, World.drewN], fun k hk => by
   show (w.heap ++ os)[k]? = w.heap[k]?
   rw [Array.getElem?_append_left hk]⟩, Nat.le_add_right _ _⟩
section
variable {P : Program} {f : Nat → Value} {C : World → Prop} {dst : Option Nat} {ty : TypeId} {pos : String} {af : Array Edge} {gd : Option (Nat × Bool)}
theorem v_makeFunc {fn : Fn} {xs : List Operand} {vs : List Value} (hx : xs.map (ev f) = vs) : Val P f C ⟨dst, .makeFunc fn #[] xs.toArray, ty, pos, af, gd⟩ (.func fn #[] vs.toArray) :=
 ⟨fun w _ => by simp [execOp, Instr.makeFunc, hx]⟩
theorem v_eqNil {x y : Operand} {T t' m : Nat} {a : Option Addr} {len cap : Nat} (hT : slB P T m = true) (hx : ev f x = .slice a len cap) (hy : ev f y = .slice none 0 0) : Val P f C ⟨dst, .binOp .eql T x y t', ty, pos, af, gd⟩ (.bool a.isNone) := by
 refine ⟨fun w _ => ?_⟩
 unfold slB at hT
 split at hT
 · rename_i e hu
   have hg : (eqGuard .eql T x y (.slice a len cap) (.slice none 0 0)).run P w = .ok () w := by
     simp [eqGuard]
   have he : (Op.equal T (.slice a len cap) (.slice none 0 0)).run P w = .ok a.isNone w := by
     unfold Op.equal
     show (Op.equalIn (_ + 1) T _ _).run P w = _
     unfold Op.equalIn
     simp only [Sem.run_bind]
     rw [run_underlying hu]
     cases a <;> simp
   simp [execOp, hx, hy, hg, binOp, he]
 · cases hT
variable {ops : Array Oper} {K : (Nat → Value) → World → Prop} {rest : List Oper} {d : Nat} {w0 : World} {F : Addr → Value → Prop} {E L : List (Nat × Obj)}
theorem s_build0 {T e m by_ : Nat} (hT : rowB P T e m by_ = true) (kk : ∀ b, sC P ops K rest (upd f d (.slice (some ⟨b, 0, none⟩) 0 0)) (Has w0 F ((b, .cells #[] e) :: L))) :
   sC P ops K (⟨some d, .buildSlice T 0 #[], ty, pos, af, none⟩ :: rest) f (Has w0 F L) := by
 intro w hw
 obtain ⟨i, z, hu, hi, h1, h2, h3, h4⟩ := rowB_spec hT
 have : (Instr.buildSlice T 0 #[]).run P w = .ok (.slice (some ⟨w.heap.size, 0, none⟩) 0 0) (w.alloc (.cells #[] e)) := by
   simp [Instr.buildSlice, run_underlying hu, sizeOf, typeInfo, zeroValue, hi, h3, newRow, Instr.fill, show Array.range 0 = (#[] : Array Nat) from rfl]
 unfold sw
 rw [if_pos wanted_free]
 unfold opk
 have hr : (execOp (ev f) ⟨some d, .buildSlice T 0 #[], ty, pos, af, none⟩).run P w = .ok (.value (.slice (some ⟨w.heap.size, 0, none⟩) 0 0)) (w.alloc (.cells #[] e)) := by
   simp [execOp, this]
 rw [hr]
 exact kk _ _ (hw.alloc _)
theorem run_appendCopy0 {w : World} {T ty : TypeId} {g b o pl pc : Nat} {ps : List PayS} (hT : paySliceB P T = true) (hpos : 0 < pl) (hb : pl * 48 ≤ 281474976710656) (hl : ps.length = pl)
   (hc : ∀ (j : Nat) (p : PayS), ps[j]? = some p → ∀ (k : Nat) (v : Value), p.cells[k]? = some v → w.cell? ⟨b, o + j * 6 + k, none⟩ = some v) :
   ∃ (c : Nat) (cs : Array Value), pl ≤ c ∧ cs.size = c * 6 ∧ (∀ (i : Nat) (v : Value), (flatC ps)[i]? = some v → cs[i]? = some v) ∧ (Builtin.append_ #[T, T] ty #[.slice (some ⟨g, 0, none⟩) 0 0, .slice (some ⟨b, o, none⟩) pl pc]).run P w = .ok (.slice (some ⟨w.heap.size, 0, none⟩) pl c) (w.drew.alloc (.cells cs (payElem P T))) := by
 obtain ⟨i, z, hu, hs, hi, hby, hz, hzs⟩ := paySliceB_spec hT
 have hsz : ∀ w, (sizeOf (payElem P T)).run P w = .ok 6 w := fun w => sizeB_run hs
 have hld := load_pays (P := P) (w := w.drew) (b := b) (o := o) hl (fun j p hj k v hv => by simpa using hc j p hj k v hv)
 have hld0 : ∀ w : World, (loadCells ⟨g, 0, none⟩ (0 * 6)).run P w = .ok #[] w := fun w => by simp [loadCells, loadCellsFrom]
 have hcap : Builtin.nextslicecap pl 0 = pl := by unfold Builtin.nextslicecap; rw [if_pos (by omega)]
 have hask : ∀ n w, (askRoom n).run P w = .ok () w := by intro n w; unfold askRoom; split <;> rfl
 have hch : (choose (.appendCap pl 0 (payElem P T))).run P w = .ok (pl + w.tape w.drawn (.appendCap pl 0 (payElem P T)) % (2 ^ 63 - pl)) w.drew := by
   unfold choose
   simp only [Sem.run, Question.forced, Question.cut, Bool.false_eq_true, if_false]
   rfl
 generalize hcc : pl + w.tape w.drawn (.appendCap pl 0 (payElem P T)) % (2 ^ 63 - pl) = c at hch
 refine ⟨c, (flatC ps).toArray ++ Builtin.zeroCells z (c - pl), by omega, ?_, ?_, ?_⟩
 · have : (Builtin.zeroCells z (c - pl)).size = (c - pl) * 6 := by simp [Builtin.zeroCells, hzs]
   rw [Array.size_append, this]
   simp [flatC_length, hl]
   omega
 · intro j v hv
   rw [Array.getElem?_append_left (by simpa using (List.getElem?_eq_some_iff.1 hv).1)]
   simpa using hv
 · have hn : ¬ pl ≤ 0 := by omega
   have hlt : ¬ 2 ^ 48 < pl * 48 := by omega
   have hov : ¬ (IntKind.i64.max < (pl : Int) ∧ i.bytes = 0) := by rw [hby]; simp
   have hzv : (zeroValue (payElem P T)).run P w.drew = .ok (.agg z) w.drew := by simp [zeroValue, typeInfo, hi, hz]
   have hnew : ∀ (o : Obj) (w : World), Sem.run P (Sem.new o Sem.pure) w = .ok w.heap.size (w.alloc o) := fun _ _ => rfl
   have h0 : pl ≠ 0 := by omega
   have hn48 : ¬ 281474976710656 < pl * 48 := by omega
   simp only [Builtin.append_, Sem.run_bind, Sem.run_pure, Result.andThen_ok]
   simp [underlying, hu, hsz, Builtin.lenOf, h0, typeInfo, hi, hby, hcap, hn48, hch, hask, Builtin.firstCells, hld, hzv, Value.cells, newRow, newObj, hnew, loadCells, loadCellsFrom]
   have hcut : (Question.appendCap pl 0 (payElem P T)).cut (w.tape w.drawn (.appendCap pl 0 (payElem P T))) = c := hcc
   rw [if_neg (show ¬ (Question.appendCap pl 0 (payElem P T)).forced = true from Bool.false_ne_true), hcut]
   simp only [loadCells] at hld
   simp [hld, hzv, Value.cells]
theorem s_appendCopy0 {T : TypeId} {x y : Operand} {ats : Array TypeId} {g : Nat} {pa : Option Addr} {pl pc : Nat} {ps : List PayS} (hT : paySliceB P T = true) (hat : ats = #[T, T]) (hx : ev f x = .slice (some ⟨g, 0, none⟩) 0 0) (hy : ev f y = .slice pa pl pc) (hp : PaysIn F pa pl ps) (hb : pl * 48 ≤ 281474976710656) (h0 : 0 < pl)
   (k1 : ∀ (b c : Nat) (cs : Array Value), pl ≤ c → cs.size = c * 6 → CellsOf cs ps → sC P ops K rest (upd f d (.slice (some ⟨b, 0, none⟩) pl c)) (Has w0 F ((b, .cells cs (payElem P T)) :: L))) :
   sC P ops K (⟨some d, .call ⟨.builtin .append, #[x, y], ats⟩, ty, pos, af, none⟩ :: rest) f (Has w0 F L) := by
 intro w hw
 unfold sw
 rw [if_pos wanted_free]
 unfold opk
 subst hat
 rcases hp.2 with h | ⟨b, o, rfl, hc⟩
 · exact absurd h (by omega)
 · obtain ⟨c, cs, h1, h2, h3, h4⟩ := run_appendCopy0 (P := P) (w := w) (T := T) (ty := ty) (g := g) (b := b) (o := o) (pl := pl) (pc := pc) hT h0 hb hp.1 (fun j p hj k v hv => hw.at _ _ (hc j p hj k v hv))
   have hr : (execOp (ev f) ⟨some d, .call ⟨.builtin .append, #[x, y], #[T, T]⟩, ty, pos, af, none⟩).run P w = .ok (.value (.slice (some ⟨w.heap.size, 0, none⟩) pl c)) (w.drew.alloc (.cells cs (payElem P T))) := by
     simp [execOp, resolve, invoke, builtin, hx, hy, h4]
   rw [hr]
   exact k1 _ c cs h1 h2 (fun j p hj k v hv => h3 _ _ (flatC_get ps j p hj k v hv)) _ (hw.drew.alloc _)
theorem s_pushAll {T e by_ n c : Nat} {ats : Array TypeId} {x y : Operand} {v : Value} {xs : List Value} {a : Option Addr} {ys : List Int} (hT : rowB P T e 1 by_ = true) (hbb : Nat.ble 1 by_ = true) (hat : ats = #[T, T])
   (hx : ev f x = v) (hy : ev f y = .slice a ys.length c) (hE : ListE e 1 v n xs E) (hi : IntsAt F a ys) (hbytes : (n + ys.length) * by_ ≤ 140737488355328)
   (kk : ∀ v' E', ListE e 1 v' (n + ys.length) (xs ++ ys.map I) E' → sC P ops K rest (upd f d v') (Has w0 F (E' ++ L))) :
   sC P ops K (⟨some d, .call ⟨.builtin .append, #[x, y], ats⟩, ty, pos, af, none⟩ :: rest) f (Has w0 F (E ++ L)) := by
 intro w hw
 subst hat
 unfold sw
 rw [if_pos wanted_free]
 unfold opk
 have hrun : ∀ v' w', (Builtin.append_ #[T, T] ty #[v, .slice a ys.length c]).run P w = .ok v' w' → (execOp (ev f) ⟨some d, .call ⟨.builtin .append, #[x, y], #[T, T]⟩, ty, pos, af, none⟩).run P w = .ok (.value v') w' := by
   intro v' w' hr
   simp [execOp, resolve, invoke, builtin, hx, hy, hr]
 cases ys with
 | nil =>
   obtain ⟨i, z, hu, hii, hs, hby, hz, hzs⟩ := rowB_spec hT
   have hsz : ∀ w, (sizeOf e).run P w = .ok 1 w := fun w => by simp [sizeOf, typeInfo, hii, hs]
   have : (Builtin.append_ #[T, T] ty #[v, .slice a 0 c]).run P w = .ok v w := by
     rcases hE.2 with ⟨rfl, rfl, rfl⟩ | ⟨g, cap, cur, rfl, rfl, hnc, hcm, hcs, htake⟩
     · cases a <;> simp [Builtin.append_, underlying, hu, hsz, Builtin.lenOf, Builtin.firstCells, loadCells, loadCellsFrom]
     · cases a <;> simp [Builtin.append_, underlying, hu, hsz, Builtin.lenOf, Builtin.firstCells, loadCells, loadCellsFrom, hnc, storeCells]
   rw [hrun _ _ this]
   exact kk v E (by simpa using hE) w hw
 | cons y0 r =>
   obtain ⟨b, o, rfl, hF⟩ := hi.resolve_left (by simp)
   obtain ⟨v', E', w', hr, hE', hw'⟩ := run_appendE (P := P) (w0 := w0) (F := F) (L := L) (c := c) (ty := ty) (b := b) (o := o) (mm := (y0 :: r).length) (news := (y0 :: r).map I) hT (by decide) hE hw (by simp) (fun j u hj => by
     rw [List.getElem?_map] at hj
     cases hy' : (y0 :: r)[j]? with
     | none => rw [hy'] at hj; cases hj
     | some q =>
       rw [hy'] at hj
       simp only [Option.map_some, Option.some.injEq] at hj
       subst hj
       exact hw.at _ _ (hF j q hy')) (fun u hu => by
     obtain ⟨q, _, rfl⟩ := List.mem_map.1 hu
     rfl) (by simp) hbytes (Nat.le_of_ble_eq_true hbb)
   rw [hrun _ _ hr]
   exact kk v' E' hE' w' hw'
end
end Go.Proofs.Ytmkboljfbmlebac
namespace Go.Proofs.Ytmkboljfbmlebac
open Go.RowKit
set_option linter.unusedSimpArgs false
set_option linter.unusedVariables false
theorem c_weak {P : Program} {n : Nat} {y : Code} {Q : Exit → (Nat → Value) → World → Prop} {f : Nat → Value} {C C' : World → Prop} (hc : ∀ w, C w → C' w) (h : cC P n y Q f C') : cC P n y Q f C := fun w hw => h w (hc w hw)
theorem IntsAt.take {F : Addr → Value → Prop} {a : Option Addr} {xs : List Int} (h : IntsAt F a xs) (k : Nat) : IntsAt F a (xs.take k) := by
 rcases h with rfl | ⟨b, o, h1, h2⟩
 · exact .inl (by simp)
 · refine .inr ⟨b, o, h1, fun j x hj => h2 j x ?_⟩
   rw [List.getElem?_take] at hj
   split at hj
   · exact hj
   · cases hj
def IntsRoom (xs : List Int) : (Addr → Value → Prop) → Value → Prop := fun F v => ∃ a c, v = .slice a xs.length c ∧ xs.length ≤ c ∧ IntsAt F a xs
theorem room_mono (xs : List Int) : Mono (IntsRoom xs) := by
 rintro F F' v hm ⟨a, c, h1, h2, h3⟩
 exact ⟨a, c, h1, h2, h3.mono hm⟩
theorem room_of_list {F : Addr → Value → Prop} {e : Nat} {v : Value} {xs : List Int} {E : List (Nat × Obj)} (h : ListE e 1 v xs.length (xs.map I) E) (hk : Knows F E) : IntsRoom xs F v := by
 obtain ⟨a, c, hv, hi⟩ := (ints_of_list h hk).at
 refine ⟨a, c, hv, ?_, hi⟩
 rcases h.2 with ⟨rfl, h2, rfl⟩ | ⟨g, cap, cur, rfl, rfl, h3, h4, h5, h6⟩
 · omega
 · simp at hv; omega
structure SbG where
 F : Addr → Value → Prop
 h : H
 ps : List PayS
 k : Nat
structure SbOk (w : World) (F0 : Addr → Value → Prop) (h0 : H) (ps0 : List PayS) (bank : Int) (nr : Int) (t : SbG) : Prop where
 more : More F0 t.F
 pays : PaysIn t.F t.h.pa t.h.pl t.ps
 out : (t.h.pa = h0.pa ∧ t.h.pl = h0.pl ∧ t.ps = ps0) ∨ PaysIn (Young w t.F) t.h.pa t.h.pl t.ps
 len : t.h.pl = h0.pl
 lc : t.h.pl ≤ t.h.pc
 seqs : SeqsApart t.ps
 good : GoodPs t.ps
 near : NearG (nr + t.k) t.h.core
 kl : t.k ≤ (queueM ps0 bank).length
 queue : queueM t.ps bank = (queueM ps0 bank).drop t.k
 goes : drain bank ⟨t.h.core, t.ps, (queueM ps0 bank).take t.k⟩ = drain bank ⟨h0.core, ps0, []⟩
section
variable {w : World} {F0 : Addr → Value → Prop} {h0 : H} {ps0 : List PayS} {bank nr : Int} {t : SbG}
theorem sb_start {h : H} {ps : List PayS} (hp : PaysIn (At w) h.pa h.pl ps) (hF : More (At w) F0) (hlc : h.pl ≤ h.pc) (hsa : SeqsApart ps) (hg : GoodPs ps) (hn : NearG nr h.core) : SbOk w F0 h ps bank nr ⟨F0, h, ps, 0⟩ :=
 ⟨fun _ _ h => h, hp.mono hF, .inl ⟨rfl, rfl, rfl⟩, rfl, hlc, hsa, hg, by simpa using hn, Nat.zero_le _, by simp, by simp⟩
theorem SbOk.step (o : SbOk w F0 h0 ps0 bank nr t) {n : Int} (hn : (queueM ps0 bank)[t.k]? = some n) :
   ∃ p, settles t.ps n = some p ∧ t.ps[n.toNat]? = some p ∧ p.src = bank ∧ queueM t.ps bank = n :: (queueM ps0 bank).drop (t.k + 1) ∧ 0 ≤ n ∧ n.toNat < t.h.pl ∧ n < t.h.pl := by
 have hk : t.k < (queueM ps0 bank).length := (List.getElem?_eq_some_iff.1 hn).1
 have hd : (queueM ps0 bank).drop t.k = n :: (queueM ps0 bank).drop (t.k + 1) := by rw [List.drop_eq_getElem_cons hk]; congr 1; exact (List.getElem?_eq_some_iff.1 hn).2
 have hq := o.queue
 rw [hd] at hq
 obtain ⟨p, h1, h2, _, h3⟩ := (queueM_mine (show n ∈ queueM t.ps bank by rw [hq]; simp)).settles
 have hlt := (List.getElem?_eq_some_iff.1 h2).1
 have := o.pays.1
 have h4 := (settles_spec h1).1
 exact ⟨p, h1, h2, h3, hq, h4, by omega, by omega⟩
theorem SbOk.may (o : SbOk w F0 h0 ps0 bank nr t) (hnr : nr + (queueM ps0 bank).length ≤ 1000000) (a b n : Int) : mayM t.h a b n = maySendM t.h.core a b n := by
 have hk := o.kl
 exact (may_near o.near.ofCore (by omega) a b n).trans rfl
theorem SbOk.stop (o : SbOk w F0 h0 ps0 bank nr t) (hf : firstM t.h.core t.ps bank = none) : drain bank ⟨h0.core, ps0, []⟩ = ⟨t.h.core, t.ps, (queueM ps0 bank).take t.k⟩ := by
 rw [← o.goes]; exact drain_end hf
theorem SbOk.fin (o : SbOk w F0 h0 ps0 bank nr t) (hk : ¬ (t.k : Int) < (queueM ps0 bank).length) : firstM t.h.core t.ps bank = none := by
 refine firstM_nil ?_
 rw [o.queue]; exact List.drop_eq_nil_of_le (by omega)
theorem SbOk.next (o : SbOk w F0 h0 ps0 bank nr t) (h0n : 0 ≤ nr) (hnr : nr + (queueM ps0 bank).length ≤ 1000000) {n : Int} {p : PayS} (hn : (queueM ps0 bank)[t.k]? = some n) (hs : settles t.ps n = some p) (hq : queueM t.ps bank = n :: (queueM ps0 bank).drop (t.k + 1)) (hm : maySendM t.h.core bank p.dst p.amt = true)
   {F' : Addr → Value → Prop} (hF : More t.F F') {h' : H} (hco : h'.core = settleC t.h.core t.ps n) (hlc : h'.pl ≤ h'.pc) (ho : (h'.pa = t.h.pa ∧ h'.pl = t.h.pl ∧ settleP t.ps n = t.ps) ∨ PaysIn (Young w F') h'.pa h'.pl (settleP t.ps n)) : SbOk w F0 h0 ps0 bank nr ⟨F', h', settleP t.ps n, t.k + 1⟩ := by
 have hk : t.k < (queueM ps0 bank).length := (List.getElem?_eq_some_iff.1 hn).1
 have hlen : h'.pl = t.h.pl := by
   rcases ho with ho | ho
   · exact ho.2.1
   · rw [← ho.1, settleP_len, o.pays.1]
 refine ⟨fun a v h => hF a v (o.more a v h), ?_, ?_, by simp only; rw [hlen, o.len], hlc, o.seqs.settle n, settleP_good o.good n, ?_, hk, queue_tail o.seqs hq, ?_⟩
 · rcases ho with ⟨h1, h2, h3⟩ | ho
   · simp only; rw [h1, h2, h3]; exact o.pays.mono hF
   · exact ho.mono (more_young w F')
 · rcases ho with ⟨h1, h2, h3⟩ | ho
   · simp only; rw [h1, h2, h3]
     exact o.out.imp id fun h => h.mono (young_mono hF)
   · exact .inr ho
 · simp only
   rw [hco]
   have := o.near.settle (by omega) (by omega) o.good n
   have e : nr + ((t.k + 1 : Nat) : Int) = nr + (t.k : Int) + 1 := by omega
   rw [e]; exact this
 · simp only
   rw [← o.goes, hco]
   have hf : firstM t.h.core t.ps bank = some n := firstM_yes hq (settles_spec hs).2.1 hm
   have e : (queueM ps0 bank).take (t.k + 1) = (queueM ps0 bank).take t.k ++ [n] := by rw [List.take_add_one, hn]; rfl
   rw [drain_go (s := ⟨t.h.core, t.ps, (queueM ps0 bank).take t.k⟩) hf, e]
   rfl
theorem SbOk.done (o : SbOk w F0 h0 ps0 bank nr t) (hf : firstM t.h.core t.ps bank = none) {w' : World} {L : List (Nat × Obj)} (hw : Has w t.F L w') {a : Option Addr} {c n : Nat} (hi : IntsAt (Young w F0) a (queueM ps0 bank)) (hn : n = t.k) : SweepF h0 ps0 (drain bank ⟨h0.core, ps0, []⟩) (Fresh w w') (.tuple #[.agg t.h.cells, .slice a n c]) := by
 rw [o.stop hf]
 have hl : ((queueM ps0 bank).take t.k).length = t.k := by rw [List.length_take]; have := o.kl; omega
 refine ⟨_, _, rfl, ⟨t.h, rfl, rfl, o.lc, o.out.imp id fun h => h.mono (young_fresh hw)⟩, a, c, ?_, (hi.take t.k).mono fun b v h => young_fresh hw b v (young_mono o.more b v h)⟩
 rw [hn, hl]
end
theorem SwOk.many {w : World} {h0 : H} {ps0 : List PayS} {e : Nat} {t : SwG} (k : SwOk w h0 ps0 e t) {F' : Addr → Value → Prop} (hF : More t.F F') {s : QS} (hlen : s.ps.length = t.ps.length) (hsum : s.xs.length + cnt s.ps = cnt t.ps) {h' : H} (hlc : h'.pl ≤ h'.pc)
   (ho : (h'.pa = t.h.pa ∧ h'.pl = t.h.pl ∧ s.ps = t.ps) ∨ PaysIn (Young w F') h'.pa h'.pl s.ps) {v' : Value} {E' : List (Nat × Obj)} (hl : ListE e 1 v' (t.xs.length + s.xs.length) (t.xs.map I ++ s.xs.map I) E') (b d : Nat) :
   SwOk w h0 ps0 e ⟨F', h', s.ps, t.xs ++ s.xs, v', E', b, d⟩ := by
 have hl' : h'.pl = t.h.pl := by
   rcases ho with ho | ho
   · exact ho.2.1
   · rw [← ho.1, hlen, k.pays.1]
 refine ⟨?_, ?_, by simp only; rw [hl', k.len], hlc, by simpa using hl, ?_⟩
 · rcases ho with ⟨h1, h2, h3⟩ | ho
   · simp only; rw [h1, h2, h3]; exact k.pays.mono hF
   · exact ho.mono (more_young w F')
 · rcases ho with ⟨h1, h2, h3⟩ | ho
   · simp only; rw [h1, h2, h3]
     exact k.out.imp id fun h => h.mono (young_mono hF)
   · exact .inr ho
 · have := k.sum
   simp only [List.length_append]; omega
structure SpOk (w : World) (h0 : H) (ps0 : List PayS) (e : Nat) (t : SwG) : Prop where
 sw : SwOk w h0 ps0 e t
 seqs : SeqsApart t.ps
 good : GoodPs t.ps
 near : NearG ((ps0.length : Int) - cnt t.ps) t.h.core
 cl : cnt t.ps ≤ ps0.length
 i4 : t.idle ≤ 4
 goes : sweepFrom (t.bank % 4) t.idle t.q = sweepM h0.core ps0
theorem sp_start {w : World} {h : H} {ps : List PayS} {e : Nat} (hp : PaysIn (At w) h.pa h.pl ps) (hlc : h.pl ≤ h.pc) (hg : goodB h.core ps = true) : SpOk w h ps e ⟨At w, h, ps, [], .slice none 0 0, [], 0, 0⟩ := by
 have hc : cnt ps ≤ ps.length := List.countP_le_length
 obtain ⟨h1, h2, _⟩ := good_pays hg
 refine ⟨swOk_start hp hlc, h2, h1, (GoodH.nearG (good_of hg)).mono (by simp only; omega), hc, by simp, ?_⟩
 simp only [sweepM, hg, cond_true]
 rfl
theorem SpOk.step {w : World} {h0 : H} {ps0 : List PayS} {e : Nat} {t : SwG} (o : SpOk w h0 ps0 e t) (hg : goodB h0.core ps0 = true) (hl : ps0.length ≤ 24) (hk : t.bank < 4) {F' : Addr → Value → Prop} (hF : More t.F F') {h' : H} (hco : h'.core = (drain t.bank ⟨t.h.core, t.ps, []⟩).c) (hlc : h'.pl ≤ h'.pc)
   (ho : (h'.pa = t.h.pa ∧ h'.pl = t.h.pl ∧ (drain t.bank ⟨t.h.core, t.ps, []⟩).ps = t.ps) ∨ PaysIn (Young w F') h'.pa h'.pl (drain t.bank ⟨t.h.core, t.ps, []⟩).ps) {v' : Value} {E' : List (Nat × Obj)}
   (hli : ListE e 1 v' (t.xs.length + (drain t.bank ⟨t.h.core, t.ps, []⟩).xs.length) (t.xs.map I ++ (drain t.bank ⟨t.h.core, t.ps, []⟩).xs.map I) E') :
   ∃ i, SpOk w h0 ps0 e ⟨F', h', (drain t.bank ⟨t.h.core, t.ps, []⟩).ps, t.xs ++ (drain t.bank ⟨t.h.core, t.ps, []⟩).xs, v', E', t.bank + 1, i⟩ ∧ ((t.xs ++ (drain t.bank ⟨t.h.core, t.ps, []⟩).xs).length = t.xs.length → i = 4 ∨ i = t.idle + 1) := by
 have hd := drain_app t.bank t.h.core t.ps t.xs
 have hgo := o.goes
 rw [Nat.mod_eq_of_lt hk] at hgo
 obtain ⟨i, h1, h2, h3⟩ := pass_step hg hk o.i4 hgo
 have hq : drain t.bank t.q = ⟨(drain t.bank ⟨t.h.core, t.ps, []⟩).c, (drain t.bank ⟨t.h.core, t.ps, []⟩).ps, t.xs ++ (drain t.bank ⟨t.h.core, t.ps, []⟩).xs⟩ := hd
 rw [hq] at h2 h3
 have hf := drain_facts t.bank ⟨t.h.core, t.ps, []⟩
 have hke := drain_keeps t.bank _ ⟨t.h.core, t.ps, []⟩ rfl o.seqs
 have hcl := o.cl
 have hne := drain_near t.bank _ ⟨t.h.core, t.ps, []⟩ ((ps0.length : Int) - cnt t.ps) rfl o.good o.near (by omega) (by simp only; omega)
 simp only [List.length_nil, Nat.zero_add] at hf
 refine ⟨i, ⟨o.sw.many hF hke.2 hf.2.1 hlc ho hli _ _, hke.1, hne.2, ?_, by simp only; omega, h1, ?_⟩, h3⟩
 · simp only
   rw [hco]
   exact hne.1.mono (by simp only; omega)
 · simp only [SwG.q]
   rw [hco]
   exact h2
end Go.Proofs.Ytmkboljfbmlebac
namespace Go.Proofs.Ytmkboljfbmlebac
open Go.RowKit
set_option linter.unusedSimpArgs false
set_option linter.unusedVariables false
theorem mayM_core (h : H) (a b n : Int) : mayM h.core a b n = mayM h a b n := rfl
theorem may_of_core {h : H} (g : GoodH h.core) (a b n : Int) : mayM h a b n = maySendM h.core a b n := (mayM_core h a b n).symm.trans (may_eq g a b n)
structure RG where
 k : Nat
 F : Addr → Value → Prop
 y : H
 ps : List PayS
structure RgOk (F0 : Addr → Value → Prop) (S : QS) (pl : Nat) (t : RG) : Prop where
 more : More F0 t.F
 pays : PaysIn t.F t.y.pa t.y.pl t.ps
 lc : t.y.pl ≤ t.y.pc
 len : t.y.pl = pl
 chain : Chain t.y.core t.ps (S.xs.drop t.k)
 endC : chainC t.y.core t.ps (S.xs.drop t.k) = S.c
 endP : chainP t.ps (S.xs.drop t.k) = S.ps
 room : Room t.k t.y.core
 good : GoodPs t.ps
 le : t.k ≤ S.xs.length
 seqs : SeqsApart t.ps
theorem RgOk.step {F0 : Addr → Value → Prop} {S : QS} {pl : Nat} {t : RG} (o : RgOk F0 S pl t) (hl : S.xs.length ≤ 24) {n : Int} (hn : S.xs[t.k]? = some n) :
   ∃ p r, 0 ≤ n ∧ n < pl ∧ t.ps[n.toNat]? = some p ∧ settles t.ps n = some p ∧ queueM t.ps p.src = n :: r ∧ mayM t.y p.src p.dst p.amt = true ∧ S.xs.drop t.k = n :: S.xs.drop (t.k + 1) := by
 have hk : t.k < S.xs.length := (List.getElem?_eq_some_iff.1 hn).1
 have hd : S.xs.drop t.k = n :: S.xs.drop (t.k + 1) := by rw [List.drop_eq_getElem_cons hk]; congr 1; exact (List.getElem?_eq_some_iff.1 hn).2
 have hc := o.chain
 rw [hd] at hc
 obtain ⟨⟨b, _, hf⟩, _⟩ := hc
 obtain ⟨p, r, h1, h2, h3, h4⟩ := firstM_spec hf
 obtain ⟨s0, s1, _⟩ := settles_spec h2
 have hlt := (List.getElem?_eq_some_iff.1 s1).1
 have e1 := o.pays.1
 have e2 := o.len
 refine ⟨p, r, s0, by omega, s1, h2, by rw [h3]; exact h1, ?_, hd⟩
 rw [may_of_core (o.room.good (by have := o.le; omega)), h3]; exact h4
theorem RgOk.next {F0 F' : Addr → Value → Prop} {S : QS} {pl : Nat} {t : RG} (o : RgOk F0 S pl t) (hl : S.xs.length ≤ 24) {n : Int} {p : PayS} (hd : S.xs.drop t.k = n :: S.xs.drop (t.k + 1)) (hs : settles t.ps n = some p) (hF : More t.F F') {h' : H} (hc : h'.core = settleC t.y.core t.ps n) (hlc : h'.pl ≤ h'.pc) (hp : PaysIn F' h'.pa h'.pl (settleP t.ps n)) :
   RgOk F0 S pl ⟨t.k + 1, F', h', settleP t.ps n⟩ := by
 have c1 := o.chain
 have c2 := o.endC
 have c3 := o.endP
 rw [hd] at c1 c2 c3
 have hk : t.k < S.xs.length := by
   rcases Nat.lt_or_ge t.k S.xs.length with h | h
   · exact h
   · rw [List.drop_eq_nil_of_le h] at hd; cases hd
 refine ⟨fun a v h => hF a v (o.more a v h), hp, hlc, ?_, ?_, ?_, c3, ?_, settleP_good o.good n, by simp only; omega, o.seqs.settle n⟩
 · simp only; rw [← hp.1, settleP_len, o.pays.1, o.len]
 · simp only; rw [hc]; exact c1.2
 · simp only; rw [hc]; exact c2
 · simp only
   rw [hc]
   have e : settleC t.y.core t.ps n = moveM t.y.core p.src p.dst p.amt := by simp only [settleC, hs]
   rw [e]
   have := o.room.move (by omega) (by omega) (pay_transfer (o.good p (List.mem_of_getElem? (settles_spec hs).2.1)))
   have e2 : ((t.k + 1 : Nat) : Int) = (t.k : Int) + 1 := by omega
   rw [e2]; exact this
theorem RgOk.fin {F0 : Addr → Value → Prop} {S : QS} {pl : Nat} {t : RG} (o : RgOk F0 S pl t) (hk : ¬ (t.k : Int) < S.xs.length) : t.y.core = S.c ∧ t.ps = S.ps := by
 have c2 := o.endC
 have c3 := o.endP
 rw [List.drop_eq_nil_of_le (by omega)] at c2 c3
 exact ⟨c2, c3⟩
end Go.Proofs.Ytmkboljfbmlebac
namespace Go.Proofs.Ytmkboljfbmlebac
open Go.RowKit
set_option linter.unusedSimpArgs false
set_option linter.unusedVariables false
theorem rowA_set (r : Int → Int) {i : Int} {v : Int} (hi : 0 ≤ i ∧ i < 4) : 0 + i.toNat * 1 < (rowA r).size ∧ (rowA r).setIfInBounds (0 + i.toNat * 1) (I v) = rowA (up1 r i v) := by
 refine ⟨by rw [rowA_size]; omega, ?_⟩
 unfold rowA
 exact setq _ _ (fun j hj => by
   unfold rowC up1
   by_cases e : (j : Int) = i
   · rw [if_pos e, if_pos (by omega)]
   · rw [if_neg e, if_neg (by omega)])
theorem rowA_congr {r s : Int → Int} (h : ∀ b : Int, 0 ≤ b ∧ b < 4 → r b = s b) : rowA r = rowA s := by
 unfold rowA
 exact sameq _ _ (fun i hi => by unfold rowC; rw [h i (by omega)])
section
variable {P : Program} {f : Nat → Value} {C : World → Prop} {dst : Option Nat} {ty : TypeId} {pos : String} {af : Array Edge} {gd : Option (Nat × Bool)}
end
theorem moveQ_take {ps : List PayS} {b : Int} {x : H} {j : Nat} {i : Int} {p : PayS} (hi : (queueM ps b)[j]? = some i) (hp : ps[i.toNat]? = some p) : moveQ ps b x ((queueM ps b).take (j + 1)) = moveM (moveQ ps b x ((queueM ps b).take j)) b p.dst p.amt := by
 rw [List.take_add_one, hi]
 show moveQ ps b x (_ ++ [i]) = _
 rw [moveQ_snoc, hp]
theorem ok_left {x : H} {b : Int} (h : wr (x.has b + x.cred b) < 0) : okBank x b = false := by simp [okBank, h]
theorem ok_lim {x : H} {b t : Int} (ht : 0 ≤ t ∧ t < 4) (h0 : 0 ≤ x.lim b t) (h : x.lim b t < wr (x.sent b t - x.sent t b)) : okBank x b = false := by
 cases ho : okBank x b
 · rfl
 · unfold okBank at ho
   simp only [Bool.and_eq_true, a4_true] at ho
   have := ho.2 t ht
   simp [h0, h] at this
theorem ok_all {x : H} {b : Int} (hl : ¬ wr (x.has b + x.cred b) < 0) (h : ∀ t : Int, 0 ≤ t ∧ t < 4 → ¬ (0 ≤ x.lim b t ∧ x.lim b t < wr (x.sent b t - x.sent t b))) : okBank x b = true := by
 unfold okBank
 rw [Bool.and_eq_true, a4_true]
 refine ⟨by simp; omega, fun t ht => ?_⟩
 have := h t ht
 simp only [Bool.not_eq_true', Bool.and_eq_false_iff, decide_eq_false_iff_not]
 omega
theorem tog_all {h : H} {ps : List PayS} {n : Int → Int} (hg : goodB h ps = true) (hs : ∀ b : Int, 0 ≤ b ∧ b < 4 → withinB (n b) 0 (queueM ps b).length = true) (ho : ∀ b : Int, 0 ≤ b ∧ b < 4 → n b = 0 ∨ okBank (movesTo h ps n 4) b = true) : togetherM h ps n = true := by
 unfold togetherM
 rw [Bool.and_eq_true, Bool.and_eq_true, a4_true, a4_true]
 refine ⟨⟨hg, hs⟩, fun b hb => ?_⟩
 rcases ho b hb with e | e <;> simp [e]
def sizeTo (ps : List PayS) (k : Nat) : Int → Int := fun b => if b < k then qLen ps b else 0
theorem size_step (ps : List PayS) {k : Nat} (hk : k < 4) : rowA (up1 (sizeTo ps k) k (queueM ps k).length) = rowA (sizeTo ps (k + 1)) := rowA_congr fun b hb => by
 unfold up1 sizeTo qLen
 by_cases e : b = k
 · subst e; rw [if_pos rfl, if_pos (by omega)]
 · rw [if_neg e]
   by_cases h : b < k
   · rw [if_pos h, if_pos (by omega)]
   · rw [if_neg h, if_neg (by omega)]
theorem size_all (ps : List PayS) : rowA (sizeTo ps 4) = rowA (qLen ps) := rowA_congr fun b hb => by unfold sizeTo; rw [if_pos (by omega)]
theorem chain_snoc : ∀ (xs : List Int) (c : H) (ps : List PayS) (i : Int), chainC c ps (xs ++ [i]) = settleC (chainC c ps xs) (chainP ps xs) i ∧ chainP ps (xs ++ [i]) = settleP (chainP ps xs) i
 | [], _, _, _ => ⟨rfl, rfl⟩
 | j :: r, c, ps, i => by
   simp only [List.cons_append, chainC, chainP]
   exact chain_snoc r _ _ i
theorem settles_other {ps : List PayS} {i k : Int} {p : PayS} (h : settles ps i = some p) (hk : 0 ≤ k) (hne : i ≠ k) : settles (settleP ps k) i = some p := by
 obtain ⟨i0, hp, hs⟩ := settles_spec h
 cases hk' : settles ps k with
 | none => simp only [settleP, hk']; exact h
 | some q => exact settlesOf i0 (by rw [settleP_at hk', if_neg (by omega)]; exact hp) hs
theorem chain_settles : ∀ (xs : List Int) {ps : List PayS} {i : Int} {p : PayS}, settles ps i = some p → (∀ k ∈ xs, 0 ≤ k) → i ∉ xs → settles (chainP ps xs) i = some p
 | [], _, _, _, h, _, _ => h
 | k :: r, ps, i, p, h, h0, hn => by
   simp only [List.mem_cons, not_or] at hn
   exact chain_settles r (settles_other h (h0 k (by simp)) hn.1) (fun j hj => h0 j (by simp [hj])) hn.2
def upTo (ps : List PayS) (m : Int → Int) : Nat → List Int
 | 0 => []
 | b + 1 => upTo ps m b ++ firsts ps m b
theorem upTo_all (ps : List PayS) (m : Int → Int) : upTo ps m 4 = allFirsts ps m := by simp [upTo, allFirsts]
theorem upTo_mine {ps : List PayS} {m : Int → Int} : ∀ {b : Nat} {i : Int}, i ∈ upTo ps m b → ∃ a : Nat, a < b ∧ Mine ps a i
 | 0, i, h => by simp [upTo] at h
 | b + 1, i, h => by
   rcases List.mem_append.1 h with h | h
   · obtain ⟨a, ha, hm⟩ := upTo_mine h; exact ⟨a, by omega, hm⟩
   · exact ⟨b, by omega, firsts_mine h⟩
def unXs (ps : List PayS) (m : Int → Int) (b j : Nat) : List Int := upTo ps m b ++ (firsts ps m b).take j
theorem un_none (ps : List PayS) (m : Int → Int) (b : Nat) : unXs ps m b 0 = upTo ps m b := by simp [unXs]
theorem un_yes {ps : List PayS} {m : Int → Int} {b j : Nat} {i : Int} (hi : (queueM ps b)[j]? = some i) (hj : (j : Int) < m b) : unXs ps m b (j + 1) = unXs ps m b j ++ [i] := by
 unfold unXs
 have : (firsts ps m b)[j]? = some i := by unfold firsts; rw [List.getElem?_take, if_pos (by omega)]; exact hi
 rw [List.take_add_one, this, List.append_assoc]
 rfl
theorem un_settles {ps : List PayS} {m : Int → Int} {b j : Nat} {i : Int} (hi : (queueM ps b)[j]? = some i) : ∃ p, settles (chainP ps (unXs ps m b j)) i = some p ∧ settles ps i = some p := by
 have hm := queueM_mine (List.mem_of_getElem? hi)
 obtain ⟨p, hp, _⟩ := hm.settles
 refine ⟨p, chain_settles _ hp (fun k hk => ?_) (fun hin => ?_), hp⟩
 · rcases List.mem_append.1 hk with hk | hk
   · obtain ⟨a, _, ha⟩ := upTo_mine hk; exact ha.1
   · exact (firsts_mine (List.mem_of_mem_take hk)).1
 · rcases List.mem_append.1 hin with hk | hk
   · obtain ⟨a, hab, ha⟩ := upTo_mine hk
     have := ha.same hm
     omega
   · have h1 : i ∈ (queueM ps b).take j := by
       have : (firsts ps m b).take j = ((queueM ps b).take j).take (m b).toNat := by unfold firsts; rw [List.take_take, List.take_take, Nat.min_comm]
       rw [this] at hk
       exact List.mem_of_mem_take hk
     obtain ⟨k, hk1, hk2⟩ := List.getElem_of_mem h1
     rw [List.length_take] at hk1
     rw [List.getElem_take] at hk2
     obtain ⟨hj, hj2⟩ := List.getElem?_eq_some_iff.1 hi
     have := (List.getElem_inj (queueM_nodup ps b)).1 (hk2.trans hj2.symm)
     omega
structure UnOk (w : World) (h0 : H) (ps0 : List PayS) (e : Nat) (xs : List Int) (t : SwG) : Prop where
 sw : SwOk w h0 ps0 e t
 eq : t.xs = xs
 c : t.h.core = chainC h0.core ps0 xs
 p : t.ps = chainP ps0 xs
 more : More (At w) t.F
theorem UnOk.learn {w : World} {h0 : H} {ps0 : List PayS} {e : Nat} {xs : List Int} {t : SwG} (o : UnOk w h0 ps0 e xs t) {F' : Addr → Value → Prop} (hF : More t.F F') (b d : Nat) : UnOk w h0 ps0 e xs ⟨F', t.h, t.ps, t.xs, t.v, t.E, b, d⟩ :=
 ⟨o.sw.learn hF b d, o.eq, o.c, o.p, fun a v h => hF a v (o.more a v h)⟩
theorem UnOk.go {w : World} {h0 : H} {ps0 : List PayS} {e : Nat} {xs : List Int} {t : SwG} (o : UnOk w h0 ps0 e xs t) {F' : Addr → Value → Prop} (hF : More t.F F') {i : Int} {p : PayS} (hs : settles t.ps i = some p) {h' : H} (hco : h'.core = settleC t.h.core t.ps i) (hlc : h'.pl ≤ h'.pc)
   (ho : (h'.pa = t.h.pa ∧ h'.pl = t.h.pl ∧ settleP t.ps i = t.ps) ∨ PaysIn (Young w F') h'.pa h'.pl (settleP t.ps i)) {v' : Value} {E' : List (Nat × Obj)} (hl : ListE e 1 v' (t.xs.length + 1) (t.xs.map I ++ [I i]) E') (b d : Nat) :
   UnOk w h0 ps0 e (xs ++ [i]) ⟨F', h', settleP t.ps i, t.xs ++ [i], v', E', b, d⟩ := by
 obtain ⟨c1, c2⟩ := chain_snoc xs h0.core ps0 i
 exact ⟨o.sw.go hF hs hlc ho hl b d, by simp only; rw [o.eq], by simp only; rw [hco, o.c, o.p, c1], by simp only; rw [o.p, c2], fun a v h => hF a v (o.more a v h)⟩
end Go.Proofs.Ytmkboljfbmlebac
namespace Go.Proofs.Ytmkboljfbmlebac
open Go.RowKit
set_option linter.unusedSimpArgs false
set_option linter.unusedVariables false
theorem untie_len (h : H) (ps : List PayS) : (untieM h ps).ps.length = ps.length := chainP_len _ _
theorem untie_xs_len {h : H} {ps : List PayS} : (untieM h ps).xs.length ≤ ps.length := by
 have hn := allFirsts_nodup ps (mostM h ps)
 have hf := (nodup_full ps.length _ hn (fun i hi => by
   obtain ⟨p, hp⟩ := allFirsts_settles hi
   obtain ⟨h0, h1, _⟩ := settles_spec hp
   have := (List.getElem?_eq_some_iff.1 h1).1
   omega)).1
 exact hf
section
variable {h x : H} {ps : List PayS} (hg : goodB h.core ps = true) (hx : x.core = (untieM h.core ps).c)
include hg hx
end
end Go.Proofs.Ytmkboljfbmlebac
namespace Go.Proofs.Ytmkboljfbmlebac
open Go.RowKit
set_option linter.unusedSimpArgs false
set_option linter.unusedVariables false
section
variable {P : Program} {n : Nat} {C : Nat → World → Prop} {f : Nat → Value} {l : List Oper} {Ψ : Nat → Value → Prop} {Q : Exit → (Nat → Value) → World → Prop}
def stepsB (l : List Oper) (js : List Nat) : Bool := (List.range js.length).all fun i => match js[i]? with
 | none => false
 | some j => match l[j]? with
   | none => false
   | some o => Nat.beq i 0 || o.after.any fun e => Region.binds .any e && (match js[i - 1]? with | some p => Nat.beq e.on p | none => false)
theorem stepsB_spec {js : List Nat} (h : stepsB l js = true) {i j : Nat} (hj : js[i]? = some j) : j < l.length ∧ ∀ o, l[j]? = some o → ∀ i', i = i' + 1 → ∃ p, js[i']? = some p ∧ ∃ e ∈ o.after, Region.binds .any e = true ∧ e.on = p := by
 unfold stepsB at h
 rw [List.all_eq_true] at h
 have := h i (List.mem_range.2 (List.getElem?_eq_some_iff.1 hj).1)
 rw [hj] at this
 simp only at this
 split at this
 · cases this
 · rename_i o ho
   refine ⟨(List.getElem?_eq_some_iff.1 ho).1, fun o' ho' i' hi' => ?_⟩
   rw [ho] at ho'
   simp at ho'; subst ho'
   subst hi'
   have hz : Nat.beq (i' + 1) 0 = false := rfl
   rw [hz, Bool.false_or, Array.any_eq_true'] at this
   obtain ⟨e, he, h1⟩ := this
   simp only [Nat.add_sub_cancel, Bool.and_eq_true] at h1
   obtain ⟨h1, h2⟩ := h1
   split at h2
   · rename_i p hp
     exact ⟨p, hp, e, he, h1, Nat.eq_of_beq_eq_true h2⟩
   · cases h2
structure FlowInvN (C : Nat → World → Prop) (js : List Nat) (f : Nat → Value) (l : List Oper) (Ψ : Nat → Value → Prop) (s : Array Bool) (g : Nat → Value) (w : World) : Prop where
 size : s.size = l.length
 cls : ∃ k, k ≤ js.length ∧ C k w ∧ ∀ i j, js[i]? = some j → s[j]? = some (decide (i < k))
 done : ∀ (i : Nat) (o : Oper) (d : Nat), l[i]? = some o → s[i]? = some true → o.dst = some d → Ψ d (g d)
 out : ∀ t, t ∉ dstsOf l → g t = f t
theorem d_flowN {id : Nat} {js : List Nat} (hm : P.follows .mixedOrders = true) (hB : opsB n l.toArray = true) (hF : flowB .any l = true) (hnj : js.Nodup) (hjs : stepsB l js = true) (hC : ∀ k w w', C k w → Bel w.heap.size w w' → C k w')
   (h0 : ∀ k, k ≤ js.length → ∀ i o, l[i]? = some o → i ∉ js → Ob P (C k) f l (Fix Ψ) o) (hst : ∀ i j o, js[i]? = some j → l[j]? = some o → ObW P (C i) (C (i + 1)) f l Ψ o)
   (k : ∀ g w, C js.length w → (∀ d ∈ dstsOf l, Ψ d (g d)) → (∀ t, t ∉ dstsOf l → g t = f t) → Q .normal g w) : cC P n (.region id l.toArray true) Q f (C 0) := by
 simp only [flowB, Bool.and_eq_true, decide_eq_true_eq, List.all_eq_true] at hF
 obtain ⟨⟨hnd, hsel⟩, hall⟩ := hF
 have hop : ∀ (i : Nat) (o : Oper), l[i]? = some o → (∀ t ∈ o.looksAt l.toArray, ∀ (j : Nat) (u : Oper), l[j]? = some u → u.dst = some t → ∃ e ∈ o.after, Region.binds .any e = true ∧ e.on = j) ∧ (∀ e ∈ o.after, Region.binds .any e = true → e.on < i) := by
   intro i o hi
   have := hall (o, i) (List.mem_zipIdx_iff_getElem?.2 hi)
   simp only [Bool.and_eq_true, List.all_eq_true] at this
   obtain ⟨h1, h2⟩ := this
   refine ⟨fun t ht j u hj hu => ?_, fun e he hb => ?_⟩
   · have := h1 t ht (u, j) (List.mem_zipIdx_iff_getElem?.2 hj)
     simp [hu] at this
     obtain ⟨i', hi', e1, e2⟩ := this
     exact ⟨_, Array.getElem_mem hi', e1, e2⟩
   · have := Array.all_eq_true_iff_forall_mem.1 h2 e he
     simpa [hb] using this
 have hB' : ∀ o ∈ l, operB n l.toArray o = true := by simpa [opsB] using hB
 have main : ∀ (fuel : Nat) (s : Array Bool) (g : Nat → Value) (w : World), FlowInvN C js f l Ψ s g w → s.toList.countP unset ≤ fuel → wpAny P .any l.toArray (fun e a w => ∃ f, a = Fa n f ∧ Q e f w) fuel s (Fa n g) w := by
   have all : ∀ (s : Array Bool) (g : Nat → Value) (w : World), FlowInvN C js f l Ψ s g w → Region.ready .any l.toArray s = [] → Q .normal g w := by
     intro s g w inv hr
     have hls : ∀ i, i < l.length → s[i]? = some true := by
       intro i
       induction i using Nat.strongRecOn with
       | _ i ih =>
         intro hi
         have his : i < s.size := by rw [inv.size]; exact hi
         cases hv : s[i] with
         | true => simp [his, hv]
         | false =>
           exfalso
           have : i ∈ Region.ready .any l.toArray s := mem_ready.2 ⟨by simp [Array.getD, his, hv], l[i], by simp [hi], fun e he hb => by
             have hlt := (hop i l[i] (by simp [hi])).2 e he hb
             have := ih e.on hlt (by omega)
             have hsz := (Array.getElem?_eq_some_iff.1 this)
             obtain ⟨h1, h2⟩ := hsz
             simp [Array.getD, h1, h2]⟩
           rw [hr] at this
           cases this
     have hcl : C js.length w := by
       obtain ⟨k, hk, hc, hv⟩ := inv.cls
       rcases Nat.lt_or_ge k js.length with h | h
       · have h1 := hv k js[k] (by simp [h])
         have h2 := hls js[k] (stepsB_spec hjs (i := k) (j := js[k]) (by simp [h])).1
         rw [h1] at h2
         simp at h2
       · have : k = js.length := by omega
         rw [← this]; exact hc
     refine k g w hcl (fun d hd => ?_) inv.out
     obtain ⟨o, ho, hd'⟩ := List.mem_filterMap.1 hd
     obtain ⟨i, hi, he⟩ := List.getElem_of_mem ho
     exact inv.done i o d (by simp [hi, he]) (hls i hi) hd'
   intro fuel
   induction fuel with
   | zero =>
     intro s g w inv hc
     have hr : Region.ready .any l.toArray s = [] := by
       cases hr : Region.ready .any l.toArray s with
       | nil => rfl
       | cons i r =>
         exfalso
         have hi := (mem_ready.1 (show i ∈ Region.ready .any l.toArray s by rw [hr]; simp)).1
         have : false ∈ s.toList := by
           by_cases hs : i < s.size
           · simp [Array.getD, hs] at hi
             rw [← hi]; simp
           · simp [Array.getD, hs] at hi
         have := List.countP_pos_iff (p := unset).2 ⟨false, this, rfl⟩
         omega
     exact ⟨hr, g, rfl, all s g w inv hr⟩
   | succ fuel ih =>
     intro s g w inv hc
     refine ⟨fun hr => ⟨g, rfl, all s g w inv hr⟩, fun i hi => ?_⟩
     obtain ⟨hun, o, ho, hed⟩ := mem_ready.1 hi
     have hol : l[i]? = some o := by simpa using ho
     have hom : o ∈ l := List.mem_of_getElem? hol
     have his : i < s.size := by
       rcases Nat.lt_or_ge i s.size with h | h
       · exact h
       · have hn : ¬ i < s.size := by omega
         simp [Array.getD, hn] at hun
     have hfalse : s[i] = false := by simpa [Array.getD, his] using hun
     have hcount : (s.setIfInBounds i true).toList.countP unset ≤ fuel := by
       have e1 : unset (s.toList[i]'(by simpa using his)) = true := by simp [unset, hfalse]
       have h0 : 0 < s.toList.countP unset := List.countP_pos_iff.2 ⟨s.toList[i]'(by simpa using his), List.getElem_mem _, e1⟩
       rw [Array.toList_setIfInBounds, List.countP_set (by simpa using his), if_pos e1, if_neg (by simp [unset])]
       omega
     have hlk : ∀ t ∈ o.looksAt l.toArray, (t ∈ dstsOf l → Ψ t (g t)) ∧ (t ∉ dstsOf l → g t = f t) := fun t ht => ⟨fun htd => by
       obtain ⟨u, hu, hut⟩ := List.mem_filterMap.1 htd
       obtain ⟨j, hj, he⟩ := List.getElem_of_mem hu
       have hj' : l[j]? = some u := by simp [hj, he]
       obtain ⟨e, he1, he2, he3⟩ := (hop i o hol).1 t ht j u hj' hut
       have := hed e he1 he2
       rw [he3] at this
       refine inv.done j u t hj' ?_ hut
       have hjs : j < s.size := by rw [inv.size]; exact hj
       simp [Array.getD, hjs] at this
       simp [hjs, this], inv.out t⟩
     have next : ∀ v w', (∃ k, k ≤ js.length ∧ C k w' ∧ ∀ i' j, js[i']? = some j → (s.setIfInBounds i true)[j]? = some (decide (i' < k))) → (∀ d, o.dst = some d → Ψ d v) → FlowInvN C js f l Ψ (s.setIfInBounds i true) (updo g o.dst v) w' := by
       intro v w' hc hv
       refine ⟨by simp [inv.size], hc, fun j u d hj hs hu => ?_, fun t ht => ?_⟩
       · by_cases hji : j = i
         · subst hji
           rw [hol] at hj
           simp at hj; subst hj
           rw [hu]
           simp only [updo, upd_same]
           exact hv d hu
         · have hs' : s[j]? = some true := by rw [Array.getElem?_setIfInBounds_ne (Ne.symm hji)] at hs; exact hs
           have hne : o.dst ≠ some d := fun e => hji (dst_unique hnd hj hol hu e)
           have := inv.done j u d hj hs' hu
           cases hod : o.dst with
           | none => exact this
           | some d' =>
             simp only [updo]
             rw [upd_other g v (fun e => hne (by rw [hod, e]))]
             exact this
       · cases hod : o.dst with
         | none => exact inv.out t ht
         | some d' =>
           simp only [updo]
           rw [upd_other g v (fun e => ht (List.mem_filterMap.2 ⟨o, hom, by rw [hod, e]⟩))]
           exact inv.out t ht
     have hob : if Region.wanted o (yf l.toArray g) then opk P o g w (fun g' w' => ∃ v, g' = updo g o.dst v ∧ FlowInvN C js f l Ψ (s.setIfInBounds i true) (updo g o.dst v) w') else FlowInvN C js f l Ψ (s.setIfInBounds i true) (updo g o.dst undef) w := by
       obtain ⟨kk, hkk, hck, hvk⟩ := inv.cls
       by_cases hij : i ∈ js
       · obtain ⟨q, hq, he⟩ := List.getElem_of_mem hij
         have hq' : js[q]? = some i := by simp [hq, he]
         have hqk : q = kk := by
           have h1 := hvk q i hq'
           have h2 : s[i]? = some false := by simp [his, hfalse]
           rw [h2] at h1
           simp at h1
           rcases Nat.lt_or_ge kk q with h | h
           · obtain ⟨q', rfl⟩ : ∃ q', q = q' + 1 := ⟨q - 1, by omega⟩
             obtain ⟨p, hp, e, he1, he2, he3⟩ := (stepsB_spec hjs hq').2 o hol q' rfl
             have h3 := hvk q' p hp
             have h4 := hed e he1 he2
             rw [he3] at h4
             have hps := (Array.getElem?_eq_some_iff.1 h3).1
             have h5 : s[p]? = some true := by simp [Array.getD, hps] at h4; simp [hps, h4]
             rw [h3] at h5
             simp at h5
             omega
           · omega
         subst hqk
         obtain ⟨hgd, hsc⟩ := hst q i o hq' hol g hlk
         have := hsc w hck
         have hwt : Region.wanted o (yf l.toArray g) = true := by
           unfold Region.wanted; rw [hgd]
         unfold sw at this
         rw [if_pos hwt] at this ⊢
         unfold opk at this ⊢
         have fin : ∀ g' w', (∃ v, g' = updo g o.dst v ∧ C (q + 1) w' ∧ ∀ d, o.dst = some d → Ψ d v) → ∃ v, g' = updo g o.dst v ∧ FlowInvN C js f l Ψ (s.setIfInBounds i true) (updo g o.dst v) w' := by
           rintro g' w' ⟨v, e, hc1, hv⟩
           refine ⟨v, e, next v w' ⟨q + 1, hq, hc1, fun i' j hj => ?_⟩ hv⟩
           by_cases hji : i = j
           · subst hji
             have : i' = q := by
               have h1 := (List.getElem?_eq_some_iff.1 hj)
               obtain ⟨h1, h2⟩ := h1
               exact (List.getElem_inj hnj).1 (h2.trans he.symm)
             subst this
             simp [his]
           · rw [Array.getElem?_setIfInBounds_ne hji, hvk i' j hj]
             have : i' ≠ q := fun e => by rw [e, hq'] at hj; simp at hj; exact hji hj
             simp only [Option.some.injEq, decide_eq_decide]
             omega
         generalize (execOp (ev g) o).run P w = r at this ⊢
         cases r with
         | ok nx w' =>
           cases nx <;> simp only at this ⊢
           case value v => exact fin _ _ this
           case skip => exact fin _ _ this
           case enter fn args => exact Calls.mono this fun e w'' ⟨v, he, h⟩ => ⟨v, he, fin _ _ h⟩
         | halt x w' => exact this
       · have hb := h0 kk hkk i o hol hij g w hck hlk
         have nx : ∀ v w', Bel w.heap.size w w' → (∀ d, o.dst = some d → Ψ d v) → FlowInvN C js f l Ψ (s.setIfInBounds i true) (updo g o.dst v) w' := fun v w' hbel hv =>
           next v w' ⟨kk, hkk, hC kk w w' hck hbel, fun i' j hj => by
             rw [Array.getElem?_setIfInBounds_ne (fun e => hij (by rw [e]; exact List.mem_of_getElem? hj))]; exact hvk i' j hj⟩ hv
         split
         · rename_i hwt
           rw [if_pos hwt] at hb
           unfold opk at hb ⊢
           generalize (execOp (ev g) o).run P w = r at hb ⊢
           cases r with
           | ok nx' w' =>
             cases nx' <;> simp only at hb ⊢
             case value v => obtain ⟨v', e, hbel, hv⟩ := hb; exact ⟨v', e, nx v' w' hbel hv⟩
             case skip => obtain ⟨v', e, hbel, hv⟩ := hb; exact ⟨v', e, nx v' w' hbel hv⟩
             case enter fn args => exact Calls.mono hb fun e w'' ⟨v, he, v', e', hbel, hv⟩ => ⟨v, he, v', e', nx v' w'' hbel hv⟩
           | halt x w' => exact hb
         · rename_i hwt
           rw [if_neg hwt] at hb
           exact nx undef w (Bel.refl _ _) hb
     unfold wpOp
     simp only [ho]
     rw [Fa_wanted (hB' o hom)]
     split
     · rename_i hw
       rw [if_pos hw] at hob
       refine Or.inl ?_
       unfold Oper.wp
       rw [Fa_exec (hB' o hom)]
       unfold opk at hob
       generalize (execOp (ev g) o).run P w = r at hob
       cases r with
       | ok nx w' =>
         cases nx <;> simp only at hob <;> simp only [Oper.upon]
         case value v =>
           obtain ⟨v', e, hinv⟩ := hob
           rw [Fa_put, e]
           exact ih _ _ _ hinv hcount
         case skip =>
           obtain ⟨v', e, hinv⟩ := hob
           rw [Fa_put, e]
           exact ih _ _ _ hinv hcount
         case enter fn args =>
           refine Calls.mono hob fun e w'' ⟨v, he, v', e', hinv⟩ => ?_
           subst he
           show wpAny P .any l.toArray _ fuel _ ((Fa n g).put o.dst v) w''
           rw [Fa_put, e']
           exact ih _ _ _ hinv hcount
       | halt x w' => exact hob.elim
     · rename_i hw
       rw [if_neg hw] at hob
       rw [Fa_put]
       exact ih _ _ _ hob hcount
 intro w hw
 refine wp_region_any hm ?_
 refine main _ _ f w.drew ⟨by simp, ⟨0, Nat.zero_le _, hC 0 w _ hw ((Bel.refl _ _).drew), fun i j hj => ?_⟩, fun i o d hi hs hd => ?_, fun _ _ => rfl⟩ ?_
 · have := (stepsB_spec hjs hj).1
   simp [this]
 · rw [Array.getElem?_replicate] at hs
   split at hs <;> simp at hs
 · have := List.countP_le_length (p := unset) (l := (Array.replicate l.toArray.size false).toList)
   simpa using this
variable {w0 : World} {F : Addr → Value → Prop} {L0 L1 L2 : List (Nat × Obj)}
def three {α : Type} (a b c : α) : Nat → α
 | 0 => a
 | 1 => b
 | _ => c
theorem two_others {j0 j1 i : Nat} {o : Oper} (hj : j0 < j1) (hi : l[i]? = some o) (hn : i ∉ [j0, j1]) : o ∈ (l.eraseIdx j1).eraseIdx j0 := by
 simp only [List.mem_cons, List.not_mem_nil, or_false, not_or] at hn
 refine List.mem_eraseIdx_iff_getElem?.2 ?_
 rcases Nat.lt_or_ge i j1 with h | h
 · exact ⟨i, hn.1, by rw [List.getElem?_eraseIdx_of_lt h]; exact hi⟩
 · exact ⟨i - 1, by omega, by rw [List.getElem?_eraseIdx_of_ge (by omega), show i - 1 + 1 = i by omega]; exact hi⟩
theorem d_flow2 {id j0 j1 : Nat} {o0 o1 : Oper} (hm : P.follows .mixedOrders = true) (hB : opsB n l.toArray = true) (hF : flowB .any l = true) (hj : Nat.ble (j0 + 1) j1 = true) (hs : stepsB l [j0, j1] = true) (ho0 : l[j0]? = some o0) (ho1 : l[j1]? = some o1)
   (h0 : Obs P (Has w0 F L0) f l (Fix Ψ) ((l.eraseIdx j1).eraseIdx j0)) (h1 : Obs P (Has w0 F L1) f l (Fix Ψ) ((l.eraseIdx j1).eraseIdx j0)) (h2 : Obs P (Has w0 F L2) f l (Fix Ψ) ((l.eraseIdx j1).eraseIdx j0))
   (hs0 : ObW P (Has w0 F L0) (Has w0 F L1) f l Ψ o0) (hs1 : ObW P (Has w0 F L1) (Has w0 F L2) f l Ψ o1)
   (k : ∀ g w, Has w0 F L2 w → (∀ d ∈ dstsOf l, Ψ d (g d)) → (∀ t, t ∉ dstsOf l → g t = f t) → Q .normal g w) : cC P n (.region id l.toArray true) Q f (Has w0 F L0) := by
 have hj' := Nat.le_of_ble_eq_true hj
 refine d_flowN (C := fun i => Has w0 F (three L0 L1 L2 i)) (js := [j0, j1]) hm hB hF (by simp; omega) hs (fun k w w' hw hb => hw.below hb) (fun k hk i o hi hn => ?_) (fun i j o hij hjo => ?_) k
 · have hmem := two_others hj' hi hn
   simp only [List.length_cons, List.length_nil] at hk
   have h3 : k = 0 ∨ k = 1 ∨ k = 2 := by omega
   rcases h3 with rfl | rfl | rfl
   · exact h0.mem o hmem
   · exact h1.mem o hmem
   · exact h2.mem o hmem
 · match i, hij with
   | 0, hij => simp at hij; subst hij; rw [ho0] at hjo; simp at hjo; subst hjo; exact hs0
   | 1, hij => simp at hij; subst hij; rw [ho1] at hjo; simp at hjo; subst hjo; exact hs1
theorem f2_seq {id j0 j1 : Nat} {o0 o1 : Oper} {y : Code} (hm : P.follows .mixedOrders = true) (hB : opsB n l.toArray = true) (hF : flowB .any l = true) (hj : Nat.ble (j0 + 1) j1 = true) (hs : stepsB l [j0, j1] = true) (ho0 : l[j0]? = some o0) (ho1 : l[j1]? = some o1)
   (hs0 : ObW P (Has w0 F L0) (Has w0 F L1) f l Ψ o0) (hs1 : ObW P (Has w0 F L1) (Has w0 F L2) f l Ψ o1)
   (h0 : Obs P (Has w0 F L0) f l (Fix Ψ) ((l.eraseIdx j1).eraseIdx j0)) (h1 : Obs P (Has w0 F L1) f l (Fix Ψ) ((l.eraseIdx j1).eraseIdx j0)) (h2 : Obs P (Has w0 F L2) f l (Fix Ψ) ((l.eraseIdx j1).eraseIdx j0))
   (k : ∀ g, (∀ d ∈ dstsOf l, Ψ d (g d)) → (∀ t, t ∉ dstsOf l → g t = f t) → cC P n y Q g (Has w0 F L2)) : cC P n (.seq (.region id l.toArray true) y) Q f (Has w0 F L0) :=
 c_seq (d_flow2 hm hB hF hj hs ho0 ho1 h0 h1 h2 hs0 hs1 (fun g w hw h1 h2 => k g h1 h2 w hw))
end
section
variable {P : Program} {ops : Array Oper} {K : (Nat → Value) → World → Prop} {rest : List Oper} {f : Nat → Value} {d : Nat} {ty : TypeId} {pos : String} {af : Array Edge} {w0 : World} {F : Addr → Value → Prop} {L : List (Nat × Obj)}
theorem run_callC {k : FuncId} {x : Operand} {xs : List Operand} {caps : List Value} {ats : Array TypeId} {dst : Option Nat} {gd : Option (Nat × Bool)} (hx : ev f x = .func (.func k) #[] caps.toArray) (hk : hasBody P k = true) (w : World) :
   (execOp (ev f) ⟨dst, .call ⟨.value x, xs.toArray, ats⟩, ty, pos, af, gd⟩).run P w = .ok (.enter k (xs.map (ev f) ++ caps).toArray) w := by
 unfold hasBody at hk
 split at hk
 · rename_i fn hf
   simp only [Bool.and_eq_true, Bool.not_eq_true'] at hk
   obtain ⟨h1, h2⟩ := hk
   have h3 : ¬ fn.body = none := by intro e; rw [e] at h1; cases h1
   have h4 : ¬ fn.name = "runtime.NumGoroutine" := by intro e; rw [e] at h2; simp at h2
   simp [execOp, resolve, hx, Deferred.ofValue, invoke, callFunc, hf, h3, h4]
 · cases hk
end
def FreshX (E : List (Nat × Obj)) (w w' : World) : Addr → Value → Prop := fun a v => Fresh w w' a v ∧ a.block ∉ E.map (·.1)
structure GivesX (P : Program) (k : FuncId) (args : List Value) (w : World) (R : (Addr → Value → Prop) → Value → List (Nat × Obj) → Prop) : Prop where
 out : Calls P k args.toArray w fun e w' => ∃ v E, e = .returned v ∧ Bel w.heap.size w w' ∧ NewBlocks w w' E ∧ R (FreshX E w w') v E
def MonoX (R : (Addr → Value → Prop) → Value → List (Nat × Obj) → Prop) : Prop := ∀ F F' v E, More F F' → R F v E → R F' v E
theorem givesX_of {P : Program} {k : FuncId} {fn : Func} {c : Code} {n : Nat} {args : List Value} {w : World} {R : (Addr → Value → Prop) → Value → List (Nat × Obj) → Prop}
   (hf : P.funcs[k]? = some fn) (hb : fn.body = some c) (hn : fn.ntmps = n) (hl : args.length ≤ n)
   (h : cC P n c (retQ P fn n (fun v w' => ∃ E, Bel w.heap.size w w' ∧ NewBlocks w w' E ∧ R (FreshX E w w') v E)) (argF args) (Has w (At w) [])) : GivesX P k args w R :=
 ⟨(givesR_of hf hb hn hl h).out.mono fun e w' ⟨v, he, E, h1, h2, h3⟩ => ⟨v, E, he, h1, h2, h3⟩⟩
theorem s_callX {P : Program} {ops : Array Oper} {K : (Nat → Value) → World → Prop} {rest : List Oper} {f : Nat → Value} {d : Nat} {ty : TypeId} {pos : String} {af : Array Edge} {w0 : World} {F : Addr → Value → Prop} {L : List (Nat × Obj)}
   {k : FuncId} {xs : List Operand} {ats : Array TypeId} {R : (Addr → Value → Prop) → Value → List (Nat × Obj) → Prop} (hk : hasBody P k = true) (hR : MonoX R) (hg : ∀ w, Has w0 F L w → GivesX P k (xs.map (ev f)) w R)
   (kk : ∀ (F' : Addr → Value → Prop) (v : Value) (E : List (Nat × Obj)), More F F' → R (Young w0 F') v E → sC P ops K rest (upd f d v) (Has w0 F' (E ++ L))) :
   sC P ops K (⟨some d, .call ⟨.value (.func k), xs.toArray, ats⟩, ty, pos, af, none⟩ :: rest) f (Has w0 F L) := by
 intro w hw
 unfold sw
 rw [if_pos wanted_free]
 unfold opk
 rw [run_call hk w]
 refine (hg w hw).out.mono fun e w' ⟨v, E, he, hb, hE, hr⟩ => ⟨_, he, ?_⟩
 have h' := hw.gain hb hE
 refine kk (Out (E ++ L) w') v E (fun a v h => h'.2.2.2 a v h) (hR _ _ v E (fun a v h => ⟨⟨h.1.1, ?_⟩, Nat.le_trans hw.1.size h.1.2⟩) hr) w' ⟨h'.1, h'.2.1, h'.2.2.1, fun a v h => h⟩
 rw [List.map_append, List.mem_append]
 rintro (hm | hm)
 · exact h.2 hm
 · exact (Fresh.out hw a v h.1).2 hm
theorem young_freshX {w0 w : World} {F : Addr → Value → Prop} {E L : List (Nat × Obj)} (h : Has w0 F (E ++ L) w) : More (Young w0 F) (FreshX E w0 w) := fun a v hy => ⟨young_fresh h a v hy, fun hm => (h.2.2.2 a v hy.1).2 (by rw [List.map_append, List.mem_append]; exact .inl hm)⟩
def SweepX (h0 : H) (ps0 : List PayS) (s : QS) (e : Nat) (F : Addr → Value → Prop) (v : Value) (E : List (Nat × Obj)) : Prop := ∃ v1 v2, v = .tuple #[v1, v2] ∧ HouseF h0 ps0 s.c s.ps F v1 ∧ ListE e 1 v2 s.xs.length (s.xs.map I) E
theorem sweepX_mono (h0 : H) (ps0 : List PayS) (s : QS) (e : Nat) : MonoX (SweepX h0 ps0 s e) := by
 rintro F F' v E hm ⟨v1, v2, h1, h2, h3⟩
 exact ⟨v1, v2, h1, houseF_mono _ _ _ _ _ _ _ hm h2, h3⟩
theorem SwOk.doneX {w w' : World} {h0 : H} {ps0 : List PayS} {e : Nat} {t : SwG} {L : List (Nat × Obj)} (k : SwOk w h0 ps0 e t) (hw : Has w t.F (t.E ++ L) w') : SweepX h0 ps0 t.q e (FreshX t.E w w') (.tuple #[.agg t.h.cells, t.v]) t.E :=
 ⟨_, _, rfl, ⟨t.h, rfl, rfl, k.lc, k.out.imp id fun h => h.mono (young_freshX hw)⟩, k.list⟩
theorem n_done2X {P : Program} {fn : Func} {n t t2 T b m ty : Nat} {fr : Nat × Nat} {cs : Array Value} {f : Nat → Value} {w0 : World} {F : Addr → Value → Prop} {L E L' : List (Nat × Obj)} {R : (Addr → Value → Prop) → Value → List (Nat × Obj) → Prop} (hr : fn.results = #[.cell t T, .tmp t2]) (ht : t < n) (ht2 : t2 < n) (hp : f t = .pointer (some ⟨b, 0, none⟩))
   (hT : aggB P T m = true) (hl : Look L b (.cells cs ty fr)) (hm : cs.size = m) (hE : ∀ w, Has w0 F L w → Has w0 F (E ++ L') w) (hv : ∀ w, Has w0 F L w → R (FreshX E w0 w) (.tuple #[.agg cs, f t2]) E) : nC (retQ P fn n (fun v w' => ∃ E, Bel w0.heap.size w0 w' ∧ NewBlocks w0 w' E ∧ R (FreshX E w0 w') v E)) .ret f (Has w0 F L) := by
 intro w hw
 refine ⟨.tuple #[.agg cs, f t2], ?_, E, hw.1, (hE w hw).new, hv w hw⟩
 have e : (Fa n f).tmps[t]?.getD undef = f t := by simp [Fa, ht]
 have e2 : (Fa n f).tmps[t2]?.getD undef = f t2 := by simp [Fa, ht2]
 subst hm
 have := run_loadN (P := P) (w := w) (b := b) (o := 0) (cs := cs.toList) (by simpa using hT) (fun j v hj => by
   rw [cell_has hw hl]; simpa using hj)
 simp only [Instr.loadAt, Instr.sureAddr, Sem.run_bind, Sem.run_pure, Result.andThen] at this
 simp [results, hr, e, e2, hp, asAddr, this]
theorem results_two {P : Program} {fn : Func} {n t T b m ty t' T' b' m' ty' : Nat} {fr fr' : Nat × Nat} {cs cs' : Array Value} {f : Nat → Value} {w0 w : World} {F : Addr → Value → Prop} {L : List (Nat × Obj)} (hr : fn.results = #[.cell t T, .cell t' T']) (ht : t < n) (ht' : t' < n) (hp : f t = .pointer (some ⟨b, 0, none⟩)) (hp' : f t' = .pointer (some ⟨b', 0, none⟩))
   (hT : aggB P T m = true) (hT' : aggB P T' m' = true) (hl : Look L b (.cells cs ty fr)) (hl' : Look L b' (.cells cs' ty' fr')) (hm : cs.size = m) (hm' : cs'.size = m') (hw : Has w0 F L w) : (results fn (Fa n f).tmps).run P w = .ok (.tuple #[.agg cs, .agg cs']) w := by
 have e : (Fa n f).tmps[t]?.getD undef = f t := by simp [Fa, ht]
 have e2 : (Fa n f).tmps[t']?.getD undef = f t' := by simp [Fa, ht']
 subst hm hm'
 have h1 := run_loadN (P := P) (w := w) (b := b) (o := 0) (cs := cs.toList) (by simpa using hT) (fun j v hj => by
   rw [cell_has hw hl]; simpa using hj)
 have h2 := run_loadN (P := P) (w := w) (b := b') (o := 0) (cs := cs'.toList) (by simpa using hT') (fun j v hj => by
   rw [cell_has hw hl']; simpa using hj)
 simp only [Instr.loadAt, Instr.sureAddr, Sem.run_bind, Sem.run_pure, Result.andThen] at h1 h2
 simp [results, hr, e, e2, hp, hp', asAddr, h1, h2]
section
variable {P : Program} {fn : Func} {n t T b m ty t' T' b' m' ty' : Nat} {fr fr' : Nat × Nat} {cs cs' : Array Value} {f : Nat → Value} {w0 : World} {F : Addr → Value → Prop} {L : List (Nat × Obj)}
end
section
variable {P : Program} {ops : Array Oper} {K : (Nat → Value) → World → Prop} {rest : List Oper} {f : Nat → Value} {d : Nat} {ty : TypeId} {pos : String} {af : Array Edge} {w0 : World} {F : Addr → Value → Prop} {E L : List (Nat × Obj)}
end
theorem flat_cells {cs : Array Value} {ps : List PayS} (h : cs.toList.take (ps.length * 6) = flatC ps) : CellsOf cs ps := by
 intro j p hj k v hv
 have h1 := flatC_get ps j p hj k v hv
 rw [← h, List.getElem?_take] at h1
 split at h1
 · simpa using h1
 · cases h1
theorem ListE.pays {e : Nat} {a : Option Addr} {c : Nat} {ps : List PayS} {n : Nat} {E : List (Nat × Obj)} (h : ListE e 6 (.slice a n c) n (flatC ps) E) (hl : ps.length = n) : PaysE a n c ps E := by
 refine ⟨hl, ?_⟩
 rcases h.2 with ⟨h1, h2, h3⟩ | ⟨g, cap, cur, h1, h2, h3, h4, h5, h6⟩
 · simp at h1
   exact ⟨by omega, .inl ⟨h1.1, h2, h1.2.2, h3⟩⟩
 · simp at h1
   obtain ⟨rfl, rfl⟩ := h1
   exact ⟨h3, .inr ⟨g, e, cur, rfl, h2, h5, flat_cells (by rw [hl]; exact h6)⟩⟩
theorem PaysE.at {a : Option Addr} {n c : Nat} {ps : List PayS} {E L : List (Nat × Obj)} {w0 w : World} {F : Addr → Value → Prop} (h : PaysE a n c ps E) (hw : Has w0 F (E ++ L) w) : PaysIn (At w) a n ps :=
 h.known fun b cs t fr hm j v hv => by
   show w.cell? _ = _
   rw [cell_of_row w b j cs t fr (hw.2.2.1 _ (List.mem_append_left _ hm)).2]; exact hv
theorem CellsOf.put {cs : Array Value} {ps : List PayS} (h : CellsOf cs ps) {n : Nat} {p p' : PayS} (hn : ps[n]? = some p) {q : Nat} {v : Value} (hk : ∀ j, j ≠ q → p'.cells[j]? = p.cells[j]?) (hv : p'.cells[q]? = some v) : CellsOf (cs.setIfInBounds (0 + n * 6 + q) v) (ps.set n p') := by
 intro j x hj k u hu
 have hk6 : k < 6 := by
   rcases Nat.lt_or_ge k 6 with h | h
   · exact h
   · rw [Array.getElem?_eq_none (by simpa [PayS.cells] using h)] at hu; cases hu
 have hq6 : q < 6 := by
   rcases Nat.lt_or_ge q 6 with h | h
   · exact h
   · rw [Array.getElem?_eq_none (by simpa [PayS.cells] using h)] at hv; cases hv
 rw [Nat.zero_add]
 rw [List.getElem?_set] at hj
 split at hj
 · rename_i e
   subst e
   split at hj
   · simp at hj
     subst hj
     by_cases hkq : k = q
     · subst hkq
       rw [hv] at hu
       simp at hu; subst hu
       obtain ⟨u0, hu0⟩ : ∃ u0, p.cells[k]? = some u0 := ⟨p.cells[k]'(by simpa [PayS.cells] using hk6), by simp⟩
       have := h n p hn k u0 hu0
       rw [Array.getElem?_setIfInBounds_self_of_lt (Array.getElem?_eq_some_iff.1 this).1]
     · rw [Array.getElem?_setIfInBounds_ne (by omega)]
       rw [hk k hkq] at hu
       exact h n p hn k u hu
   · cases hj
 · rename_i e
   rw [Array.getElem?_setIfInBounds_ne (by omega)]
   exact h j x hj k u hu
theorem perm_front {α : Type} {A E B : List α} : (A ++ (E ++ B)).Perm (E ++ (A ++ B)) := by
 rw [← List.append_assoc, ← List.append_assoc]
 exact List.Perm.append_right _ List.perm_append_comm
def ReplyF (c n : Int) (xs : List Int) (F : Addr → Value → Prop) (v : Value) : Prop := ∃ a cp, v = .agg (repC c n (.slice a xs.length cp)) ∧ IntsAt F a xs
def NextF (h0 : H) (ps0 : List PayS) (q : NR) (F : Addr → Value → Prop) (v : Value) : Prop := ∃ v1 v2, v = .tuple #[v1, v2] ∧ HouseF h0 ps0 q.c q.ps F v1 ∧ ReplyF q.code q.n q.done F v2
theorem nextF_mono (h0 : H) (ps0 : List PayS) (q : NR) : Mono (NextF h0 ps0 q) := by
 rintro F F' v hm ⟨v1, v2, h1, h2, a, cp, h3, h4⟩
 exact ⟨v1, v2, h1, houseF_mono _ _ _ _ _ _ _ hm h2, a, cp, h3, h4.mono hm⟩
theorem waits_none {ps : List PayS} {n : Int} (h : waitsB ps n = false) : settles ps n = none := by
 unfold waitsB at h
 cases hs : settles ps n with
 | none => rfl
 | some p => rw [hs] at h; cases h
theorem waits_some {ps : List PayS} {n : Int} (h : waitsB ps n = true) : ∃ p, settles ps n = some p := by
 unfold waitsB at h
 cases hs : settles ps n with
 | none => rw [hs] at h; cases h
 | some p => exact ⟨p, rfl⟩
theorem Val.to {P : Program} {f : Nat → Value} {C : World → Prop} {o : Oper} {v v' : Value} (h : Val P f C o v) (e : v = v') : Val P f C o v' := e ▸ h
def minI (a b : Int) : Int := if b < a then b else a
theorem v_min {P : Program} {f : Nat → Value} {C : World → Prop} {dst : Option Nat} {ty : TypeId} {pos : String} {af : Array Edge} {gd : Option (Nat × Bool)} {x y : Operand} {ats : Array TypeId} {a b : Int} (hx : ev f x = I a) (hy : ev f y = I b) : Val P f C ⟨dst, .call ⟨.builtin .min, #[x, y], ats⟩, ty, pos, af, gd⟩ (I (minI a b)) :=
 ⟨fun w _ => by simp [execOp, resolve, invoke, builtin, hx, hy, Builtin.min_, Builtin.min2, minI]⟩
theorem ListE.shape3 {e m n : Nat} {v : Value} {xs : List Value} {E : List (Nat × Obj)} (h : ListE e m v n xs E) : ∃ a k c, v = .slice a k c := by
 obtain ⟨a, c, h⟩ := h.shape
 exact ⟨a, n, c, h⟩
theorem rep_size {c n : Int} {v : Value} : (repC c n v).size = 3 := rfl
theorem rep_all {c n : Int} {a : Option Addr} {l k : Nat} : (repC c n (.slice a l k)).all (·.oneCell') = true := by simp [repC, Value.oneCell']
theorem rep_setD {c n : Int} {v u : Value} : 0 + 2 < (repC c n v).size ∧ (repC c n v).setIfInBounds (0 + 2) u = repC c n u := ⟨by simp [repC], rfl⟩
theorem own_known {w0 w : World} {F : Addr → Value → Prop} {E L : List (Nat × Obj)} (h : Has w0 F L w) (hs : ∀ p ∈ E, p ∈ L) : Knows (Fresh w0 w) E := fun b cs t fr hm j v hv =>
 ⟨by rw [cell_of_row w b j cs t fr (h.2.2.1 _ (hs _ hm)).2]; exact hv, (h.2.2.1 _ (hs _ hm)).1⟩
theorem at_known {w0 w : World} {F : Addr → Value → Prop} {E L : List (Nat × Obj)} (h : Has w0 F L w) (hs : ∀ p ∈ E, p ∈ L) : Knows (At w) E := fun b cs t fr hm j v hv => (own_known h hs b cs t fr hm j v hv).1
theorem waits_out {ps : List PayS} {n l : Int} (hl : (ps.length : Int) = l) (h : withinB n 0 (l - 1) = false) : false = waitsB ps n := by
 unfold waitsB
 rw [settles_out (fun hh => by have := within_iff.2 (show 0 ≤ n ∧ n ≤ l - 1 by omega); rw [h] at this; cases this)]
 rfl
theorem waits_in {ps : List PayS} {n : Int} {p : PayS} (h0 : 0 ≤ n) (hp : ps[n.toNat]? = some p) : decide (p.sta = 1) = waitsB ps n := by
 unfold waitsB
 by_cases h : p.sta = 1
 · rw [settles_of h0 hp h]; simp [h]
 · rw [settles_not hp h]; simp [h]
theorem flatC_snoc (ps : List PayS) (q : PayS) : flatC ps ++ q.cells.toList = flatC (ps ++ [q]) := by simp [flatC]
def goneTo (ps : List PayS) (k : Nat) : List PayS := (ps.take k).map goneP ++ ps.drop k
theorem goneTo_len (ps : List PayS) (k : Nat) : (goneTo ps k).length = ps.length := by unfold goneTo; simp; omega
theorem goneTo_zero (ps : List PayS) : goneTo ps 0 = ps := by simp [goneTo]
theorem goneTo_all (ps : List PayS) : goneTo ps ps.length = ps.map goneP := by simp [goneTo]
theorem goneTo_at {ps : List PayS} {k : Nat} {p : PayS} (h : ps[k]? = some p) : (goneTo ps k)[k]? = some p := by
 have hk := (List.getElem?_eq_some_iff.1 h).1
 unfold goneTo
 rw [List.getElem?_append_right (by simp; omega)]
 simp [show k - min k ps.length = 0 by omega, h]
theorem goneTo_step {ps : List PayS} {k : Nat} {p : PayS} (h : ps[k]? = some p) : goneTo ps (k + 1) = (goneTo ps k).set k (goneP p) := by
 have hk := (List.getElem?_eq_some_iff.1 h).1
 unfold goneTo
 have e : ps[k] = p := (List.getElem?_eq_some_iff.1 h).2
 rw [List.take_add_one, h, List.set_append_right _ _ (by simp; omega)]
 simp [show k - min k ps.length = 0 by omega]
 rw [List.drop_eq_getElem_cons hk]
 rfl
theorem goneTo_no {ps : List PayS} {k : Nat} {p : PayS} (h : ps[k]? = some p) (hs : decide (p.sta = 1) = false) : goneTo ps (k + 1) = goneTo ps k := by
 rw [goneTo_step h]
 have : goneP p = p := by simp [goneP, hs]
 rw [this]
 apply List.ext_getElem?
 intro j
 rw [List.getElem?_set]
 split
 · rename_i e; subst e
   rw [goneTo_at h]
   have := (List.getElem?_eq_some_iff.1 (goneTo_at h)).1
   simp [this]
 · rfl
theorem cnt_take {ps : List PayS} {k : Nat} {p : PayS} (h : ps[k]? = some p) : cnt (ps.take (k + 1)) = cnt (ps.take k) + if decide (p.sta = 1) then 1 else 0 := by
 rw [List.take_add_one, h]
 unfold cnt
 simp [List.countP_append, List.countP_cons]
theorem CellsOf.sta {cs : Array Value} {ps : List PayS} (h : CellsOf cs ps) {n : Nat} {p : PayS} (hn : ps[n]? = some p) (v : Int) : CellsOf (cs.setIfInBounds (0 + n * 6 + 4) (I v)) (ps.set n { p with sta := v }) :=
 h.put hn (fun j hj => by
   match j with
   | 0 | 1 | 2 | 3 | 5 => rfl
   | 4 => exact absurd rfl hj
   | j + 6 => simp [PayS.cells]) rfl
theorem CellsOf.clsseq {cs : Array Value} {ps : List PayS} (h : CellsOf cs ps) {n : Nat} {p : PayS} (hn : ps[n]? = some p) (c q : Int) : CellsOf ((cs.setIfInBounds (0 + n * 6 + 3) (I c)).setIfInBounds (0 + n * 6 + 5) (I q)) (ps.set n { p with cls := c, seq := q }) := by
 have h1 : CellsOf (cs.setIfInBounds (0 + n * 6 + 3) (I c)) (ps.set n { p with cls := c }) := h.put hn (fun j hj => by
   match j with
   | 0 | 1 | 2 | 4 | 5 => rfl
   | 3 => exact absurd rfl hj
   | j + 6 => simp [PayS.cells]) rfl
 have hlt := (List.getElem?_eq_some_iff.1 hn).1
 have h2 := h1.put (n := n) (p := { p with cls := c }) (p' := { p with cls := c, seq := q }) (q := 5) (v := I q) (by simp [hlt]) (fun j hj => by
   match j with
   | 0 | 1 | 2 | 3 | 4 => rfl
   | 5 => exact absurd rfl hj
   | j + 6 => simp [PayS.cells]) rfl
 rw [List.set_set] at h2
 exact h2
theorem at_pays {w0 w : World} {F : Addr → Value → Prop} {L : List (Nat × Obj)} {b t pl : Nat} {fr : Nat × Nat} {cs : Array Value} {ps : List PayS} (hw : Has w0 F L w) (hl : Look L b (.cells cs t fr)) (hp : ps.length = pl) (hc : CellsOf cs ps) : PaysIn (At w) (some ⟨b, 0, none⟩) pl ps :=
 (own_pays hw hl hp hc).mono fun a v h => h.1
theorem sweepF_open {h0 : H} {ps0 : List PayS} {F : Addr → Value → Prop} {v : Value} (h : SweepF h0 ps0 (sweepM h0.core ps0) F v) : ∃ (hy : H) (a : Option Addr) (c : Nat), v = .tuple #[.agg hy.cells, .slice a (sweepM h0.core ps0).xs.length c] ∧ hy.core = (sweepM h0.core ps0).c ∧ hy.pl ≤ hy.pc ∧
   ((hy.pa = h0.pa ∧ hy.pl = h0.pl ∧ (sweepM h0.core ps0).ps = ps0) ∨ PaysIn F hy.pa hy.pl (sweepM h0.core ps0).ps) ∧ IntsAt F a (sweepM h0.core ps0).xs ∧ (sweepM h0.core ps0).xs.length ≤ ps0.length := by
 obtain ⟨v1, v2, h1, ⟨hy, h2, h3, h4, h5⟩, h6⟩ := h
 obtain ⟨a, c, h7, h8⟩ := h6.at
 subst h2 h7
 exact ⟨hy, a, c, h1, h3, h4, h5, h8, (sweepM_len _ _).2⟩
theorem cnt_le (ps : List PayS) (k : Nat) : cnt (ps.take k) ≤ k := Nat.le_trans List.countP_le_length (List.length_take_le _ _)
theorem goneP_yes {p : PayS} (h : decide (p.sta = 1) = true) : goneP p = { p with sta := 3 } := by simp [goneP, h]
end Go.Proofs.Ytmkboljfbmlebac
namespace Go.Proofs.Ytmkboljfbmlebac
open Go.RowKit
set_option linter.unusedSimpArgs false
set_option linter.unusedVariables false
section
variable {P : Program} {n : Nat} {σ : Type} {T : Array Bool → σ → World → Prop} {le : σ → World → σ → World → Prop} {f : Nat → Value} {l : List Oper} {Ψ : Nat → Value → σ → World → Prop} {Q : Exit → (Nat → Value) → World → Prop} {C : World → Prop}
def StepOb (P : Program) (T : Array Bool → σ → World → Prop) (le : σ → World → σ → World → Prop) (f : Nat → Value) (l : List Oper) (Ψ : Nat → Value → σ → World → Prop) (i : Nat) (o : Oper) : Prop :=
 ∀ (s : Array Bool) (st : σ) (g : Nat → Value) (w : World), s.size = l.length → s[i]? = some false → (∀ e ∈ o.after, Region.binds .any e = true → s.getD e.on false = true) → T s st w →
   (∀ t ∈ o.looksAt l.toArray, (t ∈ dstsOf l → Ψ t (g t) st w) ∧ (t ∉ dstsOf l → g t = f t)) →
   if Region.wanted o (yf l.toArray g) then opk P o g w (fun g' w' => ∃ v, g' = updo g o.dst v ∧ ∃ st', T (s.setIfInBounds i true) st' w' ∧ le st w st' w' ∧ ∀ d, o.dst = some d → Ψ d v st' w')
   else ∃ st', T (s.setIfInBounds i true) st' w ∧ le st w st' w ∧ ∀ d, o.dst = some d → Ψ d undef st' w
structure FlowInvS (T : Array Bool → σ → World → Prop) (f : Nat → Value) (l : List Oper) (Ψ : Nat → Value → σ → World → Prop) (s : Array Bool) (st : σ) (g : Nat → Value) (w : World) : Prop where
 size : s.size = l.length
 cls : T s st w
 done : ∀ (i : Nat) (o : Oper) (d : Nat), l[i]? = some o → s[i]? = some true → o.dst = some d → Ψ d (g d) st w
 out : ∀ t, t ∉ dstsOf l → g t = f t
theorem d_steps {id : Nat} (hm : P.follows .mixedOrders = true) (hB : opsB n l.toArray = true) (hF : flowB .any l = true) (hstab : ∀ d v st w st' w', le st w st' w' → Ψ d v st w → Ψ d v st' w')
   (h0 : ∀ w, C w → ∃ st, T (Array.replicate l.length false) st w.drew) (hst : ∀ i o, l[i]? = some o → StepOb P T le f l Ψ i o)
   (k : ∀ s st g w, (∀ i, i < l.length → s[i]? = some true) → T s st w → (∀ d ∈ dstsOf l, Ψ d (g d) st w) → (∀ t, t ∉ dstsOf l → g t = f t) → Q .normal g w) : cC P n (.region id l.toArray true) Q f C := by
 simp only [flowB, Bool.and_eq_true, decide_eq_true_eq, List.all_eq_true] at hF
 obtain ⟨⟨hnd, hsel⟩, hall⟩ := hF
 have hop : ∀ (i : Nat) (o : Oper), l[i]? = some o → (∀ t ∈ o.looksAt l.toArray, ∀ (j : Nat) (u : Oper), l[j]? = some u → u.dst = some t → ∃ e ∈ o.after, Region.binds .any e = true ∧ e.on = j) ∧ (∀ e ∈ o.after, Region.binds .any e = true → e.on < i) := by
   intro i o hi
   have := hall (o, i) (List.mem_zipIdx_iff_getElem?.2 hi)
   simp only [Bool.and_eq_true, List.all_eq_true] at this
   obtain ⟨h1, h2⟩ := this
   refine ⟨fun t ht j u hj hu => ?_, fun e he hb => ?_⟩
   · have := h1 t ht (u, j) (List.mem_zipIdx_iff_getElem?.2 hj)
     simp [hu] at this
     obtain ⟨i', hi', e1, e2⟩ := this
     exact ⟨_, Array.getElem_mem hi', e1, e2⟩
   · have := Array.all_eq_true_iff_forall_mem.1 h2 e he
     simpa [hb] using this
 have hB' : ∀ o ∈ l, operB n l.toArray o = true := by simpa [opsB] using hB
 have main : ∀ (fuel : Nat) (s : Array Bool) (st : σ) (g : Nat → Value) (w : World), FlowInvS T f l Ψ s st g w → s.toList.countP unset ≤ fuel → wpAny P .any l.toArray (fun e a w => ∃ f, a = Fa n f ∧ Q e f w) fuel s (Fa n g) w := by
   have all : ∀ (s : Array Bool) (st : σ) (g : Nat → Value) (w : World), FlowInvS T f l Ψ s st g w → Region.ready .any l.toArray s = [] → Q .normal g w := by
     intro s st g w inv hr
     have hls : ∀ i, i < l.length → s[i]? = some true := by
       intro i
       induction i using Nat.strongRecOn with
       | _ i ih =>
         intro hi
         have his : i < s.size := by rw [inv.size]; exact hi
         cases hv : s[i] with
         | true => simp [his, hv]
         | false =>
           exfalso
           have : i ∈ Region.ready .any l.toArray s := mem_ready.2 ⟨by simp [Array.getD, his, hv], l[i], by simp [hi], fun e he hb => by
             have hlt := (hop i l[i] (by simp [hi])).2 e he hb
             have := ih e.on hlt (by omega)
             have hsz := (Array.getElem?_eq_some_iff.1 this)
             obtain ⟨h1, h2⟩ := hsz
             simp [Array.getD, h1, h2]⟩
           rw [hr] at this
           cases this
     refine k s st g w hls inv.cls (fun d hd => ?_) inv.out
     obtain ⟨o, ho, hd'⟩ := List.mem_filterMap.1 hd
     obtain ⟨i, hi, he⟩ := List.getElem_of_mem ho
     exact inv.done i o d (by simp [hi, he]) (hls i hi) hd'
   intro fuel
   induction fuel with
   | zero =>
     intro s st g w inv hc
     have hr : Region.ready .any l.toArray s = [] := by
       cases hr : Region.ready .any l.toArray s with
       | nil => rfl
       | cons i r =>
         exfalso
         have hi := (mem_ready.1 (show i ∈ Region.ready .any l.toArray s by rw [hr]; simp)).1
         have : false ∈ s.toList := by
           by_cases hs : i < s.size
           · simp [Array.getD, hs] at hi
             rw [← hi]; simp
           · simp [Array.getD, hs] at hi
         have := List.countP_pos_iff (p := unset).2 ⟨false, this, rfl⟩
         omega
     exact ⟨hr, g, rfl, all s st g w inv hr⟩
   | succ fuel ih =>
     intro s st g w inv hc
     refine ⟨fun hr => ⟨g, rfl, all s st g w inv hr⟩, fun i hi => ?_⟩
     obtain ⟨hun, o, ho, hed⟩ := mem_ready.1 hi
     have hol : l[i]? = some o := by simpa using ho
     have hom : o ∈ l := List.mem_of_getElem? hol
     have his : i < s.size := by
       rcases Nat.lt_or_ge i s.size with h | h
       · exact h
       · have hn : ¬ i < s.size := by omega
         simp [Array.getD, hn] at hun
     have hfalse : s[i] = false := by simpa [Array.getD, his] using hun
     have hcount : (s.setIfInBounds i true).toList.countP unset ≤ fuel := by
       have e1 : unset (s.toList[i]'(by simpa using his)) = true := by simp [unset, hfalse]
       have h0 : 0 < s.toList.countP unset := List.countP_pos_iff.2 ⟨s.toList[i]'(by simpa using his), List.getElem_mem _, e1⟩
       rw [Array.toList_setIfInBounds, List.countP_set (by simpa using his), if_pos e1, if_neg (by simp [unset])]
       omega
     have hlk : ∀ t ∈ o.looksAt l.toArray, (t ∈ dstsOf l → Ψ t (g t) st w) ∧ (t ∉ dstsOf l → g t = f t) := fun t ht => ⟨fun htd => by
       obtain ⟨u, hu, hut⟩ := List.mem_filterMap.1 htd
       obtain ⟨j, hj, he⟩ := List.getElem_of_mem hu
       have hj' : l[j]? = some u := by simp [hj, he]
       obtain ⟨e, he1, he2, he3⟩ := (hop i o hol).1 t ht j u hj' hut
       have := hed e he1 he2
       rw [he3] at this
       refine inv.done j u t hj' ?_ hut
       have hjs : j < s.size := by rw [inv.size]; exact hj
       simp [Array.getD, hjs] at this
       simp [hjs, this], inv.out t⟩
     have next : ∀ v st' w', T (s.setIfInBounds i true) st' w' → le st w st' w' → (∀ d, o.dst = some d → Ψ d v st' w') → FlowInvS T f l Ψ (s.setIfInBounds i true) st' (updo g o.dst v) w' := by
       intro v st' w' hc hle hv
       refine ⟨by simp [inv.size], hc, fun j u d hj hs hu => ?_, fun t ht => ?_⟩
       · by_cases hji : j = i
         · subst hji
           rw [hol] at hj
           simp at hj; subst hj
           rw [hu]
           simp only [updo, upd_same]
           exact hv d hu
         · have hs' : s[j]? = some true := by rw [Array.getElem?_setIfInBounds_ne (Ne.symm hji)] at hs; exact hs
           have hne : o.dst ≠ some d := fun e => hji (dst_unique hnd hj hol hu e)
           have := hstab _ _ _ _ _ _ hle (inv.done j u d hj hs' hu)
           cases hod : o.dst with
           | none => exact this
           | some d' =>
             simp only [updo]
             rw [upd_other g v (fun e => hne (by rw [hod, e]))]
             exact this
       · cases hod : o.dst with
         | none => exact inv.out t ht
         | some d' =>
           simp only [updo]
           rw [upd_other g v (fun e => ht (List.mem_filterMap.2 ⟨o, hom, by rw [hod, e]⟩))]
           exact inv.out t ht
     have hob : if Region.wanted o (yf l.toArray g) then opk P o g w (fun g' w' => ∃ v, g' = updo g o.dst v ∧ ∃ st', FlowInvS T f l Ψ (s.setIfInBounds i true) st' (updo g o.dst v) w') else ∃ st', FlowInvS T f l Ψ (s.setIfInBounds i true) st' (updo g o.dst undef) w := by
       have hb := hst i o hol s st g w inv.size (by simp [his, hfalse]) hed inv.cls hlk
       split
       · rename_i hwt
         rw [if_pos hwt] at hb
         unfold opk at hb ⊢
         generalize (execOp (ev g) o).run P w = r at hb ⊢
         cases r with
         | ok nx' w' =>
           cases nx' <;> simp only at hb ⊢
           case value v => obtain ⟨v', e, st', h1, h2, h3⟩ := hb; exact ⟨v', e, st', next v' st' w' h1 h2 h3⟩
           case skip => obtain ⟨v', e, st', h1, h2, h3⟩ := hb; exact ⟨v', e, st', next v' st' w' h1 h2 h3⟩
           case enter fn args => exact Calls.mono hb fun e w'' ⟨v, he, v', e', st', h1, h2, h3⟩ => ⟨v, he, v', e', st', next v' st' w'' h1 h2 h3⟩
         | halt x w' => exact hb
       · rename_i hwt
         rw [if_neg hwt] at hb
         obtain ⟨st', h1, h2, h3⟩ := hb
         exact ⟨st', next undef st' w h1 h2 h3⟩
     unfold wpOp
     simp only [ho]
     rw [Fa_wanted (hB' o hom)]
     split
     · rename_i hw
       rw [if_pos hw] at hob
       refine Or.inl ?_
       unfold Oper.wp
       rw [Fa_exec (hB' o hom)]
       unfold opk at hob
       generalize (execOp (ev g) o).run P w = r at hob
       cases r with
       | ok nx w' =>
         cases nx <;> simp only at hob <;> simp only [Oper.upon]
         case value v =>
           obtain ⟨v', e, st', hinv⟩ := hob
           rw [Fa_put, e]
           exact ih _ _ _ _ hinv hcount
         case skip =>
           obtain ⟨v', e, st', hinv⟩ := hob
           rw [Fa_put, e]
           exact ih _ _ _ _ hinv hcount
         case enter fn args =>
           refine Calls.mono hob fun e w'' ⟨v, he, v', e', st', hinv⟩ => ?_
           subst he
           show wpAny P .any l.toArray _ fuel _ ((Fa n g).put o.dst v) w''
           rw [Fa_put, e']
           exact ih _ _ _ _ hinv hcount
       | halt x w' => exact hob.elim
     · rename_i hw
       rw [if_neg hw] at hob
       obtain ⟨st', hob⟩ := hob
       rw [Fa_put]
       exact ih _ _ _ _ hob hcount
 intro w hw
 refine wp_region_any hm ?_
 obtain ⟨st, h1⟩ := h0 w hw
 refine main _ _ st f w.drew ⟨by simp, by simpa using h1, fun i o d hi hs hd => ?_, fun _ _ => rfl⟩ ?_
 · rw [Array.getElem?_replicate] at hs
   split at hs <;> simp at hs
 · have := List.countP_le_length (p := unset) (l := (Array.replicate l.toArray.size false).toList)
   simpa using this
end
end Go.Proofs.Ytmkboljfbmlebac
namespace Go.Proofs.Ytmkboljfbmlebac
open Go.RowKit
set_option linter.unusedSimpArgs false
set_option linter.unusedVariables false
def cutAt (w : World) (n : Nat) : World := { w with heap := w.heap.extract 0 n }
theorem cutAt_size {w : World} {n : Nat} (h : n ≤ w.heap.size) : (cutAt w n).heap.size = n := by simp [cutAt]; omega
theorem cutAt_block {w : World} {n k : Nat} (h : n ≤ w.heap.size) (hk : k < n) : (cutAt w n).heap[k]? = w.heap[k]? := by
 simp only [cutAt, Array.getElem?_extract]
 split
 · congr 1; omega
 · omega
theorem cutAt_bel {w : World} {n : Nat} (h : n ≤ w.heap.size) : Bel (cutAt w n).heap.size (cutAt w n) w :=
 ⟨⟨rfl, rfl, rfl, by rw [cutAt_size h]; exact h, fun k hk => by rw [cutAt_size h] at hk; exact (cutAt_block h hk).symm⟩, Nat.le_refl _⟩
def upFrom (n : Nat) (L : List (Nat × Obj)) : List (Nat × Obj) := L.filter fun p => decide (n ≤ p.1)
theorem Has.cut {w0 w : World} {F : Addr → Value → Prop} {B L : List (Nat × Obj)} {n : Nat} (h : Has w0 F (B ++ L) w) (hn : n ≤ w.heap.size) (hB : ∀ p ∈ B, n ≤ p.1) : Has (cutAt w n) F (B ++ upFrom n L) w := by
 have hs : (B ++ upFrom n L).Sublist (B ++ L) := List.Sublist.append (List.Sublist.refl _) List.filter_sublist
 have h' := h.sub hs
 refine ⟨cutAt_bel hn, h'.2.1, fun p hp => ⟨?_, (h'.2.2.1 p hp).2⟩, h'.2.2.2⟩
 rw [cutAt_size hn]
 rcases List.mem_append.1 hp with hp | hp
 · exact hB p hp
 · simpa using (List.mem_filter.1 hp).2
section
variable {P : Program} {ops : Array Oper} {K : (Nat → Value) → World → Prop} {rest : List Oper} {f : Nat → Value} {d : Nat} {ty : TypeId} {pos : String} {af : Array Edge} {w0 : World} {F : Addr → Value → Prop} {B L : List (Nat × Obj)}
theorem v_nilCheck {C : World → Prop} {dst : Option Nat} {gd : Option (Nat × Bool)} {x : Operand} {a : Addr} (hx : ev f x = .pointer (some a)) : Val P f C ⟨dst, .nilCheck x, ty, pos, af, gd⟩ (.pointer (some a)) :=
 ⟨fun w _ => by simp [execOp, hx]⟩
end
end Go.Proofs.Ytmkboljfbmlebac
namespace Go.Proofs.Ytmkboljfbmlebac
open Go.RowKit
set_option linter.unusedSimpArgs false
set_option linter.unusedVariables false
def ActsAt (F : Addr → Value → Prop) (a : Option Addr) (xs : List ActS) : Prop := xs = [] ∨ ∃ b o, a = some ⟨b, o, none⟩ ∧ ∀ (j : Nat) (x : ActS), xs[j]? = some x → ∀ (k : Nat) (v : Value), x.cells[k]? = some v → F ⟨b, o + j * 5 + k, none⟩ v
theorem ActsIn.at {F : Addr → Value → Prop} {v : Value} {xs : List ActS} (h : ActsIn F v xs) : ∃ a c, v = .slice a xs.length c ∧ ActsAt F a xs := by
 obtain ⟨a, c, h1, _, h3⟩ := h
 exact ⟨a, c, h1, h3⟩
theorem ActsAt.mono {F F' : Addr → Value → Prop} {a : Option Addr} {xs : List ActS} (h : ActsAt F a xs) (hm : More F F') : ActsAt F' a xs := by
 rcases h with h | ⟨b, o, h1, h2⟩
 · exact .inl h
 · exact .inr ⟨b, o, h1, fun j x hj k v hv => hm _ _ (h2 j x hj k v hv)⟩
theorem ActsAt.at {w0 w : World} {F : Addr → Value → Prop} {L : List (Nat × Obj)} {a : Option Addr} {xs : List ActS} (h : ActsAt F a xs) (hw : Has w0 F L w) : ActsAt (At w) a xs := h.mono hw.at
theorem ActsAt.get {F : Addr → Value → Prop} {a : Option Addr} {xs : List ActS} (h : ActsAt F a xs) {j : Nat} (hj : j < xs.length) : ∃ b o x, a = some ⟨b, o, none⟩ ∧ xs[j]? = some x ∧ ∀ (k : Nat) (v : Value), x.cells[k]? = some v → F ⟨b, o + j * 5 + k, none⟩ v := by
 rcases h with rfl | ⟨b, o, h1, h2⟩
 · simp at hj
 · exact ⟨b, o, xs[j], h1, by simp [hj], h2 j _ (by simp [hj])⟩
def ActS.list (x : ActS) : List Int := [x.kind, x.a, x.b, x.c, x.n]
theorem ActS.cells_list (x : ActS) : x.cells = ((ActS.list x).map I).toArray := rfl
theorem bytes_byt {xs : List ActS} (h : ∀ x ∈ xs, noted x = true) : Byt (bytesOf xs) := fun b hb => by
 obtain ⟨x, hx, hbx⟩ := List.mem_flatMap.1 hb
 exact frame_byte (h x hx) b hbx
end Go.Proofs.Ytmkboljfbmlebac
namespace Go.Proofs.Ytmkboljfbmlebac
open Go.RowKit
set_option linter.unusedSimpArgs false
set_option linter.unusedVariables false
def left (c : H) (i : Int) : Int := c.has i + c.cred i
def net (c : H) (i j : Int) : Int := c.sent i j - c.sent j i
structure NW (c d : H) : Prop where
 left : ∀ i : Int, 0 ≤ i ∧ i < 4 → 0 ≤ left d i ∨ left c i ≤ left d i
 net : ∀ i j : Int, 0 ≤ i ∧ i < 4 → 0 ≤ j ∧ j < 4 → d.lim i j < 0 ∨ net d i j ≤ d.lim i j ∨ net d i j ≤ net c i j
 cred : d.cred = c.cred
 lim : d.lim = c.lim
theorem NW.refl (c : H) : NW c c := ⟨fun _ _ => .inr (Int.le_refl _), fun _ _ _ _ => .inr (.inr (Int.le_refl _)), rfl, rfl⟩
theorem NW.trans {c d e : H} (h : NW c d) (k : NW d e) : NW c e := by
 refine ⟨fun i hi => ?_, fun i j hi hj => ?_, k.cred.trans h.cred, k.lim.trans h.lim⟩
 · have h1 := h.left i hi
   have h2 := k.left i hi
   omega
 · have h1 := h.net i j hi hj
   have h2 := k.net i j hi hj
   have e1 : e.lim i j = d.lim i j := by rw [k.lim]
   omega
end Go.Proofs.Ytmkboljfbmlebac
namespace Go.Proofs.Ytmkboljfbmlebac
open Go.RowKit
set_option linter.unusedSimpArgs false
set_option linter.unusedVariables false
structure BankS where
 c : H
 ps : List PayS
 text : List Nat
 down : Bool
 fail : Int
 acts : Nat
structure RepS where
 code : Int
 n : Int
 done : List Int
def errR (e : Int) : RepS := ⟨e, 0, []⟩
def NR.rep (r : NR) : RepS := ⟨r.code, r.n, r.done⟩
noncomputable def replayFrom (x : H × List PayS) (l : List ActS) : H × List PayS := l.foldl (fun x a => ((nextM x.1 x.2 a).c, (nextM x.1 x.2 a).ps)) x
noncomputable def replayM (l : List ActS) : H × List PayS := replayFrom (newM.core, []) l
theorem replay_snoc (l : List ActS) (a : ActS) : replayM (l ++ [a]) = ((nextM (replayM l).1 (replayM l).2 a).c, (nextM (replayM l).1 (replayM l).2 a).ps) := by
 simp [replayM, replayFrom, List.foldl_append]
def newB : BankS := ⟨newM.core, [], [], false, -1, 0⟩
noncomputable def doM (s : BankS) (a : ActS) : BankS × RepS :=
 bif decide (s.acts = 200) then (s, errR 5)
 else bif decide (a.kind = 11) then
   bif !s.down then ({ s with acts := s.acts + 1 }, errR 2)
   else ({ s with acts := s.acts + 1, c := (replayM (readM s.text)).1, ps := (replayM (readM s.text)).2, text := bytesOf (readM s.text), down := false }, ⟨0, (readM s.text).length, []⟩)
 else bif s.down then ({ s with acts := s.acts + 1 }, errR 7)
 else bif decide (a.kind = 10) then
   bif !withinB a.n 0 4000 then ({ s with acts := s.acts + 1 }, errR 3) else ({ s with acts := s.acts + 1, fail := a.n }, errR 0)
 else bif !decide ((nextM s.c s.ps a).code = 0) then ({ s with acts := s.acts + 1 }, (nextM s.c s.ps a).rep)
 else bif !noted a then ({ s with acts := s.acts + 1 }, errR 3)
 else bif decide (4000 < s.text.length + (frameOf a).length) then ({ s with acts := s.acts + 1 }, errR 5)
 else bif decide (0 ≤ s.fail) then ({ s with acts := s.acts + 1, text := s.text ++ (frameOf a).take s.fail.toNat, down := true, fail := -1 }, errR 7)
 else ({ s with acts := s.acts + 1, text := s.text ++ frameOf a, c := (nextM s.c s.ps a).c, ps := (nextM s.c s.ps a).ps }, (nextM s.c s.ps a).rep)
structure BInv (s : BankS) (log : List ActS) (lost : Option (ActS × Nat)) : Prop where
 noted : ∀ x ∈ log, noted x = true
 house : (s.c, s.ps) = replayM log
 up : s.down = false → s.text = bytesOf log ∧ lost = none
 low : s.down = true → ∃ a m, lost = some (a, m) ∧ Proofs.Ytmkboljfbmlebac.noted a = true ∧ s.text = bytesOf log ++ (frameOf a).take m ∧ s.fail = -1
 len : s.text.length ≤ 4000
theorem newB_inv : BInv newB [] none where
 noted := fun x hx => by cases hx
 house := rfl
 up := fun _ => ⟨rfl, rfl⟩
 low := fun h => by cases h
 len := by simp [newB]
theorem bytes_app (l r : List ActS) : bytesOf (l ++ r) = bytesOf l ++ bytesOf r := by simp [bytesOf]
theorem bytes_one (a : ActS) : bytesOf [a] = frameOf a := by simp [bytesOf]
theorem read_lost {log : List ActS} {a : ActS} {m : Nat} (hl : ∀ x ∈ log, noted x = true) (ha : noted a = true) : readM (bytesOf log ++ (frameOf a).take m) = log ∨ readM (bytesOf log ++ (frameOf a).take m) = log ++ [a] := by
 rcases Nat.lt_or_ge m (frameOf a).length with h | h
 · refine .inl (readM_all log hl _ fun y hy => ?_)
   have h1 := first_cut ha (l := (frameOf a).take m) (List.take_prefix _ _) (by simp; omega)
   exact (first_none _).1 h1 y hy
 · right
   rw [List.take_of_length_le h, ← bytes_one a, ← bytes_app]
   exact readM_self fun x hx => by
     rcases List.mem_append.1 hx with hx | hx
     · exact hl x hx
     · simp at hx; subst hx; exact ha
inductive DoStep (s : BankS) (log : List ActS) (lost : Option (ActS × Nat)) (a : ActS) : BankS → RepS → List ActS → Option (ActS × Nat) → Prop
 | full : s.acts = 200 → DoStep s log lost a s (errR 5) log lost
 | same (r : RepS) : s.acts ≠ 200 → r.code ≠ 0 → r.n = 0 → r.done = [] → (r.code = 7 ↔ s.down = true) → (s.down = true → a.kind ≠ 11) → DoStep s log lost a { s with acts := s.acts + 1 } r log lost
 | opened (log' : List ActS) : s.acts ≠ 200 → s.down = true → a.kind = 11 → (∀ x m, lost = some (x, m) → log' = log ∨ log' = log ++ [x]) → DoStep s log lost a { s with acts := s.acts + 1, c := (replayM log').1, ps := (replayM log').2, text := bytesOf log', down := false } ⟨0, log'.length, []⟩ log' none
 | failing : s.acts ≠ 200 → s.down = false → a.kind = 10 → (0 ≤ a.n ∧ a.n ≤ 4000) → DoStep s log lost a { s with acts := s.acts + 1, fail := a.n } (errR 0) log lost
 | fell (m : Nat) : s.acts ≠ 200 → s.down = false → a.kind ≠ 10 → a.kind ≠ 11 → 0 ≤ s.fail → m = s.fail.toNat → (nextM s.c s.ps a).code = 0 → noted a = true → DoStep s log lost a { s with acts := s.acts + 1, text := s.text ++ (frameOf a).take m, down := true, fail := -1 } (errR 7) log (some (a, m))
 | went : s.acts ≠ 200 → s.down = false → a.kind ≠ 10 → a.kind ≠ 11 → ¬ 0 ≤ s.fail → (nextM s.c s.ps a).code = 0 → noted a = true → DoStep s log lost a { s with acts := s.acts + 1, text := s.text ++ frameOf a, c := (nextM s.c s.ps a).c, ps := (nextM s.c s.ps a).ps } (nextM s.c s.ps a).rep (log ++ [a]) none
theorem next_code (c : H) (ps : List PayS) (a : ActS) : (nextM c ps a).code ≤ 6 := by
 unfold nextM
 simp only [Bool.cond_eq_ite]
 repeat' split
 all_goals simp [errN, sweepN]
theorem next_refused {c : H} {ps : List PayS} {a : ActS} (h : ¬ (nextM c ps a).code = 0) : (nextM c ps a).n = 0 ∧ (nextM c ps a).done = [] ∧ (nextM c ps a).code ≠ 7 := by
 have s := next_step c ps a
 have hc := next_code c ps a
 generalize nextM c ps a = r at s h hc
 refine ⟨?_, ?_, by omega⟩
 all_goals
   cases s with
   | err e he => rfl
   | close h1 => exact absurd rfl h
   | mid m => exact absurd rfl h
theorem do_step {s : BankS} {log : List ActS} {lost : Option (ActS × Nat)} (v : BInv s log lost) (a : ActS) : ∃ log' lost', DoStep s log lost a (doM s a).1 (doM s a).2 log' lost' ∧ BInv (doM s a).1 log' lost' := by
 have tick : BInv { s with acts := s.acts + 1 } log lost := ⟨v.noted, v.house, v.up, v.low, v.len⟩
 by_cases h200 : s.acts = 200
 · have e : doM s a = (s, errR 5) := by simp [doM, h200]
   rw [e]
   exact ⟨log, lost, .full h200, v⟩
 by_cases hk : a.kind = 11
 · cases hd : s.down with
   | false =>
     have e : doM s a = ({ s with acts := s.acts + 1 }, errR 2) := by simp [doM, h200, hk, hd]
     rw [e]
     exact ⟨log, lost, .same _ h200 (by simp [errR]) rfl rfl (by simp [errR, hd]) (by simp [hd]), tick⟩
   | true =>
     obtain ⟨x, m, hl, hx, ht, hf⟩ := v.low hd
     have e : doM s a = ({ s with acts := s.acts + 1, c := (replayM (readM s.text)).1, ps := (replayM (readM s.text)).2, text := bytesOf (readM s.text), down := false }, ⟨0, (readM s.text).length, []⟩) := by simp [doM, h200, hk, hd]
     rw [e]
     refine ⟨readM s.text, none, .opened _ h200 hd hk (fun y k hy => ?_), (readM_bytes s.text).2, rfl, fun _ => ⟨rfl, rfl⟩, fun h => (by cases h), ?_⟩
     · rw [hl] at hy
       simp at hy
       obtain ⟨rfl, rfl⟩ := hy
       rw [ht]
       exact read_lost v.noted hx
     · exact Nat.le_trans (readM_bytes s.text).1.length_le v.len
 cases hd : s.down with
 | true =>
   have e : doM s a = ({ s with acts := s.acts + 1 }, errR 7) := by simp [doM, h200, hk, hd]
   rw [e]
   exact ⟨log, lost, .same _ h200 (by simp [errR]) rfl rfl (by simp [errR, hd]) (fun _ => hk), tick⟩
 | false =>
   obtain ⟨ht, hlo⟩ := v.up hd
   by_cases h10 : a.kind = 10
   · cases hw : withinB a.n 0 4000 with
     | false =>
       have e : doM s a = ({ s with acts := s.acts + 1 }, errR 3) := by simp [doM, h200, hd, h10, hw]
       rw [e]
       exact ⟨log, lost, .same _ h200 (by simp [errR]) rfl rfl (by simp [errR, hd]) (by simp [hd]), tick⟩
     | true =>
       have e : doM s a = ({ s with acts := s.acts + 1, fail := a.n }, errR 0) := by simp [doM, h200, hd, h10, hw]
       rw [e]
       exact ⟨log, lost, .failing h200 hd h10 (within_iff.1 hw), v.noted, v.house, v.up, fun h => (by simp only at h; rw [hd] at h; cases h), v.len⟩
   · by_cases hc : (nextM s.c s.ps a).code = 0
     · cases hn : noted a with
       | false =>
         have e : doM s a = ({ s with acts := s.acts + 1 }, errR 3) := by simp [doM, h200, hk, hd, h10, hc, hn]
         rw [e]
         exact ⟨log, lost, .same _ h200 (by simp [errR]) rfl rfl (by simp [errR, hd]) (by simp [hd]), tick⟩
       | true =>
         by_cases hl : 4000 < s.text.length + (frameOf a).length
         · have e : doM s a = ({ s with acts := s.acts + 1 }, errR 5) := by simp [doM, h200, hk, hd, h10, hc, hn, hl]
           rw [e]
           exact ⟨log, lost, .same _ h200 (by simp [errR]) rfl rfl (by simp [errR, hd]) (by simp [hd]), tick⟩
         · by_cases hf : 0 ≤ s.fail
           · have e : doM s a = ({ s with acts := s.acts + 1, text := s.text ++ (frameOf a).take s.fail.toNat, down := true, fail := -1 }, errR 7) := by simp [doM, h200, hk, hd, h10, hc, hn, hl, hf]
             rw [e]
             exact ⟨log, some (a, s.fail.toNat), .fell _ h200 hd h10 hk hf rfl hc hn, v.noted, v.house, fun h => (by cases h), fun _ => ⟨a, _, rfl, hn, by simp only; rw [ht], rfl⟩, by
               simp only [List.length_append, List.length_take]; omega⟩
           · have e : doM s a = ({ s with acts := s.acts + 1, text := s.text ++ frameOf a, c := (nextM s.c s.ps a).c, ps := (nextM s.c s.ps a).ps }, (nextM s.c s.ps a).rep) := by simp [doM, h200, hk, hd, h10, hc, hn, hl, hf]
             rw [e]
             have hh := v.house
             have h1 : (replayM log).1 = s.c := by rw [← hh]
             have h2 : (replayM log).2 = s.ps := by rw [← hh]
             refine ⟨log ++ [a], none, .went h200 hd h10 hk hf hc hn, fun x hx => ?_, ?_, fun _ => ⟨?_, rfl⟩, fun h => (by simp only at h; rw [hd] at h; cases h), ?_⟩
             · rcases List.mem_append.1 hx with hx | hx
               · exact v.noted x hx
               · simp at hx; subst hx; exact hn
             · rw [replay_snoc, h1, h2]
             · simp only; rw [ht, bytes_app, bytes_one]
             · simp only [List.length_append]; omega
     · have e : doM s a = ({ s with acts := s.acts + 1 }, (nextM s.c s.ps a).rep) := by simp [doM, h200, hk, hd, h10, hc]
       rw [e]
       obtain ⟨h1, h2, h3⟩ := next_refused hc
       exact ⟨log, lost, .same _ h200 hc h1 h2 (by simp only [NR.rep, hd]; constructor; exact fun h => absurd h h3; intro h; cases h) (by simp [hd]), tick⟩
end Go.Proofs.Ytmkboljfbmlebac
namespace Go.Proofs.Ytmkboljfbmlebac
open Go.RowKit
set_option linter.unusedSimpArgs false
set_option linter.unusedVariables false
theorem inv_new : Inv 0 newM.core [] where
 len := by simp
 pays := fun p hp => by cases hp
 seqs := by simp
 next := ⟨Int.le_refl _, Int.le_refl _⟩
 cred := fun i hi => by show (0:Int) ≤ 0 ∧ (0:Int) ≤ 1000000; omega
 lim := fun i j hi hj => by show (-1:Int) ≤ -1 ∧ (-1:Int) ≤ 1000000; omega
 sums := fun i j hi hj => rfl
 ext := fun i hi => by show -(0 * 1000000) ≤ (0:Int) + (0 + 0 + 0 + 0) - (0 + 0 + 0 + 0) ∧ (0:Int) + (0 + 0 + 0 + 0) - (0 + 0 + 0 + 0) ≤ 0 * 1000000; omega
theorem rests_new : Rests newM.core [] := rests_none fun p hp => by cases hp
theorem replay_ok (log : List ActS) (h : log.length ≤ 900) : Inv log.length (replayM log).1 (replayM log).2 ∧ Rests (replayM log).1 (replayM log).2 := by
 obtain ⟨r, hr⟩ : ∃ r, r = log.reverse := ⟨_, rfl⟩
 induction r generalizing log with
 | nil =>
   have : log = [] := by have := congrArg List.reverse hr; simpa using this.symm
   subst this
   exact ⟨inv_new, rests_new⟩
 | cons a r ih =>
   have e : log = r.reverse ++ [a] := by have := congrArg List.reverse hr; simpa using this.symm
   subst e
   simp only [List.length_append, List.length_cons, List.length_nil] at h
   obtain ⟨h1, h2⟩ := ih r.reverse (by omega) (by simp)
   rw [replay_snoc]
   have hs := next_step (replayM r.reverse).1 (replayM r.reverse).2 a
   have hk : ((r.reverse.length : Nat) : Int) ≤ 900 := by omega
   refine ⟨?_, rests_act h1 hk h2 hs⟩
   have := h1.act hk hs
   simpa using this
structure BOk (s : BankS) (log : List ActS) (lost : Option (ActS × Nat)) : Prop where
 inv : BInv s log lost
 count : log.length + (if lost.isSome then 1 else 0) ≤ s.acts
 acts : s.acts ≤ 200
theorem bok_new : BOk newB [] none := ⟨newB_inv, by simp [newB], by simp [newB]⟩
theorem BOk.house {s : BankS} {log : List ActS} {lost : Option (ActS × Nat)} (b : BOk s log lost) : Inv 200 s.c s.ps ∧ Rests s.c s.ps := by
 have h1 := b.count
 have h2 := b.acts
 have hl : log.length ≤ 200 := by omega
 obtain ⟨i, r⟩ := replay_ok log (by omega)
 rw [← b.inv.house] at i r
 exact ⟨i.mono (by omega), r⟩
theorem BOk.act {s : BankS} {log : List ActS} {lost : Option (ActS × Nat)} (b : BOk s log lost) (a : ActS) : ∃ log' lost', DoStep s log lost a (doM s a).1 (doM s a).2 log' lost' ∧ BOk (doM s a).1 log' lost' := by
 obtain ⟨log', lost', st, v⟩ := do_step b.inv a
 refine ⟨log', lost', st, v, ?_, ?_⟩
 · have hc := b.count
   generalize (doM s a).1 = s' at st
   generalize (doM s a).2 = r at st
   cases st with
   | full h => exact hc
   | same r h1 h2 h3 h4 h5 h6 => simp only; omega
   | opened l h1 h2 h3 h4 =>
     obtain ⟨x, m, hl, _⟩ := b.inv.low h2
     subst hl
     simp only [Option.isSome_some, if_true] at hc
     rcases h4 x m rfl with rfl | rfl
     · simp; omega
     · simp only [List.length_append, List.length_cons, List.length_nil, Option.isSome_none, Bool.false_eq_true, if_false]; omega
   | failing h1 h2 h3 h4 => simp only; omega
   | fell m h1 h2 h3 h4 h5 h6 h7 h8 =>
     obtain ⟨_, hl⟩ := b.inv.up h2
     subst hl
     simp only [Option.isSome_none, Option.isSome_some, Bool.false_eq_true, if_false, if_true] at hc ⊢; omega
   | went h1 h2 h3 h4 h5 h6 h7 =>
     obtain ⟨_, hl⟩ := b.inv.up h2
     subst hl
     simp only [List.length_append, List.length_cons, List.length_nil, Option.isSome_none, Bool.false_eq_true, if_false] at hc ⊢; omega
 · have ha := b.acts
   generalize (doM s a).1 = s' at st
   generalize (doM s a).2 = r at st
   cases st <;> (try simp only) <;> omega
noncomputable def playM (s : BankS) : List ActS → BankS
 | [] => s
 | a :: r => playM (doM s a).1 r
theorem play_ok : ∀ (l : List ActS) {s : BankS} {log : List ActS} {lost : Option (ActS × Nat)}, BOk s log lost → ∃ log' lost', BOk (playM s l) log' lost'
 | [], _, log, lost, b => ⟨log, lost, b⟩
 | a :: r, _, _, _, b => by
   obtain ⟨log', lost', _, b'⟩ := b.act a
   exact play_ok r b'
end Go.Proofs.Ytmkboljfbmlebac
namespace Go.Proofs.Ytmkboljfbmlebac
open Go.RowKit
set_option linter.unusedSimpArgs false
set_option linter.unusedVariables false
theorem next_len {c : H} {ps : List PayS} {a : ActS} (h : ps.length ≤ 24) : (nextM c ps a).ps.length ≤ 24 := by
 have s := next_step c ps a
 generalize nextM c ps a = r at s
 cases s with
 | err e he => exact h
 | close h1 => simpa using h
 | mid m =>
   simp only [sweepN]
   rw [(sweepM_len _ _).1]
   cases m <;> (try simp only [List.length_append, List.length_set, List.length_cons, List.length_nil, untie_len]) <;> omega
structure RpG where
 F : Addr → Value → Prop
 h : H
 k : Nat
structure RpOk (w : World) (xs : List ActS) (t : RpG) : Prop where
 k : t.k ≤ xs.length
 more : More (At w) t.F
 core : t.h.core = (replayM (xs.take t.k)).1
 pays : PaysIn (Young w t.F) t.h.pa t.h.pl (replayM (xs.take t.k)).2
 lc : t.h.pl ≤ t.h.pc
 len : t.h.pl ≤ 24
theorem rpOk_start {w : World} {xs : List ActS} : RpOk w xs ⟨At w, newM, 0⟩ :=
 ⟨Nat.zero_le _, fun _ _ h => h, by simp [replayM, replayFrom], ⟨by simp [replayM, replayFrom, newM], .inl rfl⟩, Nat.le_refl _, Nat.zero_le _⟩
theorem replay_take {xs : List ActS} {k : Nat} {a : ActS} (h : xs[k]? = some a) : replayM (xs.take (k + 1)) = ((nextM (replayM (xs.take k)).1 (replayM (xs.take k)).2 a).c, (nextM (replayM (xs.take k)).1 (replayM (xs.take k)).2 a).ps) := by
 rw [List.take_add_one, h]
 exact replay_snoc _ _
theorem RpOk.step {w : World} {xs : List ActS} {t : RpG} (o : RpOk w xs t) {a : ActS} (ha : xs[t.k]? = some a) {F' : Addr → Value → Prop} (hF : More t.F F') {h' : H} {ps : List PayS} (hps : ps = (replayM (xs.take t.k)).2) (hc : h'.core = (nextM t.h.core ps a).c) (hl : h'.pl ≤ h'.pc)
   (hp : (h'.pa = t.h.pa ∧ h'.pl = t.h.pl ∧ (nextM t.h.core ps a).ps = ps) ∨ PaysIn (Young w F') h'.pa h'.pl (nextM t.h.core ps a).ps) : RpOk w xs ⟨F', h', t.k + 1⟩ := by
 subst hps
 have hr := replay_take ha
 rw [o.core] at hc hp
 have hpays : PaysIn (Young w F') h'.pa h'.pl (nextM (replayM (xs.take t.k)).1 (replayM (xs.take t.k)).2 a).ps := by
   rcases hp with ⟨e1, e2, e3⟩ | hp
   · rw [e1, e2, e3]; exact o.pays.mono (young_mono hF)
   · exact hp
 refine ⟨(List.getElem?_eq_some_iff.1 ha).1, fun a v h => hF a v (o.more a v h), by simp only; rw [hr, hc], by simp only; rw [hr]; exact hpays, hl, ?_⟩
 have h1 := hpays.1
 have h2 := next_len (c := (replayM (xs.take t.k)).1) (ps := (replayM (xs.take t.k)).2) (a := a) (by rw [o.pays.1]; exact o.len)
 simp only; omega
def ReplayF (xs : List ActS) (F : Addr → Value → Prop) (v : Value) : Prop := ∃ h : H, v = .agg h.cells ∧ h.core = (replayM xs).1 ∧ h.pl ≤ h.pc ∧ h.pl ≤ 24 ∧ PaysIn F h.pa h.pl (replayM xs).2
theorem replayF_mono (xs : List ActS) : Mono (ReplayF xs) := by
 rintro F F' v hm ⟨h, h1, h2, h3, h4, h5⟩
 exact ⟨h, h1, h2, h3, h4, h5.mono hm⟩
end Go.Proofs.Ytmkboljfbmlebac
