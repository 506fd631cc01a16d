/- What the laws of this place stand on, part 3. Each part names its own conditions in what it states. -/
import Derived.Test.YtmkboljfbmlebacGreatQ2
import Derived.ProofKit
import Derived.OpenShut
import Derived.Deep.Slices
import Derived.SizedLaws
namespace Go.Proofs.YtmkboljfbmlebacGreat
open Go.RowKit
set_option linter.unusedSimpArgs false
set_option linter.unusedVariables false
theorem all_of_parts {α : Type} {Q : α → Prop} {cs : List α} {off m n : Nat} (h1 : ∀ v ∈ (cs.drop off).take m, Q v) (h2 : ∀ j, off + m ≤ j → j < n → ∀ v, cs[j]? = some v → Q v) : ∀ j, off ≤ j → j < n → ∀ v, cs[j]? = some v → Q v := by
 intro j hj hn v hv
 by_cases h : j < off + m
 · refine h1 v (List.mem_of_getElem? (i := j - off) ?_)
   rw [List.getElem?_take_of_lt (by omega), List.getElem?_drop, show off + (j - off) = j by omega]
   exact hv
 · exact h2 j (by omega) hn v hv
section
variable {Hh : Type} {enc : TypeId × Value → Hh} {P : Program} {w : World} {base : Nat} {spare : Nat → Bool} {held : Bool}
def IsI (v : Value) : Prop := ∃ i : Int, v = I i ∧ (Lit.int .i64 i).wf = true
theorem read_flat : ∀ (d : Nat) (T : TypeId) (n : Nat), flatB P d T n = true → ∀ (fuel : Nat) (cs : List Value) (x : DataW Hh × List MemPlace), DataW.trod enc P w base spare held fuel T cs = some x → cs.length = n ∧ ∀ v ∈ cs, IsI v
 | 0, T, n, h, _, _, _, _ => by cases h
 | d + 1, T, n, h, fuel, cs, x, hx => by
   unfold flatB at h
   simp only [Bool.and_eq_true] at h
   obtain ⟨hs, h⟩ := h
   have hcT : P.cellsOf T = n := by
     have := sizeB_info hs
     unfold Program.cellsOf
     cases hi : P.info? T with
     | none => rw [hi] at this; cases this
     | some i => rw [hi] at this; simpa using this
   split at h
   · rename_i hu
     have : n = 1 := Nat.eq_of_beq_eq_true h
     obtain ⟨i, rfl, _, hw⟩ := DataW.trod_int hu hx
     refine ⟨this.symm, fun v hv => ?_⟩
     simp at hv
     exact ⟨i, hv, hw⟩
   · rename_i len e hu
     split at h
     · rename_i i hi
       simp only [Bool.and_eq_true] at h
       obtain ⟨hf, hn⟩ := h
       have hn := Nat.eq_of_beq_eq_true hn
       have hce : P.cellsOf e = i.size := by simp [Program.cellsOf, hi]
       obtain ⟨xs, m, _, _, hl, hxl, hp⟩ := DataW.trod_array hu hx
       rw [hcT] at hl
       refine ⟨hl, ?_⟩
       have key : ∀ (r k : Nat), k + r = len → ∀ j, k * i.size ≤ j → j < n → ∀ v, cs[j]? = some v → IsI v := by
         intro r
         induction r with
         | zero =>
           intro k hk j hj hjn v hv
           rw [hn, ← hk] at hjn
           simp at hjn
           omega
         | succ r ih =>
           intro k hk
           have hk' : k < len := by omega
           have h1 := hp k hk'
           rw [hce] at h1
           have hxk : xs[k]? = some (xs[k]'(by omega)) := by simp [hxl, hk']
           rw [hxk] at h1
           have h2 := (read_flat d e i.size hf m _ _ h1).2
           refine all_of_parts h2 ?_
           have := ih (k + 1) (by omega)
           rw [Nat.succ_mul] at this
           exact this
       intro v hv
       obtain ⟨j, hj⟩ := List.getElem?_of_mem hv
       exact key len 0 (by omega) j (by omega) (by rw [← hl]; exact (List.getElem?_eq_some_iff.1 hj).1) v hj
     · cases h
   · rename_i fs hu
     simp only [Bool.and_eq_true] at h
     obtain ⟨hst, hfs⟩ := h
     obtain ⟨xs, m, _, _, hl, hxl, hp⟩ := DataW.trod_struct hu hx
     rw [hcT] at hl
     refine ⟨hl, ?_⟩
     have key : ∀ (l : List Field) (off c : Nat), (∀ j, l[j]? = fs[c + j]?) → flatFs P (flatB P d) l off n = true → ∀ j, off ≤ j → j < n → ∀ v, cs[j]? = some v → IsI v := by
       intro l
       induction l with
       | nil =>
         intro off c _ hlf j hj hjn v hv
         have : off = n := Nat.eq_of_beq_eq_true hlf
         omega
       | cons fd l ih =>
         intro off c hc hlf
         unfold flatFs at hlf
         simp only [Bool.and_eq_true] at hlf
         obtain ⟨⟨_, hoff⟩, hlf⟩ := hlf
         have hoff := Nat.eq_of_beq_eq_true hoff
         split at hlf
         · rename_i i hi
           simp only [Bool.and_eq_true] at hlf
           obtain ⟨hf, hlf⟩ := hlf
           have hce : P.cellsOf fd.type = i.size := by simp [Program.cellsOf, hi]
           have hfd : fs[c]? = some fd := by simpa using (hc 0).symm
           have h1 := hp c fd hfd
           rw [hce, hoff] at h1
           have hlt : c < xs.length := by rw [hxl]; exact (Array.getElem?_eq_some_iff.1 hfd).1
           rw [show xs[c]? = some (xs[c]'hlt) by simp [hlt]] at h1
           have h2 := (read_flat d fd.type i.size hf m _ _ h1).2
           refine all_of_parts h2 ?_
           exact ih (off + i.size) (c + 1) (fun j => by have := hc (j + 1); simpa [Nat.add_assoc, Nat.add_comm 1 j] using this) hlf
         · cases hlf
     intro v hv
     obtain ⟨j, hj⟩ := List.getElem?_of_mem hv
     exact key fs.toList 0 0 (fun j => by simp) hfs j (by omega) (by rw [← hl]; exact (List.getElem?_eq_some_iff.1 hj).1) v hj
   · cases h
def intV (v : Value) : Int := match v with
 | .int _ n => n
 | _ => 0
theorem intV_of {v : Value} (h : IsI v) : I (intV v) = v := by obtain ⟨i, rfl, _⟩ := h; rfl
end
end Go.Proofs.YtmkboljfbmlebacGreat
namespace Go.Proofs.YtmkboljfbmlebacGreat
open Go.RowKit
set_option linter.unusedSimpArgs false
set_option linter.unusedVariables false
def flatC (ps : List PayS) : List Value := ps.flatMap fun p => p.cells.toList
theorem flatC_length (ps : List PayS) : (flatC ps).length = ps.length * 6 := by
 induction ps with
 | nil => rfl
 | cons p r ih => simp only [flatC, List.flatMap_cons, List.length_append, List.length_cons] at *; rw [ih]; simp [PayS.cells]; omega
theorem flatC_get : ∀ (ps : List PayS) (j : Nat) (p : PayS), ps[j]? = some p → ∀ (k : Nat) (v : Value), p.cells[k]? = some v → (flatC ps)[j * 6 + k]? = some v
 | [], j, p, h, _, _, _ => by simp at h
 | q :: r, j, p, h, k, v, hv => by
   have hk : k < 6 := by
     rcases Nat.lt_or_ge k 6 with h | h
     · exact h
     · rw [Array.getElem?_eq_none (by simpa [PayS.cells] using h)] at hv; cases hv
   have hl : q.cells.toList.length = 6 := by simp [PayS.cells]
   cases j with
   | zero =>
     simp at h; subst h
     simp only [flatC, List.flatMap_cons, Nat.zero_mul, Nat.zero_add]
     rw [List.getElem?_append_left (by rw [hl]; exact hk)]
     simpa using hv
   | succ j =>
     simp only [List.getElem?_cons_succ] at h
     simp only [flatC, List.flatMap_cons]
     rw [List.getElem?_append_right (by rw [hl]; omega), hl, show (j + 1) * 6 + k - 6 = j * 6 + k by omega]
     exact flatC_get r j p h k v hv
theorem flatC_inv : ∀ (ps : List PayS) (i : Nat) (v : Value), (flatC ps)[i]? = some v → ∃ p, ps[i / 6]? = some p ∧ p.cells[i % 6]? = some v
 | [], i, v, h => by simp [flatC] at h
 | q :: r, i, v, h => by
   have hl : q.cells.toList.length = 6 := by simp [PayS.cells]
   simp only [flatC, List.flatMap_cons] at h
   by_cases hi : i < 6
   · rw [List.getElem?_append_left (by rw [hl]; exact hi)] at h
     exact ⟨q, by rw [Nat.div_eq_of_lt hi]; rfl, by rw [Nat.mod_eq_of_lt hi]; simpa using h⟩
   · rw [List.getElem?_append_right (by rw [hl]; omega), hl] at h
     obtain ⟨p, h1, h2⟩ := flatC_inv r (i - 6) v h
     refine ⟨p, ?_, ?_⟩
     · rw [show i / 6 = (i - 6) / 6 + 1 by omega]; simpa using h1
     · rw [show i % 6 = (i - 6) % 6 by omega]; exact h2
def paySliceB (P : Program) (T : TypeId) : Bool := match P.underlying T with
 | some (.slice e) => sizeB P e 6 && (match P.info? e with | some i => Nat.beq i.bytes 48 && (match i.zero with | some (.agg z) => Nat.beq z.size 6 | _ => false) | none => false)
 | _ => false
def payElem (P : Program) (T : TypeId) : TypeId := match P.underlying T with
 | some (.slice e) => e
 | _ => 0
theorem paySliceB_spec {P : Program} {T : TypeId} (h : paySliceB P T = true) : ∃ i z, P.underlying T = some (.slice (payElem P T)) ∧ sizeB P (payElem P T) 6 = true ∧ P.info? (payElem P T) = some i ∧ i.bytes = 48 ∧ i.zero = some (.agg z) ∧ z.size = 6 := by
 unfold paySliceB at h
 unfold payElem
 split at h
 · rename_i e hu
   rw [hu]
   simp only [Bool.and_eq_true] at h
   obtain ⟨h1, h2⟩ := h
   split at h2
   · rename_i i hi
     simp only [Bool.and_eq_true] at h2
     obtain ⟨h3, h4⟩ := h2
     split at h4
     · rename_i z hz
       exact ⟨i, z, rfl, h1, hi, Nat.eq_of_beq_eq_true h3, hz, Nat.eq_of_beq_eq_true h4⟩
     · cases h4
   · cases h2
 · cases h
section
variable {P : Program}
theorem load_pays {w : World} {b o pl : Nat} {ps : List PayS} (hl : ps.length = pl) (hc : ∀ (j : Nat) (p : PayS), ps[j]? = some p → ∀ (k : Nat) (v : Value), p.cells[k]? = some v → w.cell? ⟨b, o + j * 6 + k, none⟩ = some v) :
   (loadCells ⟨b, o, none⟩ (pl * 6)).run P w = .ok (flatC ps).toArray w := by
 have := run_loadCells_list (P := P) w ⟨b, o, none⟩ (flatC ps) (fun i v hv => by
   obtain ⟨p, h1, h2⟩ := flatC_inv ps i v hv
   rw [add_off]
   have := hc _ p h1 _ v h2
   rwa [show o + i / 6 * 6 + i % 6 = o + i by omega] at this)
 rwa [flatC_length, hl] at this
theorem run_appendCopy {w : World} {T ty : TypeId} {b o pl pc : Nat} {ps : List PayS} (hT : paySliceB P T = true) (hpos : 0 < pl) (hb : pl * 48 ≤ 281474976710656) (hl : ps.length = pl)
   (hc : ∀ (j : Nat) (p : PayS), ps[j]? = some p → ∀ (k : Nat) (v : Value), p.cells[k]? = some v → w.cell? ⟨b, o + j * 6 + k, none⟩ = some v) :
   ∃ (c : Nat) (cs : Array Value), pl ≤ c ∧ cs.size = c * 6 ∧ (∀ (i : Nat) (v : Value), (flatC ps)[i]? = some v → cs[i]? = some v) ∧ (Builtin.append_ #[T, T] ty #[.slice none 0 0, .slice (some ⟨b, o, none⟩) pl pc]).run P w = .ok (.slice (some ⟨w.heap.size, 0, none⟩) pl c) (w.drew.alloc (.cells cs (payElem P T))) := by
 obtain ⟨i, z, hu, hs, hi, hby, hz, hzs⟩ := paySliceB_spec hT
 have hsz : ∀ w, (sizeOf (payElem P T)).run P w = .ok 6 w := fun w => sizeB_run hs
 have hld := load_pays (P := P) (w := w.drew) (b := b) (o := o) hl (fun j p hj k v hv => by simpa using hc j p hj k v hv)
 have hcap : Builtin.nextslicecap pl 0 = pl := by unfold Builtin.nextslicecap; rw [if_pos (by omega)]
 have hask : ∀ n w, (askRoom n).run P w = .ok () w := by intro n w; unfold askRoom; split <;> rfl
 have hch : (choose (.appendCap pl 0 (payElem P T))).run P w = .ok (pl + w.tape w.drawn (.appendCap pl 0 (payElem P T)) % (2 ^ 63 - pl)) w.drew := by
   unfold choose
   simp only [Sem.run, Question.forced, Question.cut, Bool.false_eq_true, if_false]
   rfl
 generalize hcc : pl + w.tape w.drawn (.appendCap pl 0 (payElem P T)) % (2 ^ 63 - pl) = c at hch
 refine ⟨c, (flatC ps).toArray ++ Builtin.zeroCells z (c - pl), by omega, ?_, ?_, ?_⟩
 · have : (Builtin.zeroCells z (c - pl)).size = (c - pl) * 6 := by simp [Builtin.zeroCells, hzs]
   rw [Array.size_append, this]
   simp [flatC_length, hl]
   omega
 · intro j v hv
   rw [Array.getElem?_append_left (by simpa using (List.getElem?_eq_some_iff.1 hv).1)]
   simpa using hv
 · have hn : ¬ pl ≤ 0 := by omega
   have hlt : ¬ 2 ^ 48 < pl * 48 := by omega
   have hov : ¬ (IntKind.i64.max < (pl : Int) ∧ i.bytes = 0) := by rw [hby]; simp
   have hzv : (zeroValue (payElem P T)).run P w.drew = .ok (.agg z) w.drew := by simp [zeroValue, typeInfo, hi, hz]
   have hnew : ∀ (o : Obj) (w : World), Sem.run P (Sem.new o Sem.pure) w = .ok w.heap.size (w.alloc o) := fun _ _ => rfl
   have h0 : pl ≠ 0 := by omega
   have hn48 : ¬ 281474976710656 < pl * 48 := by omega
   simp only [Builtin.append_, Sem.run_bind, Sem.run_pure, Result.andThen_ok]
   simp [underlying, hu, hsz, Builtin.lenOf, h0, typeInfo, hi, hby, hcap, hn48, hch, hask, Builtin.firstCells, hld, hzv, Value.cells, newRow, newObj, hnew]
   have hcut : (Question.appendCap pl 0 (payElem P T)).cut (w.tape w.drawn (.appendCap pl 0 (payElem P T))) = c := hcc
   rw [if_neg (show ¬ (Question.appendCap pl 0 (payElem P T)).forced = true from Bool.false_ne_true), hcut]
variable {ops : Array Oper} {K : (Nat → Value) → World → Prop} {rest : List Oper} {f : Nat → Value} {d : Nat} {ty : TypeId} {pos : String} {af : Array Edge} {w0 : World} {F : Addr → Value → Prop} {L : List (Nat × Obj)}
theorem s_appendCopy {T : TypeId} {x y : Operand} {ats : Array TypeId} {pa : Option Addr} {pl pc : Nat} {ps : List PayS} (hT : paySliceB P T = true) (hat : ats = #[T, T]) (hx : ev f x = .slice none 0 0) (hy : ev f y = .slice pa pl pc) (hp : PaysIn F pa pl ps) (hb : pl * 48 ≤ 281474976710656)
   (k0 : pl = 0 → sC P ops K rest (upd f d (.slice none 0 0)) (Has w0 F L))
   (k1 : ∀ (b c : Nat) (cs : Array Value), 0 < pl → pl ≤ c → cs.size = c * 6 → (∀ (j : Nat) (p : PayS), ps[j]? = some p → ∀ (k : Nat) (v : Value), p.cells[k]? = some v → cs[j * 6 + k]? = some v) →
     sC P ops K rest (upd f d (.slice (some ⟨b, 0, none⟩) pl c)) (Has w0 F ((b, .cells cs (payElem P T)) :: L))) :
   sC P ops K (⟨some d, .call ⟨.builtin .append, #[x, y], ats⟩, ty, pos, af, none⟩ :: rest) f (Has w0 F L) := by
 intro w hw
 unfold sw
 rw [if_pos wanted_free]
 unfold opk
 subst hat
 have hrun : ∀ r, (Builtin.append_ #[T, T] ty #[.slice none 0 0, .slice pa pl pc]).run P w = r → (execOp (ev f) ⟨some d, .call ⟨.builtin .append, #[x, y], #[T, T]⟩, ty, pos, af, none⟩).run P w = r.andThen fun v w' => .ok (.value v) w' := by
   intro r hr
   simp [execOp, resolve, invoke, builtin, hx, hy, hr]
 by_cases h0 : pl = 0
 · have : (Builtin.append_ #[T, T] ty #[.slice none 0 0, .slice pa pl pc]).run P w = .ok (.slice none 0 0) w := by
     obtain ⟨i, z, hu, hs, hi, hby, hz, hzs⟩ := paySliceB_spec hT
     have hsz : ∀ w, (sizeOf (payElem P T)).run P w = .ok 6 w := fun w => sizeB_run hs
     subst h0
     cases pa <;> simp [Builtin.append_, underlying, hu, hsz, Builtin.lenOf, Builtin.firstCells, loadCells, loadCellsFrom]
   rw [hrun _ this]
   exact k0 h0 w hw
 · rcases hp.2 with h | ⟨b, o, rfl, hc⟩
   · exact absurd h h0
   · obtain ⟨c, cs, h1, h2, h3, h4⟩ := run_appendCopy (P := P) (w := w) (T := T) (ty := ty) (b := b) (o := o) (pl := pl) (pc := pc) hT (by omega) hb hp.1 (fun j p hj k v hv => hw.at _ _ (hc j p hj k v hv))
     rw [hrun _ h4]
     refine k1 _ c cs (by omega) h1 h2 (fun j p hj k v hv => h3 _ _ (flatC_get ps j p hj k v hv)) _ ?_
     exact hw.drew.alloc _
end
section
variable {P : Program} {ops : Array Oper} {K : (Nat → Value) → World → Prop} {rest : List Oper} {f : Nat → Value} {d : Nat} {ty : TypeId} {pos : String} {af : Array Edge} {w0 : World} {F : Addr → Value → Prop} {L : List (Nat × Obj)}
end
end Go.Proofs.YtmkboljfbmlebacGreat
namespace Go.Proofs.YtmkboljfbmlebacGreat
open Go.RowKit
set_option linter.unusedSimpArgs false
set_option linter.unusedVariables false
def sameB (h : H) (ps : List PayS) (k : H) (qs : List PayS) : Bool :=
 decide (accL h.has h.cred = accL k.has k.cred) && decide (matL h.sent = matL k.sent) && decide (matL h.lim = matL k.lim) && decide (h.next = k.next) && decide ((h.pl : Int) = k.pl) && decide (ps.map PayS.list = qs.map PayS.list)
theorem same_bad {F : Addr → Value → Prop} {h k : H} {ps qs : List PayS} {j : Nat} {p q : PayS} (hj : ps[j]? = some p) (hq : qs[j]? = some q) (hne : decide (p.list = q.list) = false) : decide (ps.map PayS.list = qs.map PayS.list) = false := by
 simp only [decide_eq_false_iff_not] at hne ⊢
 intro e
 apply hne
 have h1 : (ps.map PayS.list)[j]? = some p.list := by simp [hj]
 rw [e] at h1
 simp [hq] at h1
 exact h1.symm
theorem same_all {ps qs : List PayS} {m n k : Nat} (h1 : ps.length = m) (h2 : qs.length = n) (he : decide ((m : Int) = n) = true) (hk : decide ((k : Int) < m) = false) (hi : (ps.take k).map PayS.list = (qs.take k).map PayS.list) : decide (ps.map PayS.list = qs.map PayS.list) = true := by
 simp only [decide_eq_true_eq, decide_eq_false_iff_not] at *
 rw [List.take_of_length_le (by omega), List.take_of_length_le (by omega)] at hi
 exact hi
theorem same_step {ps qs : List PayS} {k : Nat} {p q : PayS} (hi : (ps.take k).map PayS.list = (qs.take k).map PayS.list) (h1 : ps.take (k + 1) = ps.take k ++ [p]) (h2 : qs.take (k + 1) = qs.take k ++ [q]) (he : decide (p.list = q.list) = true) :
   (ps.take (k + 1)).map PayS.list = (qs.take (k + 1)).map PayS.list := by
 simp only [decide_eq_true_eq] at he
 rw [h1, h2, List.map_append, List.map_append, hi]
 simp [he]
theorem same_of {h k : H} {ps : List PayS} (h1 : ∀ i : Int, 0 ≤ i ∧ i < 4 → h.has i = k.has i ∧ h.cred i = k.cred i) (h2 : ∀ i j : Int, 0 ≤ i ∧ i < 4 → 0 ≤ j ∧ j < 4 → h.sent i j = k.sent i j ∧ h.lim i j = k.lim i j) (h3 : h.next = k.next) (h4 : h.pl = k.pl) : sameB h ps k ps = true := by
 have e1 : accL h.has h.cred = accL k.has k.cred := by
   simp only [accL, (h1 0 (by omega)).1, (h1 0 (by omega)).2, (h1 1 (by omega)).1, (h1 1 (by omega)).2, (h1 2 (by omega)).1, (h1 2 (by omega)).2, (h1 3 (by omega)).1, (h1 3 (by omega)).2]
 have e2 : matL h.sent = matL k.sent := by
   simp only [matL, (h2 0 0 (by omega) (by omega)).1, (h2 0 1 (by omega) (by omega)).1, (h2 0 2 (by omega) (by omega)).1, (h2 0 3 (by omega) (by omega)).1, (h2 1 0 (by omega) (by omega)).1, (h2 1 1 (by omega) (by omega)).1, (h2 1 2 (by omega) (by omega)).1, (h2 1 3 (by omega) (by omega)).1,
     (h2 2 0 (by omega) (by omega)).1, (h2 2 1 (by omega) (by omega)).1, (h2 2 2 (by omega) (by omega)).1, (h2 2 3 (by omega) (by omega)).1, (h2 3 0 (by omega) (by omega)).1, (h2 3 1 (by omega) (by omega)).1, (h2 3 2 (by omega) (by omega)).1, (h2 3 3 (by omega) (by omega)).1]
 have e3 : matL h.lim = matL k.lim := by
   simp only [matL, (h2 0 0 (by omega) (by omega)).2, (h2 0 1 (by omega) (by omega)).2, (h2 0 2 (by omega) (by omega)).2, (h2 0 3 (by omega) (by omega)).2, (h2 1 0 (by omega) (by omega)).2, (h2 1 1 (by omega) (by omega)).2, (h2 1 2 (by omega) (by omega)).2, (h2 1 3 (by omega) (by omega)).2,
     (h2 2 0 (by omega) (by omega)).2, (h2 2 1 (by omega) (by omega)).2, (h2 2 2 (by omega) (by omega)).2, (h2 2 3 (by omega) (by omega)).2, (h2 3 0 (by omega) (by omega)).2, (h2 3 1 (by omega) (by omega)).2, (h2 3 2 (by omega) (by omega)).2, (h2 3 3 (by omega) (by omega)).2]
 simp only [sameB, e1, e2, e3, h3, h4, decide_true, Bool.and_self]
def msH (h : H) (a b n : Int) (k : Nat) : H := { h with sent := up2 h.sent a b (wr (h.sent a b + n)), has := fun x => if x < k then (if x = a then wr (h.has x - n) else if x = b then wr (h.has x + n) else h.has x) else h.has x }
theorem ms_start (h : H) (a b n : Int) : (msH h a b n 0).cells = ({ h with sent := up2 h.sent a b (wr (h.sent a b + n)) } : H).cells :=
 H.cells_eq (fun i hi _ => by simp only [msH, if_neg (show ¬ i < ((0 : Nat) : Int) by omega)]) (fun _ _ _ => rfl) (fun _ _ _ _ _ _ => rfl) (fun _ _ _ _ _ _ => rfl) ⟨rfl, rfl, rfl⟩ rfl
theorem ms_has (h : H) (a b n : Int) (k : Nat) : (msH h a b n k).has k = h.has k := by simp only [msH, if_neg (show ¬ (k : Int) < k by omega)]
theorem ms_step0 {h : H} {a b n : Int} {k : Nat} (ha : decide ((k : Int) = a) = false) (hb : decide ((k : Int) = b) = false) : (msH h a b n k).cells = (msH h a b n (k + 1)).cells := by
 simp only [decide_eq_false_iff_not] at ha hb
 refine H.cells_eq (fun i hi _ => ?_) (fun _ _ _ => rfl) (fun _ _ _ _ _ _ => rfl) (fun _ _ _ _ _ _ => rfl) ⟨rfl, rfl, rfl⟩ rfl
 simp only [msH]
 by_cases h1 : i < (k : Int)
 · rw [if_pos h1, if_pos (show i < ((k + 1 : Nat) : Int) by omega)]
 · by_cases h2 : i = k
   · subst h2; rw [if_neg h1, if_pos (by omega), if_neg ha, if_neg hb]
   · rw [if_neg h1, if_neg (by omega)]
theorem ms_stepA {h : H} {a b n : Int} {k : Nat} (ha : decide ((k : Int) = a) = true) : ({ msH h a b n k with has := up1 (msH h a b n k).has k (wr ((msH h a b n k).has k - n)) } : H).cells = (msH h a b n (k + 1)).cells := by
 simp only [decide_eq_true_eq] at ha
 refine H.cells_eq (fun i hi _ => ?_) (fun _ _ _ => rfl) (fun _ _ _ _ _ _ => rfl) (fun _ _ _ _ _ _ => rfl) ⟨rfl, rfl, rfl⟩ rfl
 rw [ms_has]
 simp only [msH, up1]
 by_cases h2 : i = k
 · subst h2; rw [if_pos rfl, if_pos (by omega), if_pos ha]
 · rw [if_neg h2]
   by_cases h1 : i < (k : Int)
   · rw [if_pos h1, if_pos (show i < ((k + 1 : Nat) : Int) by omega)]
   · rw [if_neg h1, if_neg (by omega)]
theorem ms_stepB {h : H} {a b n : Int} {k : Nat} (ha : decide ((k : Int) = a) = false) (hb : decide ((k : Int) = b) = true) : ({ msH h a b n k with has := up1 (msH h a b n k).has k (wr ((msH h a b n k).has k + n)) } : H).cells = (msH h a b n (k + 1)).cells := by
 simp only [decide_eq_true_eq, decide_eq_false_iff_not] at ha hb
 refine H.cells_eq (fun i hi _ => ?_) (fun _ _ _ => rfl) (fun _ _ _ _ _ _ => rfl) (fun _ _ _ _ _ _ => rfl) ⟨rfl, rfl, rfl⟩ rfl
 rw [ms_has]
 simp only [msH, up1]
 by_cases h2 : i = k
 · subst h2; rw [if_pos rfl, if_pos (by omega), if_neg ha, if_pos hb]
 · rw [if_neg h2]
   by_cases h1 : i < (k : Int)
   · rw [if_pos h1, if_pos (show i < ((k + 1 : Nat) : Int) by omega)]
   · rw [if_neg h1, if_neg (by omega)]
theorem ms_end {h : H} {a b n : Int} {k : Nat} (ht : goodTransferB a b n = true) (hk : k ≤ 4) (h4 : decide ((k : Int) < 4) = false) : (msH h a b n k).cells = (moveM h a b n).cells := by
 simp only [decide_eq_false_iff_not] at h4
 obtain ⟨ha, hb, hne, _, _⟩ := transfer_spec ht
 unfold moveM
 rw [if_pos ht]
 refine H.cells_eq (fun i hi hi' => ?_) (fun _ _ _ => rfl) (fun _ _ _ _ _ _ => rfl) (fun _ _ _ _ _ _ => rfl) ⟨rfl, rfl, rfl⟩ rfl
 simp only [msH, up1, if_pos (show i < (k : Int) by omega)]
 by_cases h1 : i = a
 · subst h1; rw [if_pos rfl, if_neg hne, if_pos rfl]
 · by_cases h2 : i = b
   · subst h2; rw [if_neg h1, if_pos rfl, if_pos rfl, if_neg (fun e => hne e.symm)]
   · rw [if_neg h1, if_neg h2, if_neg h2, if_neg h1]
def hB0 (h : H) : Bool := decide ((h.pl : Int) < 25) && withinB h.next 0 1048576
def hRow (h : H) (i : Int) (ok : Bool) : Nat → Bool
 | 0 => ok && withinB (h.has i) (-1099511627776) 1099511627776 && withinB (h.cred i) 0 1000000 && decide (h.sent i i = 0)
 | m + 1 => hRow h i ok m && withinB (h.sent i m) 0 1099511627776 && withinB (h.lim i m) (-1) 1000000
def hAll (h : H) : Nat → Bool
 | 0 => hB0 h
 | k + 1 => hRow h k (hAll h k) 4
def pin (q : PayS) (ok : Bool) (l : List PayS) : Bool := l.foldl (fun ok r => ok && !decide (q.seq = r.seq)) ok
def hPays (nx : Int) (ok : Bool) (seen : List PayS) : List PayS → Bool
 | [] => ok
 | p :: r => hPays nx (pin p (ok && isPayB p && decide (p.seq < nx)) seen) (seen ++ [p]) r
def hPto (h : H) (ps : List PayS) (k : Nat) : Bool := (List.range k).foldl (fun ok i => match ps[i]? with
 | some p => pin p (ok && isPayB p && decide (p.seq < h.next)) (ps.take i)
 | none => ok) (hAll h 4)
def isHouseB (h : H) (ps : List PayS) : Bool := hPto h ps ps.length
theorem hPto_succ {h : H} {ps : List PayS} {k : Nat} {p : PayS} (hp : ps[k]? = some p) : hPto h ps (k + 1) = pin p (hPto h ps k && isPayB p && decide (p.seq < h.next)) (ps.take k) := by
 unfold hPto
 rw [List.range_succ, List.foldl_append]
 simp [hp]
theorem pin_snoc (q : PayS) (ok : Bool) (l : List PayS) (r : PayS) : pin q ok (l ++ [r]) = (pin q ok l && !decide (q.seq = r.seq)) := by simp [pin]
theorem pin_eq (q : PayS) (ok : Bool) (l : List PayS) : pin q ok l = (ok && !decide (q.seq ∈ l.map PayS.seq)) := by
 induction l generalizing ok with
 | nil => simp [pin]
 | cons r l ih =>
   have : pin q ok (r :: l) = pin q (ok && !decide (q.seq = r.seq)) l := rfl
   rw [this, ih]
   by_cases h : q.seq = r.seq
   · simp [h]
   · simp [h]
theorem hRow_eq (h : H) (i : Int) (ok : Bool) : hRow h i ok 4 = (ok && (withinB (h.has i) (-1099511627776) 1099511627776 && withinB (h.cred i) 0 1000000) && (decide (h.sent i i = 0) && a4 fun k => withinB (h.sent i k) 0 1099511627776) && (a4 fun k => withinB (h.lim i k) (-1) 1000000)) := by
 simp only [hRow, a4]
 rw [Bool.eq_iff_iff]
 simp only [Bool.and_eq_true]
 constructor
 · rintro ⟨⟨⟨⟨⟨⟨⟨⟨⟨⟨⟨h1, h2⟩, h3⟩, h4⟩, a0⟩, b0⟩, a1⟩, b1⟩, a2⟩, b2⟩, a3⟩, b3⟩
   exact ⟨⟨⟨h1, h2, h3⟩, h4, ⟨⟨a0, a1⟩, a2⟩, a3⟩, ⟨⟨b0, b1⟩, b2⟩, b3⟩
 · rintro ⟨⟨⟨h1, h2, h3⟩, h4, ⟨⟨a0, a1⟩, a2⟩, a3⟩, ⟨⟨b0, b1⟩, b2⟩, b3⟩
   exact ⟨⟨⟨⟨⟨⟨⟨⟨⟨⟨⟨h1, h2⟩, h3⟩, h4⟩, a0⟩, b0⟩, a1⟩, b1⟩, a2⟩, b2⟩, a3⟩, b3⟩
theorem hAll_eq (h : H) : hAll h 4 = (hB0 h && accGoodB h.has h.cred && sentGoodB h.sent && limGoodB h.lim) := by
 simp only [hAll, hRow_eq, accGoodB, sentGoodB, limGoodB]
 rw [Bool.eq_iff_iff]
 unfold a4
 simp only [Bool.and_eq_true]
 constructor
 · rintro ⟨⟨⟨⟨⟨⟨⟨⟨⟨⟨⟨⟨h0, a0⟩, b0⟩, c0⟩, a1⟩, b1⟩, c1⟩, a2⟩, b2⟩, c2⟩, a3⟩, b3⟩, c3⟩
   exact ⟨⟨⟨h0, ⟨⟨a0, a1⟩, a2⟩, a3⟩, ⟨⟨b0, b1⟩, b2⟩, b3⟩, ⟨⟨c0, c1⟩, c2⟩, c3⟩
 · rintro ⟨⟨⟨h0, ⟨⟨a0, a1⟩, a2⟩, a3⟩, ⟨⟨b0, b1⟩, b2⟩, b3⟩, ⟨⟨c0, c1⟩, c2⟩, c3⟩
   exact ⟨⟨⟨⟨⟨⟨⟨⟨⟨⟨⟨⟨h0, a0⟩, b0⟩, c0⟩, a1⟩, b1⟩, c1⟩, a2⟩, b2⟩, c2⟩, a3⟩, b3⟩, c3⟩
theorem goB_of (nx : Int) : ∀ (ps seen : List PayS) (ok : Bool), hPays nx ok seen ps = (ok && goB nx (seen.map PayS.seq) ps)
 | [], seen, ok => by simp [hPays, goB]
 | p :: r, seen, ok => by
   unfold hPays goB
   rw [goB_of nx r (seen ++ [p]), pin_eq, isPay_eq, List.map_append]
   simp only [List.map_cons, List.map_nil]
   have e : decide (nx ≤ p.seq) = !decide (p.seq < nx) := by
     rw [Bool.eq_iff_iff]; simp
   rw [e]
   generalize goB nx (List.map PayS.seq seen ++ [p.seq]) r = x
   cases ok <;> cases goodPayB p <;> cases decide (p.seq < nx) <;> cases decide (p.seq ∈ List.map PayS.seq seen) <;> rfl
theorem hPto_eq (h : H) (ps : List PayS) : ∀ k, k ≤ ps.length → hPays h.next (hPto h ps k) (ps.take k) (ps.drop k) = hPays h.next (hAll h 4) [] ps := by
 intro k
 induction k with
 | zero => intro _; rfl
 | succ k ih =>
   intro hk
   have hlt : k < ps.length := by omega
   have e1 : ps[k]? = some ps[k] := by simp [hlt]
   rw [← ih (by omega), List.drop_eq_getElem_cons hlt, hPto_succ e1, List.take_succ_eq_append_getElem hlt]
   rfl
theorem isHouse_eq {h : H} {ps : List PayS} (hl : ps.length = h.pl) : isHouseB h ps = goodB h ps := by
 have e1 := hPto_eq h ps ps.length (Nat.le_refl _)
 rw [List.take_of_length_le (Nat.le_refl _), List.drop_of_length_le (Nat.le_refl _)] at e1
 have e2 : isHouseB h ps = hPays h.next (hAll h 4) [] ps := by rw [← e1]; rfl
 rw [e2, goB_of, hAll_eq]
 unfold goodB goodPaysB hB0
 have e3 : decide (24 < (ps.length : Int)) = !decide ((h.pl : Int) < 25) := by
   rw [hl, Bool.eq_iff_iff]; simp; omega
 rw [e3]
 simp only [List.map_nil]
 cases decide ((h.pl : Int) < 25) <;> cases withinB h.next 0 1048576 <;> cases goB h.next [] ps <;> cases accGoodB h.has h.cred <;> cases sentGoodB h.sent <;> cases limGoodB h.lim <;> rfl
theorem move_pl (h : H) (a b n : Int) : (moveM h a b n).pl = h.pl := by unfold moveM; split <;> rfl
end Go.Proofs.YtmkboljfbmlebacGreat
namespace Go.Proofs.YtmkboljfbmlebacGreat
open Go.RowKit
set_option linter.unusedSimpArgs false
set_option linter.unusedVariables false
set_option maxRecDepth 100000
attribute [local irreducible] cC sC nC rC qw
set_option maxHeartbeats 1000000 in
theorem gr_NewHouse  (w : World) : Gives Tryz.prog 17 [] w (.agg newM.cells) := by
 refine gives_of Tryz.func17 rfl Tryz.ntmps17 (by simp) (r_seq (by kernel_rfl) (s_alloc (z := .agg zeroH.cells) (by kernel_rfl) (fun b0 => ?_)))
 refine s_nil (r_seq (by kernel_rfl) (s_alloc (z := .agg zeroH.cells) (by kernel_rfl) (fun b1 => ?_)))
 refine s_nil (c_seq (r_seq (by kernel_rfl) (s_val (v_mvI rfl) (s_nil (c_block (c_rounds 17 (r_succ (r_seq (by kernel_rfl) (s_val (v_lsI rfl rfl) (s_nil (c_seq (c_condTh rfl rfl rfl (c_skip (n_then (c_seq (c_block (r_seq (by kernel_rfl) (s_val (v_mvI rfl) (s_val (v_asI rfl) ?_)))))))))))))))))))
 refine s_nil (r_list (by kernel_rfl) (s_val (v_mvI rfl) (s_val (v_quo (c := 0) rfl rfl (by decide) (by decide)) (s_val (v_mvI rfl) (s_val (v_rem (c := 0) rfl rfl (by decide) (by decide)) (s_val (v_fd 24 (by kernel_rfl) rfl) (s_val (v_ixA 4 (by kernel_rfl) rfl rfl (by decide)) (s_val (v_ixA 1 (by kernel_rfl) rfl rfl (by decide)) (s_store1 (v := .int .i64 _) (by kernel_rfl) rfl rfl .here (H.set_lim _ (by decide) (by decide)) rfl (s_end (n_bnormal (n_then (r_list (by kernel_rfl) (s_val (v_addL (c := 1) rfl rfl (by decide) (by decide)) (s_val (v_mvI rfl) (s_end (n_thenR (r_succ (r_seq (by kernel_rfl) ?_)))))))))))))))))))
 refine s_val (v_lsI rfl rfl) (s_nil (c_seq (c_condTh rfl rfl rfl (c_skip (n_then (c_seq (c_block (r_seq (by kernel_rfl) (s_val (v_mvI rfl) (s_val (v_asI rfl) (s_nil (r_list (by kernel_rfl) (s_val (v_mvI rfl) (s_val (v_quo (c := 0) rfl rfl (by decide) (by decide)) (s_val (v_mvI rfl) (s_val (v_rem (c := 1) rfl rfl (by decide) (by decide)) (s_val (v_fd 24 (by kernel_rfl) rfl) (s_val (v_ixA 4 (by kernel_rfl) rfl rfl (by decide)) (s_val (v_ixA 1 (by kernel_rfl) rfl rfl (by decide)) ?_)))))))))))))))))))
 refine s_store1 (v := .int .i64 _) (by kernel_rfl) rfl rfl .here (H.set_lim _ (by decide) (by decide)) rfl (s_end (n_bnormal (n_then (r_list (by kernel_rfl) (s_val (v_addL (c := 2) rfl rfl (by decide) (by decide)) (s_val (v_mvI rfl) (s_end (n_thenR (r_succ (r_seq (by kernel_rfl) (s_val (v_lsI rfl rfl) (s_nil (c_seq (c_condTh rfl rfl rfl (c_skip (n_then (c_seq (c_block (r_seq (by kernel_rfl) ?_)))))))))))))))))))
 refine s_val (v_mvI rfl) (s_val (v_asI rfl) (s_nil (r_list (by kernel_rfl) (s_val (v_mvI rfl) (s_val (v_quo (c := 0) rfl rfl (by decide) (by decide)) (s_val (v_mvI rfl) (s_val (v_rem (c := 2) rfl rfl (by decide) (by decide)) (s_val (v_fd 24 (by kernel_rfl) rfl) (s_val (v_ixA 4 (by kernel_rfl) rfl rfl (by decide)) (s_val (v_ixA 1 (by kernel_rfl) rfl rfl (by decide)) (s_store1 (v := .int .i64 _) (by kernel_rfl) rfl rfl .here (H.set_lim _ (by decide) (by decide)) rfl (s_end (n_bnormal (n_then (r_list (by kernel_rfl) (s_val (v_addL (c := 3) rfl rfl (by decide) (by decide)) (s_val (v_mvI rfl) (s_end (n_thenR ?_)))))))))))))))))))
 refine r_succ (r_seq (by kernel_rfl) (s_val (v_lsI rfl rfl) (s_nil (c_seq (c_condTh rfl rfl rfl (c_skip (n_then (c_seq (c_block (r_seq (by kernel_rfl) (s_val (v_mvI rfl) (s_val (v_asI rfl) (s_nil (r_list (by kernel_rfl) (s_val (v_mvI rfl) (s_val (v_quo (c := 0) rfl rfl (by decide) (by decide)) (s_val (v_mvI rfl) (s_val (v_rem (c := 3) rfl rfl (by decide) (by decide)) (s_val (v_fd 24 (by kernel_rfl) rfl) ?_)))))))))))))))))))
 refine s_val (v_ixA 4 (by kernel_rfl) rfl rfl (by decide)) (s_val (v_ixA 1 (by kernel_rfl) rfl rfl (by decide)) (s_store1 (v := .int .i64 _) (by kernel_rfl) rfl rfl .here (H.set_lim _ (by decide) (by decide)) rfl (s_end (n_bnormal (n_then (r_list (by kernel_rfl) (s_val (v_addL (c := 4) rfl rfl (by decide) (by decide)) (s_val (v_mvI rfl) (s_end (n_thenR (r_succ (r_seq (by kernel_rfl) (s_val (v_lsI rfl rfl) (s_nil (c_seq (c_condTh rfl rfl rfl (c_skip (n_then (c_seq ?_)))))))))))))))))))
 refine c_block (r_seq (by kernel_rfl) (s_val (v_mvI rfl) (s_val (v_asI rfl) (s_nil (r_list (by kernel_rfl) (s_val (v_mvI rfl) (s_val (v_quo (c := 1) rfl rfl (by decide) (by decide)) (s_val (v_mvI rfl) (s_val (v_rem (c := 0) rfl rfl (by decide) (by decide)) (s_val (v_fd 24 (by kernel_rfl) rfl) (s_val (v_ixA 4 (by kernel_rfl) rfl rfl (by decide)) (s_val (v_ixA 1 (by kernel_rfl) rfl rfl (by decide)) (s_store1 (v := .int .i64 _) (by kernel_rfl) rfl rfl .here (H.set_lim _ (by decide) (by decide)) rfl (s_end (n_bnormal (n_then (r_list (by kernel_rfl) (s_val (v_addL (c := 5) rfl rfl (by decide) (by decide)) (s_val (v_mvI rfl) ?_)))))))))))))))))))
 refine s_end (n_thenR (r_succ (r_seq (by kernel_rfl) (s_val (v_lsI rfl rfl) (s_nil (c_seq (c_condTh rfl rfl rfl (c_skip (n_then (c_seq (c_block (r_seq (by kernel_rfl) (s_val (v_mvI rfl) (s_val (v_asI rfl) (s_nil (r_list (by kernel_rfl) (s_val (v_mvI rfl) (s_val (v_quo (c := 1) rfl rfl (by decide) (by decide)) (s_val (v_mvI rfl) ?_)))))))))))))))))))
 refine s_val (v_rem (c := 1) rfl rfl (by decide) (by decide)) (s_val (v_fd 24 (by kernel_rfl) rfl) (s_val (v_ixA 4 (by kernel_rfl) rfl rfl (by decide)) (s_val (v_ixA 1 (by kernel_rfl) rfl rfl (by decide)) (s_store1 (v := .int .i64 _) (by kernel_rfl) rfl rfl .here (H.set_lim _ (by decide) (by decide)) rfl (s_end (n_bnormal (n_then (r_list (by kernel_rfl) (s_val (v_addL (c := 6) rfl rfl (by decide) (by decide)) (s_val (v_mvI rfl) (s_end (n_thenR (r_succ (r_seq (by kernel_rfl) (s_val (v_lsI rfl rfl) (s_nil (c_seq (c_condTh rfl rfl rfl (c_skip ?_)))))))))))))))))))
 refine n_then (c_seq (c_block (r_seq (by kernel_rfl) (s_val (v_mvI rfl) (s_val (v_asI rfl) (s_nil (r_list (by kernel_rfl) (s_val (v_mvI rfl) (s_val (v_quo (c := 1) rfl rfl (by decide) (by decide)) (s_val (v_mvI rfl) (s_val (v_rem (c := 2) rfl rfl (by decide) (by decide)) (s_val (v_fd 24 (by kernel_rfl) rfl) (s_val (v_ixA 4 (by kernel_rfl) rfl rfl (by decide)) (s_val (v_ixA 1 (by kernel_rfl) rfl rfl (by decide)) (s_store1 (v := .int .i64 _) (by kernel_rfl) rfl rfl .here (H.set_lim _ (by decide) (by decide)) rfl (s_end (n_bnormal (n_then (r_list (by kernel_rfl) ?_)))))))))))))))))))
 refine s_val (v_addL (c := 7) rfl rfl (by decide) (by decide)) (s_val (v_mvI rfl) (s_end (n_thenR (r_succ (r_seq (by kernel_rfl) (s_val (v_lsI rfl rfl) (s_nil (c_seq (c_condTh rfl rfl rfl (c_skip (n_then (c_seq (c_block (r_seq (by kernel_rfl) (s_val (v_mvI rfl) (s_val (v_asI rfl) (s_nil (r_list (by kernel_rfl) (s_val (v_mvI rfl) ?_)))))))))))))))))))
 refine s_val (v_quo (c := 1) rfl rfl (by decide) (by decide)) (s_val (v_mvI rfl) (s_val (v_rem (c := 3) rfl rfl (by decide) (by decide)) (s_val (v_fd 24 (by kernel_rfl) rfl) (s_val (v_ixA 4 (by kernel_rfl) rfl rfl (by decide)) (s_val (v_ixA 1 (by kernel_rfl) rfl rfl (by decide)) (s_store1 (v := .int .i64 _) (by kernel_rfl) rfl rfl .here (H.set_lim _ (by decide) (by decide)) rfl (s_end (n_bnormal (n_then (r_list (by kernel_rfl) (s_val (v_addL (c := 8) rfl rfl (by decide) (by decide)) (s_val (v_mvI rfl) (s_end (n_thenR (r_succ (r_seq (by kernel_rfl) (s_val (v_lsI rfl rfl) (s_nil (c_seq ?_)))))))))))))))))))
 refine c_condTh rfl rfl rfl (c_skip (n_then (c_seq (c_block (r_seq (by kernel_rfl) (s_val (v_mvI rfl) (s_val (v_asI rfl) (s_nil (r_list (by kernel_rfl) (s_val (v_mvI rfl) (s_val (v_quo (c := 2) rfl rfl (by decide) (by decide)) (s_val (v_mvI rfl) (s_val (v_rem (c := 0) rfl rfl (by decide) (by decide)) (s_val (v_fd 24 (by kernel_rfl) rfl) (s_val (v_ixA 4 (by kernel_rfl) rfl rfl (by decide)) (s_val (v_ixA 1 (by kernel_rfl) rfl rfl (by decide)) (s_store1 (v := .int .i64 _) (by kernel_rfl) rfl rfl .here (H.set_lim _ (by decide) (by decide)) rfl (s_end (n_bnormal ?_)))))))))))))))))))
 refine n_then (r_list (by kernel_rfl) (s_val (v_addL (c := 9) rfl rfl (by decide) (by decide)) (s_val (v_mvI rfl) (s_end (n_thenR (r_succ (r_seq (by kernel_rfl) (s_val (v_lsI rfl rfl) (s_nil (c_seq (c_condTh rfl rfl rfl (c_skip (n_then (c_seq (c_block (r_seq (by kernel_rfl) (s_val (v_mvI rfl) (s_val (v_asI rfl) (s_nil ?_)))))))))))))))))))
 refine r_list (by kernel_rfl) (s_val (v_mvI rfl) (s_val (v_quo (c := 2) rfl rfl (by decide) (by decide)) (s_val (v_mvI rfl) (s_val (v_rem (c := 1) rfl rfl (by decide) (by decide)) (s_val (v_fd 24 (by kernel_rfl) rfl) (s_val (v_ixA 4 (by kernel_rfl) rfl rfl (by decide)) (s_val (v_ixA 1 (by kernel_rfl) rfl rfl (by decide)) (s_store1 (v := .int .i64 _) (by kernel_rfl) rfl rfl .here (H.set_lim _ (by decide) (by decide)) rfl (s_end (n_bnormal (n_then (r_list (by kernel_rfl) (s_val (v_addL (c := 10) rfl rfl (by decide) (by decide)) (s_val (v_mvI rfl) (s_end (n_thenR (r_succ (r_seq (by kernel_rfl) (s_val (v_lsI rfl rfl) ?_)))))))))))))))))))
 refine s_nil (c_seq (c_condTh rfl rfl rfl (c_skip (n_then (c_seq (c_block (r_seq (by kernel_rfl) (s_val (v_mvI rfl) (s_val (v_asI rfl) (s_nil (r_list (by kernel_rfl) (s_val (v_mvI rfl) (s_val (v_quo (c := 2) rfl rfl (by decide) (by decide)) (s_val (v_mvI rfl) (s_val (v_rem (c := 2) rfl rfl (by decide) (by decide)) (s_val (v_fd 24 (by kernel_rfl) rfl) (s_val (v_ixA 4 (by kernel_rfl) rfl rfl (by decide)) (s_val (v_ixA 1 (by kernel_rfl) rfl rfl (by decide)) (s_store1 (v := .int .i64 _) (by kernel_rfl) rfl rfl .here (H.set_lim _ (by decide) (by decide)) rfl ?_)))))))))))))))))))
 refine s_end (n_bnormal (n_then (r_list (by kernel_rfl) (s_val (v_addL (c := 11) rfl rfl (by decide) (by decide)) (s_val (v_mvI rfl) (s_end (n_thenR (r_succ (r_seq (by kernel_rfl) (s_val (v_lsI rfl rfl) (s_nil (c_seq (c_condTh rfl rfl rfl (c_skip (n_then (c_seq (c_block (r_seq (by kernel_rfl) (s_val (v_mvI rfl) ?_)))))))))))))))))))
 refine s_val (v_asI rfl) (s_nil (r_list (by kernel_rfl) (s_val (v_mvI rfl) (s_val (v_quo (c := 2) rfl rfl (by decide) (by decide)) (s_val (v_mvI rfl) (s_val (v_rem (c := 3) rfl rfl (by decide) (by decide)) (s_val (v_fd 24 (by kernel_rfl) rfl) (s_val (v_ixA 4 (by kernel_rfl) rfl rfl (by decide)) (s_val (v_ixA 1 (by kernel_rfl) rfl rfl (by decide)) (s_store1 (v := .int .i64 _) (by kernel_rfl) rfl rfl .here (H.set_lim _ (by decide) (by decide)) rfl (s_end (n_bnormal (n_then (r_list (by kernel_rfl) (s_val (v_addL (c := 12) rfl rfl (by decide) (by decide)) (s_val (v_mvI rfl) (s_end (n_thenR (r_succ ?_)))))))))))))))))))
 refine r_seq (by kernel_rfl) (s_val (v_lsI rfl rfl) (s_nil (c_seq (c_condTh rfl rfl rfl (c_skip (n_then (c_seq (c_block (r_seq (by kernel_rfl) (s_val (v_mvI rfl) (s_val (v_asI rfl) (s_nil (r_list (by kernel_rfl) (s_val (v_mvI rfl) (s_val (v_quo (c := 3) rfl rfl (by decide) (by decide)) (s_val (v_mvI rfl) (s_val (v_rem (c := 0) rfl rfl (by decide) (by decide)) (s_val (v_fd 24 (by kernel_rfl) rfl) (s_val (v_ixA 4 (by kernel_rfl) rfl rfl (by decide)) ?_)))))))))))))))))))
 refine s_val (v_ixA 1 (by kernel_rfl) rfl rfl (by decide)) (s_store1 (v := .int .i64 _) (by kernel_rfl) rfl rfl .here (H.set_lim _ (by decide) (by decide)) rfl (s_end (n_bnormal (n_then (r_list (by kernel_rfl) (s_val (v_addL (c := 13) rfl rfl (by decide) (by decide)) (s_val (v_mvI rfl) (s_end (n_thenR (r_succ (r_seq (by kernel_rfl) (s_val (v_lsI rfl rfl) (s_nil (c_seq (c_condTh rfl rfl rfl (c_skip (n_then (c_seq (c_block ?_)))))))))))))))))))
 refine r_seq (by kernel_rfl) (s_val (v_mvI rfl) (s_val (v_asI rfl) (s_nil (r_list (by kernel_rfl) (s_val (v_mvI rfl) (s_val (v_quo (c := 3) rfl rfl (by decide) (by decide)) (s_val (v_mvI rfl) (s_val (v_rem (c := 1) rfl rfl (by decide) (by decide)) (s_val (v_fd 24 (by kernel_rfl) rfl) (s_val (v_ixA 4 (by kernel_rfl) rfl rfl (by decide)) (s_val (v_ixA 1 (by kernel_rfl) rfl rfl (by decide)) (s_store1 (v := .int .i64 _) (by kernel_rfl) rfl rfl .here (H.set_lim _ (by decide) (by decide)) rfl (s_end (n_bnormal (n_then (r_list (by kernel_rfl) (s_val (v_addL (c := 14) rfl rfl (by decide) (by decide)) (s_val (v_mvI rfl) (s_end ?_)))))))))))))))))))
 refine n_thenR (r_succ (r_seq (by kernel_rfl) (s_val (v_lsI rfl rfl) (s_nil (c_seq (c_condTh rfl rfl rfl (c_skip (n_then (c_seq (c_block (r_seq (by kernel_rfl) (s_val (v_mvI rfl) (s_val (v_asI rfl) (s_nil (r_list (by kernel_rfl) (s_val (v_mvI rfl) (s_val (v_quo (c := 3) rfl rfl (by decide) (by decide)) (s_val (v_mvI rfl) (s_val (v_rem (c := 2) rfl rfl (by decide) (by decide)) ?_)))))))))))))))))))
 refine s_val (v_fd 24 (by kernel_rfl) rfl) (s_val (v_ixA 4 (by kernel_rfl) rfl rfl (by decide)) (s_val (v_ixA 1 (by kernel_rfl) rfl rfl (by decide)) (s_store1 (v := .int .i64 _) (by kernel_rfl) rfl rfl .here (H.set_lim _ (by decide) (by decide)) rfl (s_end (n_bnormal (n_then (r_list (by kernel_rfl) (s_val (v_addL (c := 15) rfl rfl (by decide) (by decide)) (s_val (v_mvI rfl) (s_end (n_thenR (r_succ (r_seq (by kernel_rfl) (s_val (v_lsI rfl rfl) (s_nil (c_seq (c_condTh rfl rfl rfl (c_skip (n_then ?_)))))))))))))))))))
 refine c_seq (c_block (r_seq (by kernel_rfl) (s_val (v_mvI rfl) (s_val (v_asI rfl) (s_nil (r_list (by kernel_rfl) (s_val (v_mvI rfl) (s_val (v_quo (c := 3) rfl rfl (by decide) (by decide)) (s_val (v_mvI rfl) (s_val (v_rem (c := 3) rfl rfl (by decide) (by decide)) (s_val (v_fd 24 (by kernel_rfl) rfl) (s_val (v_ixA 4 (by kernel_rfl) rfl rfl (by decide)) (s_val (v_ixA 1 (by kernel_rfl) rfl rfl (by decide)) (s_store1 (v := .int .i64 _) (by kernel_rfl) rfl rfl .here (H.set_lim _ (by decide) (by decide)) rfl (s_end (n_bnormal (n_then (r_list (by kernel_rfl) (s_val (v_addL (c := 16) rfl rfl (by decide) (by decide)) ?_)))))))))))))))))))
 refine s_val (v_mvI rfl) (s_end (n_thenR (r_succ (r_seq (by kernel_rfl) (s_val (v_lsI rfl rfl) (s_nil (c_seq (c_condFh rfl rfl rfl (c_exit (n_exit (n_exit (n_bhere (n_then (r_seq (by kernel_rfl) (s_val (v_loadA (m := 42) (by kernel_rfl) rfl .here (H.size _)) (s_storeA (m := 42) (by kernel_rfl) rfl rfl (.there .here) (H.size _) (H.size _) (H.all1 _) (s_nil (c_ret (n_doneC (m := 42) rfl (by decide) rfl (by kernel_rfl) (.there .here) (H.size _) (congrArg Value.agg ?_))))))))))))))))))))
 refine H.cells_eq (fun _ _ _ => rfl) (fun _ _ _ => rfl) (fun _ _ _ _ _ _ => rfl) (fun i j hi hi' hj hj' => ?_) ⟨rfl, rfl, rfl⟩ rfl
 have e1 : i = 0 ∨ i = 1 ∨ i = 2 ∨ i = 3 := by omega
 have e2 : j = 0 ∨ j = 1 ∨ j = 2 ∨ j = 3 := by omega
 clear hi hi' hj hj'
 rcases e1 with rfl | rfl | rfl | rfl <;> rcases e2 with rfl | rfl | rfl | rfl <;> rfl
theorem gr_MoveSum (h : H) (a b n : Int) (w : World) : Gives Tryz.prog 72 [.agg h.cells, I a, I b, I n] w (.agg (moveM h a b n).cells) := by
 refine gives_of Tryz.func72 rfl Tryz.ntmps72 (by simp) (r_seq (by kernel_rfl) (s_box (v := .agg _) rfl (fun b4 => ?_)))
 refine s_alloc (z := .agg zeroH.cells) (by kernel_rfl) (fun b8 => ?_)
 refine s_nil (c_seq (r_seq (by kernel_rfl) (s_val (v_mvI rfl) (s_val (v_mvI rfl) (s_val (v_mvI rfl) (s_call (by kernel_rfl) (fun w hw => gr_sends _ _ _ w) (s_nil (c_condR rfl rfl (fun h13 => ?_) (fun h13 => ?_)))))))))
 · refine c_skip (n_then (r_seq (by kernel_rfl) (s_val (v_loadA (m := 42) (by kernel_rfl) rfl (.there .here) (H.size _)) (s_storeA (m := 42) (by kernel_rfl) rfl rfl .here (H.size _) (H.size _) (H.all1 _) (s_nil (c_ret (n_doneC (m := 42) rfl (by decide) rfl (by kernel_rfl) .here (H.size _) (congrArg Value.agg ?_))))))))
   rw [move_no h13]
   rfl
 obtain ⟨ha, hb, hne, _⟩ := transfer_spec h13
 refine t_seq (k := 11) (by kernel_rfl) (by kernel_rfl) (fun w hw => hw.drew) (by kernel_rfl) (q_val (v_mvI rfl) (q_val (v_mvI rfl) (q_val (v_fd 8 (by kernel_rfl) rfl) (q_val (v_ixA 4 (by kernel_rfl) rfl rfl (by assumption)) (q_val (v_ixA 1 (by kernel_rfl) rfl rfl (by assumption)) (q_val (v_ldI (by kernel_rfl) rfl (.there .here) (H.at_sent _ (by assumption) (by assumption))) (q_val (v_mvI rfl) (q_val (v_addw rfl rfl) (q_val (v_fd 8 (by kernel_rfl) rfl) (q_val (v_ixA 4 (by kernel_rfl) rfl rfl (by assumption)) (q_val (v_ixA 1 (by kernel_rfl) rfl rfl (by assumption)) (q_tail (s_store1 (v := .int .i64 _) (by kernel_rfl) rfl rfl (.there .here) (H.set_sent _ (by assumption) (by assumption)) rfl (s_nil (r_seq (by kernel_rfl) (s_val (v_mvI rfl) (s_nil (c_block (c_loop (σ := Nat) (fun (k : Nat) f => ∃ g, (k ≤ 4) ∧ f = (upd (upd (upd (upd (upd (upd g 1 (I a)) 2 (I b)) 3 (I n)) 4 (.pointer (some ⟨b4, 0, none⟩))) 8 (.pointer (some ⟨b8, 0, none⟩))) 25 (I k))) (fun (k : Nat) => Has w (At w) [(b8, .cells zeroH.cells 43), (b4, .cells (msH h a b n k).cells 43)]) (fun (k : Nat) => 4 - k) 0 ⟨_, Nat.zero_le _, live6 rfl rfl rfl rfl rfl rfl⟩ (fun w hw => by rw [ms_start]; exact hw) ?_)))))))))))))))))))
 rintro k _ ⟨g, hkl, rfl⟩
 refine r_seq (by kernel_rfl) (s_val (v_lsI rfl rfl) (s_nil (c_seq (c_condR rfl rfl (fun h26 => ?_) (fun h26 => ?_)))))
 · refine c_exit (n_exit (n_exit (n_bhere (n_then (r_seq (by kernel_rfl) (s_val (v_loadA (m := 42) (by kernel_rfl) rfl (.there .here) (H.size _)) (s_storeA (m := 42) (by kernel_rfl) rfl rfl .here (H.size _) (H.size _) (H.all1 _) (s_nil (c_ret (n_doneC (m := 42) rfl (by decide) rfl (by kernel_rfl) .here (H.size _) (congrArg Value.agg ?_)))))))))))
   exact ms_end h13 hkl h26
 have hk0 := of_decide_eq_true h26
 have hi : 0 ≤ (k : Int) ∧ (k : Int) < 4 := ⟨by omega, by omega⟩
 refine c_skip (n_then (c_seq (c_block (r_seq (by kernel_rfl) (s_val (v_mvI rfl) (s_val (v_asI rfl) (s_nil (c_seq (r_seq (by kernel_rfl) (s_val (v_mvI rfl) (s_val (v_mvI rfl) (s_val (v_eql (k := .i64) rfl rfl) (s_nil (c_cond rfl rfl (fun h30 => ?_) (fun h30 => ?_)))))))))))))))
 · refine r_list (by kernel_rfl) (s_val (v_mvI rfl) (s_val (v_fd 0 (by kernel_rfl) rfl) (s_val (v_ixA 2 (by kernel_rfl) rfl rfl (by assumption)) (s_val (v_fd 0 (by kernel_rfl) rfl) (s_val (v_ldI (by kernel_rfl) rfl (.there .here) (H.at_has _ (by assumption))) (s_val (v_mvI rfl) (s_val (v_subw rfl rfl) (s_val (v_fd 0 (by kernel_rfl) rfl) (s_val (v_ixA 2 (by kernel_rfl) rfl rfl (by assumption)) (s_val (v_fd 0 (by kernel_rfl) rfl) (s_store1 (v := .int .i64 _) (by kernel_rfl) rfl rfl (.there .here) (H.set_has _ (by assumption)) rfl (s_end (n_then (r_seq (by kernel_rfl) (s_val (v_mvI rfl) (s_val (v_mvI rfl) (s_val (v_eql (k := .i64) rfl rfl) (s_nil (c_cond rfl rfl (fun h43 => ?_) (fun h43 => ?_))))))))))))))))))))
   · exact absurd ((of_decide_eq_true h30).symm.trans (of_decide_eq_true h43)) hne
   refine c_skip (n_bnormal (n_then (r_list (by kernel_rfl) (s_val (v_add rfl rfl (by omega)) (s_val (v_mvI rfl) (s_end (n_round (k + 1) ⟨_, (by omega), live6 rfl rfl rfl rfl rfl rfl⟩ (fun _ hw => by rw [← ms_stepA h30]; exact hw) (by omega))))))))
 refine c_skip (n_then (r_seq (by kernel_rfl) (s_val (v_mvI rfl) (s_val (v_mvI rfl) (s_val (v_eql (k := .i64) rfl rfl) (s_nil (c_condR rfl rfl (fun h43 => ?_) (fun h43 => ?_))))))))
 · refine c_skip (n_bnormal (n_then (r_list (by kernel_rfl) (s_val (v_add rfl rfl (by omega)) (s_val (v_mvI rfl) (s_end (n_round (k + 1) ⟨_, (by omega), live6 rfl rfl rfl rfl rfl rfl⟩ (fun _ hw => by rw [← ms_step0 h30 h43]; exact hw) (by omega))))))))
 refine r_list (by kernel_rfl) (s_val (v_mvI rfl) (s_val (v_fd 0 (by kernel_rfl) rfl) (s_val (v_ixA 2 (by kernel_rfl) rfl rfl (by assumption)) (s_val (v_fd 0 (by kernel_rfl) rfl) (s_val (v_ldI (by kernel_rfl) rfl (.there .here) (H.at_has _ (by assumption))) (s_val (v_mvI rfl) (s_val (v_addw rfl rfl) (s_val (v_fd 0 (by kernel_rfl) rfl) (s_val (v_ixA 2 (by kernel_rfl) rfl rfl (by assumption)) (s_val (v_fd 0 (by kernel_rfl) rfl) (s_store1 (v := .int .i64 _) (by kernel_rfl) rfl rfl (.there .here) (H.set_has _ (by assumption)) rfl (s_end (n_bnormal (n_then (r_list (by kernel_rfl) (s_val (v_add rfl rfl (by omega)) (s_val (v_mvI rfl) (s_end (n_round (k + 1) ⟨_, (by omega), live6 rfl rfl rfl rfl rfl rfl⟩ (fun _ hw => by rw [← ms_stepB h30 h43]; exact hw) (by omega))))))))))))))))))))
theorem gr_SameHouse (h : H) (ps : List PayS) (k : H) (qs : List PayS) (w : World) (hp : PaysIn (At w) h.pa h.pl ps) (hq : PaysIn (At w) k.pa k.pl qs) (hb : h.pl ≤ 9223372036854775807) : Gives Tryz.prog 10 [.agg h.cells, .agg k.cells] w (.bool (sameB h ps k qs)) := by
 refine gives_of Tryz.func10 rfl Tryz.ntmps10 (by simp) (r_seq (by kernel_rfl) (s_box (v := .agg _) rfl (fun b2 => ?_)))
 refine s_box (v := .agg _) rfl (fun b3 => ?_)
 refine s_val (v_asB rfl) (s_nil (c_seq (r_seq (by kernel_rfl) (s_val (v_fd 0 (by kernel_rfl) rfl) (s_val (v_loadN (m := 8) (cs' := accA _ _) (by kernel_rfl) rfl (.there .here) (accA_size _ _) (H.ex_acc _)) (s_val (v_fd 0 (by kernel_rfl) rfl) (s_val (v_loadN (m := 8) (cs' := accA _ _) (by kernel_rfl) rfl .here (accA_size _ _) (H.ex_acc _)) (s_val (v_neqFlat (n := 8) _ _ (by kernel_rfl) rfl rfl (accA_list _ _) (accA_list _ _) rfl rfl) (s_val (v_mvB rfl) (s_splitN (s := 11) rfl (fun h11 => ?_) (fun h11 => ?_)))))))))))
 · refine s_pass rfl rfl (congrArg not h11) (s_pass rfl rfl (congrArg not h11) (s_pass rfl rfl (congrArg not h11) (s_pass rfl rfl (congrArg not h11) (s_pass rfl rfl (congrArg not h11) (s_val (v_pickT (v := .bool _) rfl (congrArg not h11) rfl) (s_val (v_mvB rfl) (s_pass (g := true) rfl rfl rfl (s_pass (g := true) rfl rfl rfl (s_pass (g := true) rfl rfl rfl (s_pass (g := true) rfl rfl rfl (s_pass (g := true) rfl rfl rfl (s_val (v_pickT (v := .bool _) rfl rfl rfl) (s_val (v_mvB rfl) (s_pass (g := true) rfl rfl rfl (s_pass (g := true) rfl rfl rfl (s_pass (g := true) rfl rfl rfl (s_pass (g := true) rfl rfl rfl (s_pass (g := true) rfl rfl rfl (s_val (v_pickT (v := .bool _) rfl rfl rfl) ?_)))))))))))))))))))
   refine s_val (v_mvB rfl) (s_pass (g := true) rfl rfl rfl (s_pass (g := true) rfl rfl rfl (s_pass (g := true) rfl rfl rfl (s_pass (g := true) rfl rfl rfl (s_pass (g := true) rfl rfl rfl (s_pass (g := true) rfl rfl rfl (s_pass (g := true) rfl rfl rfl (s_val (v_pickT (v := .bool _) rfl rfl rfl) (s_nil (c_condTh rfl rfl rfl (r_seq (by kernel_rfl) (s_val (v_asB rfl) (s_nil (c_ret (n_ret (n_dnB rfl (by decide) rfl ?_))))))))))))))))
   first | (have e := same_all hp.1 hq.1 h40 h45 hinv; simp only [sameB, *, bls, cond_true, cond_false, if_true, if_false, Bool.false_eq_true, decide_true, decide_false]; done) | (have e := same_bad (F := At w) (h := h) (k := k) hpk hqk h57; simp only [sameB, *, bls, cond_true, cond_false, if_true, if_false, Bool.false_eq_true, decide_true, decide_false]; done) | (simp only [sameB, *, bls, cond_true, cond_false, if_true, if_false, Bool.false_eq_true, decide_true, decide_false]; done)
 refine s_want rfl rfl (congrArg not h11) (s_val (v_fd 8 (by kernel_rfl) rfl) (s_want rfl rfl (congrArg not h11) (s_val (v_loadN (m := 16) (cs' := matA _) (by kernel_rfl) rfl (.there .here) (matA_size _) (H.ex_sent _)) (s_want rfl rfl (congrArg not h11) (s_val (v_fd 8 (by kernel_rfl) rfl) (s_want rfl rfl (congrArg not h11) (s_val (v_loadN (m := 16) (cs' := matA _) (by kernel_rfl) rfl .here (matA_size _) (H.ex_sent _)) (s_want rfl rfl (congrArg not h11) (s_val (v_neqFlat (n := 16) _ _ (by kernel_rfl) rfl rfl (matA_list _) (matA_list _) rfl rfl) (s_val (v_pickF (v := .bool _) rfl (congrArg not h11) rfl) (s_val (v_mvB rfl) (s_splitN (s := 18) rfl (fun h18 => ?_) (fun h18 => ?_)))))))))))))
 · refine s_pass rfl rfl (congrArg not h18) (s_pass rfl rfl (congrArg not h18) (s_pass rfl rfl (congrArg not h18) (s_pass rfl rfl (congrArg not h18) (s_pass rfl rfl (congrArg not h18) (s_val (v_pickT (v := .bool _) rfl (congrArg not h18) rfl) (s_val (v_mvB rfl) (s_pass (g := true) rfl rfl rfl (s_pass (g := true) rfl rfl rfl (s_pass (g := true) rfl rfl rfl (s_pass (g := true) rfl rfl rfl (s_pass (g := true) rfl rfl rfl (s_val (v_pickT (v := .bool _) rfl rfl rfl) (s_val (v_mvB rfl) (s_pass (g := true) rfl rfl rfl (s_pass (g := true) rfl rfl rfl (s_pass (g := true) rfl rfl rfl (s_pass (g := true) rfl rfl rfl (s_pass (g := true) rfl rfl rfl (s_pass (g := true) rfl rfl rfl ?_)))))))))))))))))))
   refine s_pass (g := true) rfl rfl rfl (s_val (v_pickT (v := .bool _) rfl rfl rfl) (s_nil (c_condTh rfl rfl rfl (r_seq (by kernel_rfl) (s_val (v_asB rfl) (s_nil (c_ret (n_ret (n_dnB rfl (by decide) rfl ?_)))))))))
   first | (have e := same_all hp.1 hq.1 h40 h45 hinv; simp only [sameB, *, bls, cond_true, cond_false, if_true, if_false, Bool.false_eq_true, decide_true, decide_false]; done) | (have e := same_bad (F := At w) (h := h) (k := k) hpk hqk h57; simp only [sameB, *, bls, cond_true, cond_false, if_true, if_false, Bool.false_eq_true, decide_true, decide_false]; done) | (simp only [sameB, *, bls, cond_true, cond_false, if_true, if_false, Bool.false_eq_true, decide_true, decide_false]; done)
 refine s_want rfl rfl (congrArg not h18) (s_val (v_fd 24 (by kernel_rfl) rfl) (s_want rfl rfl (congrArg not h18) (s_val (v_loadN (m := 16) (cs' := matA _) (by kernel_rfl) rfl (.there .here) (matA_size _) (H.ex_lim _)) (s_want rfl rfl (congrArg not h18) (s_val (v_fd 24 (by kernel_rfl) rfl) (s_want rfl rfl (congrArg not h18) (s_val (v_loadN (m := 16) (cs' := matA _) (by kernel_rfl) rfl .here (matA_size _) (H.ex_lim _)) (s_want rfl rfl (congrArg not h18) (s_val (v_neqFlat (n := 16) _ _ (by kernel_rfl) rfl rfl (matA_list _) (matA_list _) rfl rfl) (s_val (v_pickF (v := .bool _) rfl (congrArg not h18) rfl) (s_val (v_mvB rfl) (s_splitN (s := 25) rfl (fun h25 => ?_) (fun h25 => ?_)))))))))))))
 · refine s_pass rfl rfl (congrArg not h25) (s_pass rfl rfl (congrArg not h25) (s_pass rfl rfl (congrArg not h25) (s_pass rfl rfl (congrArg not h25) (s_pass rfl rfl (congrArg not h25) (s_val (v_pickT (v := .bool _) rfl (congrArg not h25) rfl) (s_val (v_mvB rfl) (s_pass (g := true) rfl rfl rfl (s_pass (g := true) rfl rfl rfl (s_pass (g := true) rfl rfl rfl (s_pass (g := true) rfl rfl rfl (s_pass (g := true) rfl rfl rfl (s_pass (g := true) rfl rfl rfl (s_pass (g := true) rfl rfl rfl (s_val (v_pickT (v := .bool _) rfl rfl rfl) (s_nil (c_condTh rfl rfl rfl (r_seq (by kernel_rfl) (s_val (v_asB rfl) (s_nil ?_)))))))))))))))))))
   refine c_ret (n_ret (n_dnB rfl (by decide) rfl ?_))
   first | (have e := same_all hp.1 hq.1 h40 h45 hinv; simp only [sameB, *, bls, cond_true, cond_false, if_true, if_false, Bool.false_eq_true, decide_true, decide_false]; done) | (have e := same_bad (F := At w) (h := h) (k := k) hpk hqk h57; simp only [sameB, *, bls, cond_true, cond_false, if_true, if_false, Bool.false_eq_true, decide_true, decide_false]; done) | (simp only [sameB, *, bls, cond_true, cond_false, if_true, if_false, Bool.false_eq_true, decide_true, decide_false]; done)
 refine s_want rfl rfl (congrArg not h25) (s_val (v_fd 41 (by kernel_rfl) rfl) (s_want rfl rfl (congrArg not h25) (s_val (v_ldI (by kernel_rfl) rfl (.there .here) (H.at_next _)) (s_want rfl rfl (congrArg not h25) (s_val (v_fd 41 (by kernel_rfl) rfl) (s_want rfl rfl (congrArg not h25) (s_val (v_ldI (by kernel_rfl) rfl .here (H.at_next _)) (s_want rfl rfl (congrArg not h25) (s_val (v_neq (k := .i64) rfl rfl) (s_val (v_pickF (v := .bool _) rfl (congrArg not h25) rfl) (s_val (v_mvB rfl) (s_splitN (s := 32) rfl (fun h32 => ?_) (fun h32 => ?_)))))))))))))
 · refine s_pass rfl rfl (congrArg not h32) (s_pass rfl rfl (congrArg not h32) (s_pass rfl rfl (congrArg not h32) (s_pass rfl rfl (congrArg not h32) (s_pass rfl rfl (congrArg not h32) (s_pass rfl rfl (congrArg not h32) (s_pass rfl rfl (congrArg not h32) (s_val (v_pickT (v := .bool _) rfl (congrArg not h32) rfl) (s_nil (c_condTh rfl rfl rfl (r_seq (by kernel_rfl) (s_val (v_asB rfl) (s_nil (c_ret (n_ret (n_dnB rfl (by decide) rfl ?_)))))))))))))))
   first | (have e := same_all hp.1 hq.1 h40 h45 hinv; simp only [sameB, *, bls, cond_true, cond_false, if_true, if_false, Bool.false_eq_true, decide_true, decide_false]; done) | (have e := same_bad (F := At w) (h := h) (k := k) hpk hqk h57; simp only [sameB, *, bls, cond_true, cond_false, if_true, if_false, Bool.false_eq_true, decide_true, decide_false]; done) | (simp only [sameB, *, bls, cond_true, cond_false, if_true, if_false, Bool.false_eq_true, decide_true, decide_false]; done)
 refine s_want rfl rfl (congrArg not h32) (s_val (v_fd 40 (by kernel_rfl) rfl) (s_want rfl rfl (congrArg not h32) (s_val (v_load1 (v := .slice _ _ _) (by kernel_rfl) rfl (.there .here) (H.at_pays _)) (s_want rfl rfl (congrArg not h32) (s_val (v_lenS (T := 41) (m := 6) (by kernel_rfl) rfl rfl) (s_want rfl rfl (congrArg not h32) (s_val (v_fd 40 (by kernel_rfl) rfl) (s_want rfl rfl (congrArg not h32) (s_val (v_load1 (v := .slice _ _ _) (by kernel_rfl) rfl .here (H.at_pays _)) (s_want rfl rfl (congrArg not h32) (s_val (v_lenS (T := 41) (m := 6) (by kernel_rfl) rfl rfl) (s_want rfl rfl (congrArg not h32) (s_val (v_neq (k := .i64) rfl rfl) (s_val (v_pickF (v := .bool _) rfl (congrArg not h32) rfl) (s_nil (c_condN rfl rfl (fun h40 => ?_) (fun h40 => ?_)))))))))))))))))
 · refine r_seq (by kernel_rfl) (s_val (v_asB rfl) (s_nil (c_ret (n_ret (n_dnB rfl (by decide) rfl ?_)))))
   first | (have e := same_all hp.1 hq.1 h40 h45 hinv; simp only [sameB, *, bls, cond_true, cond_false, if_true, if_false, Bool.false_eq_true, decide_true, decide_false]; done) | (have e := same_bad (F := At w) (h := h) (k := k) hpk hqk h57; simp only [sameB, *, bls, cond_true, cond_false, if_true, if_false, Bool.false_eq_true, decide_true, decide_false]; done) | (simp only [sameB, *, bls, cond_true, cond_false, if_true, if_false, Bool.false_eq_true, decide_true, decide_false]; done)
 refine c_skip (n_then (c_seq ?_))
 have hee := of_decide_eq_true h40
 refine r_seq (by kernel_rfl) (s_val (v_fd 40 (by kernel_rfl) rfl) (s_val (v_load1 (v := .slice _ _ _) (by kernel_rfl) rfl (.there .here) (H.at_pays _)) (s_val (v_lenS (T := 41) (m := 6) (by kernel_rfl) rfl rfl) (s_val (v_mvI rfl) (s_nil (c_block (c_loop (σ := Nat) (fun (j : Nat) f => ∃ g, (j ≤ h.pl ∧ (ps.take j).map PayS.list = (qs.take j).map PayS.list) ∧ f = (upd (upd (upd (upd g 2 (.pointer (some ⟨b2, 0, none⟩))) 3 (.pointer (some ⟨b3, 0, none⟩))) 43 (I h.pl)) 44 (I j))) (fun (j : Nat) => Has w (At w) [(b3, .cells k.cells 43), (b2, .cells h.cells 43)]) (fun (j : Nat) => h.pl - j) 0 ⟨_, ⟨Nat.zero_le _, rfl⟩, live4 rfl rfl rfl rfl⟩ (fun w hw => hw) ?_)))))))
 rintro j _ ⟨g, ⟨hjl, hinv⟩, rfl⟩
 refine r_seq (by kernel_rfl) (s_val (v_lsI rfl rfl) (s_nil (c_seq (c_condR rfl rfl (fun h45 => ?_) (fun h45 => ?_)))))
 · refine c_exit (n_exit (n_exit (n_bhere (n_then (r_seq (by kernel_rfl) (s_val (v_asB rfl) (s_nil (c_ret (n_dnB rfl (by decide) rfl ?_)))))))))
   first | (have e := same_all hp.1 hq.1 h40 h45 hinv; simp only [sameB, *, bls, cond_true, cond_false, if_true, if_false, Bool.false_eq_true, decide_true, decide_false]; done) | (have e := same_bad (F := At w) (h := h) (k := k) hpk hqk h57; simp only [sameB, *, bls, cond_true, cond_false, if_true, if_false, Bool.false_eq_true, decide_true, decide_false]; done) | (simp only [sameB, *, bls, cond_true, cond_false, if_true, if_false, Bool.false_eq_true, decide_true, decide_false]; done)
 have hj0 := of_decide_eq_true h45
 obtain ⟨p, hpk, hd, ht⟩ := hp.get (k := j) (by omega)
 obtain ⟨q, hqk, hd2, ht2⟩ := hq.get (k := j) (by omega)
 obtain ⟨b, o, hpa, hc⟩ := hp.some (k := j) (by omega)
 obtain ⟨b', o', hqa, hc'⟩ := hq.some (k := j) (by omega)
 refine c_skip (n_then (c_seq (c_block (r_seq (by kernel_rfl) (s_val (v_mvI rfl) (s_val (v_asI rfl) (s_nil (d_seq (by kernel_rfl) (by kernel_rfl) (fun w hw => hw.drew) (by kernel_rfl) (q_val (v_fd 40 (by kernel_rfl) rfl) (q_val (v_load1 (v := .slice (some ⟨b, o, none⟩) _ _) (by kernel_rfl) rfl (.there .here) (by rw [H.at_pays, hpa])) (q_val (v_mvI rfl) (q_val (v_idxS (size := 6) (k := .i64) (by kernel_rfl) rfl rfl ⟨by omega, by omega⟩) (q_val (v_loadNo (cs := p.cells) (m := 6) (by kernel_rfl) rfl rfl (hc j p hpk)) (q_val (v_fd 40 (by kernel_rfl) rfl) (q_val (v_load1 (v := .slice (some ⟨b', o', none⟩) _ _) (by kernel_rfl) rfl .here (by rw [H.at_pays, hqa])) (q_val (v_mvI rfl) (q_val (v_idxS (size := 6) (k := .i64) (by kernel_rfl) rfl rfl ⟨by omega, by omega⟩) (q_val (v_loadNo (cs := q.cells) (m := 6) (by kernel_rfl) rfl rfl (hc' j q hqk)) (q_val (v_neqFlat (n := 6) _ _ (by kernel_rfl) rfl rfl (PayS.cells_list _) (PayS.cells_list _) rfl rfl) ?_)))))))))))))))))))
 refine q_nil (c_condNR rfl rfl (fun h57 => ?_) (fun h57 => ?_))
 · refine c_skip (n_bnormal (n_then (r_list (by kernel_rfl) (s_val (v_add rfl rfl (by omega)) (s_val (v_mvI rfl) (s_end (n_round (j + 1) ⟨_, ⟨by omega, same_step hinv ht ht2 h57⟩, live4 rfl rfl rfl rfl⟩ (fun _ hw => hw) (by omega))))))))
 refine r_seq (by kernel_rfl) (s_val (v_asB rfl) (s_nil (c_ret (n_bret (n_ret (n_ret (n_bret (n_ret (n_dnB rfl (by decide) rfl ?_)))))))))
 first | (have e := same_all hp.1 hq.1 h40 h45 hinv; simp only [sameB, *, bls, cond_true, cond_false, if_true, if_false, Bool.false_eq_true, decide_true, decide_false]; done) | (have e := same_bad (F := At w) (h := h) (k := k) hpk hqk h57; simp only [sameB, *, bls, cond_true, cond_false, if_true, if_false, Bool.false_eq_true, decide_true, decide_false]; done) | (simp only [sameB, *, bls, cond_true, cond_false, if_true, if_false, Bool.false_eq_true, decide_true, decide_false]; done)
end Go.Proofs.YtmkboljfbmlebacGreat
namespace Go.Proofs.YtmkboljfbmlebacGreat
open Go.RowKit
set_option linter.unusedSimpArgs false
set_option linter.unusedVariables false
set_option maxRecDepth 100000
attribute [local irreducible] cC sC nC rC qw
theorem gr_IsHouse (h : H) (ps : List PayS) (w : World) (hp : PaysIn (At w) h.pa h.pl ps) (hb : h.pl * 48 ≤ 281474976710656) (hlc : h.pl ≤ h.pc) : Gives Tryz.prog 33 [.agg h.cells] w (.bool (isHouseB h ps)) := by
 refine gives_of Tryz.func33 rfl Tryz.ntmps33 (by simp) (r_seq (by kernel_rfl) (s_box (v := .agg _) rfl (fun b1 => ?_)))
 refine s_val (v_asB rfl) (s_nil (c_cut (fun f => ∃ g, f = (upd (upd g 1 (.pointer (some ⟨b1, 0, none⟩))) 3 (.bool (hB0 h)))) (Has w (At w) [(b1, .cells h.cells 43)]) ?_ ?_))
 · refine r_list (by kernel_rfl) (s_val (v_fd 40 (by kernel_rfl) rfl) (s_val (v_load1 (v := .slice _ _ _) (by kernel_rfl) rfl .here (H.at_pays _)) (s_val (v_lenS (T := 41) (m := 6) (by kernel_rfl) rfl rfl) (s_val (v_lsI rfl rfl) (s_val (v_mvB rfl) (s_splitR (s := 14) rfl (fun h14 => ?_) (fun h14 => ?_)))))))
   · refine s_pass rfl rfl h14 (s_pass rfl rfl h14 (s_pass rfl rfl h14 (s_val (v_pickF (v := .bool _) rfl h14 rfl) (s_val (v_asB rfl) (s_end (n_cut ⟨_, live2 rfl (congrArg Value.bool (by simp only [hB0, *, bls, cond_true, cond_false, if_true, if_false, Bool.false_eq_true, decide_true, decide_false]))⟩ (fun _ hw => hw)))))))
   refine s_want rfl rfl h14 (s_val (v_fd 41 (by kernel_rfl) rfl) (s_want rfl rfl h14 (s_val (v_ldI (by kernel_rfl) rfl .here (H.at_next _)) (s_want rfl rfl h14 (s_call (by kernel_rfl) (fun w hw => gr_within _ _ _ w) (s_val (v_pickT (v := .bool _) rfl h14 rfl) (s_val (v_asB rfl) (s_end (n_cut ⟨_, live2 rfl (congrArg Value.bool (by simp only [hB0, *, bls, cond_true, cond_false, if_true, if_false, Bool.false_eq_true, decide_true, decide_false]))⟩ (fun _ hw => hw))))))))))
 rintro _ ⟨g, rfl⟩
 refine c_seq (r_seq (by kernel_rfl) (s_val (v_mvI rfl) (s_nil (c_block (c_loop (σ := Nat) (fun (k : Nat) f => ∃ g, (k ≤ 4) ∧ f = (upd (upd (upd g 1 (.pointer (some ⟨b1, 0, none⟩))) 3 (.bool (hAll h k))) 19 (I k))) (fun (k : Nat) => Has w (At w) [(b1, .cells h.cells 43)]) (fun (k : Nat) => 4 - k) 0 ⟨_, Nat.zero_le _, live3 rfl rfl rfl⟩ (fun w hw => hw) ?_)))))
 rintro k _ ⟨g, hkl, rfl⟩
 refine r_seq (by kernel_rfl) (s_val (v_lsI rfl rfl) (s_nil (c_seq (c_condR rfl rfl (fun h20 => ?_) (fun h20 => ?_)))))
 · obtain rfl : k = 4 := by have := of_decide_eq_false h20; omega
   refine c_exit (n_exit (n_exit (n_bhere (n_then (c_seq (r_seq (by kernel_rfl) (s_val (v_fd 40 (by kernel_rfl) rfl) (s_val (v_load1 (v := .slice _ _ _) (by kernel_rfl) rfl .here (H.at_pays _)) (s_val (v_lenS (T := 41) (m := 6) (by kernel_rfl) rfl rfl) (s_val (v_mvI rfl) (s_nil (c_block (c_loop (σ := Nat) (fun (j : Nat) f => ∃ g, (j ≤ h.pl) ∧ f = (upd (upd (upd (upd (upd g 1 (.pointer (some ⟨b1, 0, none⟩))) 3 (.bool (hPto h ps j))) 73 (.slice h.pa h.pl h.pc)) 74 (I h.pl)) 75 (I j))) (fun (j : Nat) => Has w (At w) [(b1, .cells h.cells 43)]) (fun (j : Nat) => h.pl - j) 0 ⟨_, Nat.zero_le _, live5 rfl rfl rfl rfl rfl⟩ (fun w hw => hw) ?_)))))))))))))
   rintro j _ ⟨g, hjl, rfl⟩
   refine r_seq (by kernel_rfl) (s_val (v_lsI rfl rfl) (s_nil (c_seq (c_condR rfl rfl (fun h76 => ?_) (fun h76 => ?_)))))
   · have hjj : j = h.pl := by have := of_decide_eq_false h76; omega
     refine c_exit (n_exit (n_exit (n_bhere (n_then (r_seq (by kernel_rfl) (s_val (v_mvB rfl) (s_val (v_asB rfl) (s_nil (c_ret (n_dnB rfl (by decide) rfl ?_))))))))))
     unfold isHouseB
     rw [hp.1, ← hjj]
   have hj0 := of_decide_eq_true h76
   obtain ⟨p, hpk, hd, ht⟩ := hp.get (k := j) (by omega)
   obtain ⟨b, o, hpa, hc⟩ := hp.some (k := j) (by omega)
   refine c_skip (n_then (c_seq (c_block (r_seq (by kernel_rfl) (s_val (v_mvI rfl) (s_val (v_idxS (size := 6) (k := .i64) (by kernel_rfl) (congrArg (fun a => Value.slice a h.pl h.pc) hpa) rfl ⟨by omega, by omega⟩) (s_val (v_loadNo (cs := p.cells) (m := 6) (by kernel_rfl) rfl rfl (hc j p hpk)) (s_alloc (z := zeroOf Tryz.prog 67) (by kernel_rfl) (fun b7 => ?_)))))))))
   refine s_val (v_asI rfl) (s_storeA (m := 6) (by kernel_rfl) rfl rfl .here (by kernel_rfl) rfl (PayS.all1 _) (s_nil (c_cut (fun f => ∃ g, f = (upd (upd (upd (upd (upd (upd (upd g 1 (.pointer (some ⟨b1, 0, none⟩))) 3 (.bool (hPto h ps j && isPayB p && decide (p.seq < h.next)))) 6 (I j)) 7 (.pointer (some ⟨b7, 0, none⟩))) 73 (.slice h.pa h.pl h.pc)) 74 (I h.pl)) 75 (I j))) (Has w (At w) [(b7, .cells p.cells 67), (b1, .cells h.cells 43)]) ?_ ?_)))
   · refine r_list (by kernel_rfl) (s_val (v_mvB rfl) (s_val (v_mvB rfl) (s_splitR (s := 81) rfl (fun h81 => ?_) (fun h81 => ?_))))
     · refine s_pass rfl rfl h81 (s_pass rfl rfl h81 (s_val (v_pickF (v := .bool _) rfl h81 rfl) (s_val (v_mvB rfl) (s_pass (g := false) rfl rfl rfl (s_pass (g := false) rfl rfl rfl (s_pass (g := false) rfl rfl rfl (s_pass (g := false) rfl rfl rfl (s_pass (g := false) rfl rfl rfl (s_val (v_pickF (v := .bool _) rfl rfl rfl) (s_val (v_asB rfl) (s_end (n_cut ⟨_, live7 rfl (congrArg Value.bool (by simp only [*, bls, cond_true, cond_false, if_true, if_false, Bool.false_eq_true, decide_true, decide_false])) rfl rfl rfl rfl rfl⟩ (fun _ hw => hw)))))))))))))
     refine s_want rfl rfl h81 (s_val (v_loadA (m := 6) (by kernel_rfl) rfl .here rfl) (s_want rfl rfl h81 (s_call (by kernel_rfl) (fun w hw => gr_IsPay _ w) (s_val (v_pickT (v := .bool _) rfl h81 rfl) (s_val (v_mvB rfl) (s_splitR (s := 85) rfl (fun h85 => ?_) (fun h85 => ?_)))))))
     · refine s_pass rfl rfl h85 (s_pass rfl rfl h85 (s_pass rfl rfl h85 (s_pass rfl rfl h85 (s_pass rfl rfl h85 (s_val (v_pickF (v := .bool _) rfl h85 rfl) (s_val (v_asB rfl) (s_end (n_cut ⟨_, live7 rfl (congrArg Value.bool (by simp only [*, bls, cond_true, cond_false, if_true, if_false, Bool.false_eq_true, decide_true, decide_false])) rfl rfl rfl rfl rfl⟩ (fun _ hw => hw)))))))))
     refine s_want rfl rfl h85 (s_val (v_fd 5 (by kernel_rfl) rfl) (s_want rfl rfl h85 (s_val (v_ldI (by kernel_rfl) rfl .here rfl) (s_want rfl rfl h85 (s_val (v_fd 41 (by kernel_rfl) rfl) (s_want rfl rfl h85 (s_val (v_ldI (by kernel_rfl) rfl (.there .here) (H.at_next _)) (s_want rfl rfl h85 (s_val (v_lsI rfl rfl) (s_val (v_pickT (v := .bool _) rfl h85 rfl) (s_val (v_asB rfl) (s_end (n_cut ⟨_, live7 rfl (congrArg Value.bool (by simp only [*, bls, cond_true, cond_false, if_true, if_false, Bool.false_eq_true, decide_true, decide_false])) rfl rfl rfl rfl rfl⟩ (fun _ hw => hw))))))))))))))
   rintro _ ⟨g, rfl⟩
   refine r_seq (by kernel_rfl) (s_val (v_fd 40 (by kernel_rfl) rfl) (s_val (v_load1 (v := .slice _ _ _) (by kernel_rfl) rfl (.there .here) (H.at_pays _)) (s_val (v_mvI rfl) (s_val (v_sliceHi (m := 6) (by kernel_rfl) rfl rfl ⟨by omega, by omega⟩) (s_val (v_lenS (T := 41) (m := 6) (by kernel_rfl) rfl rfl) (s_val (v_mvI rfl) (s_nil (c_block (c_loop (σ := Nat) (fun (m : Nat) f => ∃ g, (m ≤ j) ∧ f = (upd (upd (upd (upd (upd (upd (upd (upd (upd g 1 (.pointer (some ⟨b1, 0, none⟩))) 3 (.bool (pin p (hPto h ps j && isPayB p && decide (p.seq < h.next)) (ps.take m)))) 7 (.pointer (some ⟨b7, 0, none⟩))) 73 (.slice h.pa h.pl h.pc)) 74 (I h.pl)) 75 (I j)) 95 (.slice h.pa j h.pc)) 96 (I j)) 97 (I m))) (fun (m : Nat) => Has w (At w) [(b7, .cells p.cells 67), (b1, .cells h.cells 43)]) (fun (m : Nat) => j - m) 0 ⟨_, Nat.zero_le _, live9 rfl rfl rfl rfl rfl rfl rfl rfl rfl⟩ (fun w hw => hw) ?_)))))))))
   rintro m _ ⟨g, hml, rfl⟩
   refine r_seq (by kernel_rfl) (s_val (v_lsI rfl rfl) (s_nil (c_seq (c_condR rfl rfl (fun h98 => ?_) (fun h98 => ?_)))))
   · obtain rfl : j = m := by have := of_decide_eq_false h98; omega
     refine c_exit (n_exit (n_exit (n_bhere (n_bnormal (n_then (r_list (by kernel_rfl) (s_val (v_add rfl rfl (by omega)) (s_val (v_mvI rfl) (s_end (n_round (j + 1) ⟨_, (by omega), live5 rfl (congrArg Value.bool (hPto_succ hpk).symm) rfl rfl rfl⟩ (fun _ hw => hw.tail) (by omega)))))))))))
   have hm0 := of_decide_eq_true h98
   obtain ⟨q, hqk, hdq, htq⟩ := hp.get (k := m) (by omega)
   refine c_skip (n_then (c_seq (c_block (r_seq (by kernel_rfl) (s_val (v_idxS (size := 6) (k := .i64) (by kernel_rfl) (congrArg (fun a => Value.slice a j h.pc) hpa) rfl ⟨by omega, by omega⟩) (s_val (v_loadNo (cs := q.cells) (m := 6) (by kernel_rfl) rfl rfl (hc m q hqk)) (s_alloc (z := zeroOf Tryz.prog 67) (by kernel_rfl) (fun b9 => ?_))))))))
   refine s_storeA (m := 6) (by kernel_rfl) rfl rfl .here (by kernel_rfl) rfl (PayS.all1 _) (s_nil (c_cutN (fun f => ∃ g, f = (upd (upd (upd (upd (upd (upd (upd (upd (upd g 1 (.pointer (some ⟨b1, 0, none⟩))) 3 (.bool (pin p (hPto h ps j && isPayB p && decide (p.seq < h.next)) (ps.take (m + 1))))) 7 (.pointer (some ⟨b7, 0, none⟩))) 73 (.slice h.pa h.pl h.pc)) 74 (I h.pl)) 75 (I j)) 95 (.slice h.pa j h.pc)) 96 (I j)) 97 (I m))) (Has w (At w) [(b9, .cells q.cells 67), (b7, .cells p.cells 67), (b1, .cells h.cells 43)]) ?_ ?_))
   · refine r_list (by kernel_rfl) (s_val (v_mvB rfl) (s_val (v_mvB rfl) (s_splitR (s := 102) rfl (fun h102 => ?_) (fun h102 => ?_))))
     · refine s_pass rfl rfl h102 (s_pass rfl rfl h102 (s_pass rfl rfl h102 (s_pass rfl rfl h102 (s_pass rfl rfl h102 (s_val (v_pickF (v := .bool _) rfl h102 rfl) (s_val (v_asB rfl) (s_end (n_cut ⟨_, live9 rfl (congrArg Value.bool (by rw [htq, pin_snoc]; simp only [*, bls, cond_true, cond_false, if_true, if_false, Bool.false_eq_true, decide_true, decide_false])) rfl rfl rfl rfl rfl rfl rfl⟩ (fun _ hw => hw)))))))))
     refine s_want rfl rfl h102 (s_val (v_fd 5 (by kernel_rfl) rfl) (s_want rfl rfl h102 (s_val (v_ldI (by kernel_rfl) rfl (.there .here) rfl) (s_want rfl rfl h102 (s_val (v_fd 5 (by kernel_rfl) rfl) (s_want rfl rfl h102 (s_val (v_ldI (by kernel_rfl) rfl .here rfl) (s_want rfl rfl h102 (s_val (v_neq (k := .i64) rfl rfl) (s_val (v_pickT (v := .bool _) rfl h102 rfl) (s_val (v_asB rfl) (s_end (n_cut ⟨_, live9 rfl (congrArg Value.bool (by rw [htq, pin_snoc]; simp only [*, bls, cond_true, cond_false, if_true, if_false, Bool.false_eq_true, decide_true, decide_false])) rfl rfl rfl rfl rfl rfl rfl⟩ (fun _ hw => hw))))))))))))))
   rintro _ ⟨g, rfl⟩
   refine n_bnormal (n_then (r_list (by kernel_rfl) (s_val (v_add rfl rfl (by omega)) (s_val (v_mvI rfl) (s_end (n_round (m + 1) ⟨_, (by omega), live9 rfl rfl rfl rfl rfl rfl rfl rfl rfl⟩ (fun _ hw => hw.tail) (by omega)))))))
 have hk0 := of_decide_eq_true h20
 have hi : 0 ≤ (k : Int) ∧ (k : Int) < 4 := ⟨by omega, by omega⟩
 refine c_skip (n_then (c_seq (c_block (r_seq (by kernel_rfl) (s_val (v_mvI rfl) (s_val (v_asI rfl) (s_nil (c_cut (fun f => ∃ g, f = (upd (upd (upd (upd g 1 (.pointer (some ⟨b1, 0, none⟩))) 3 (.bool (hRow h k (hAll h k) 0))) 4 (I k)) 19 (I k))) (Has w (At w) [(b1, .cells h.cells 43)]) ?_ ?_))))))))
 · refine r_list (by kernel_rfl) (s_val (v_mvB rfl) (s_val (v_mvB rfl) (s_splitR (s := 23) rfl (fun h23 => ?_) (fun h23 => ?_))))
   · refine s_pass rfl rfl h23 (s_pass rfl rfl h23 (s_pass rfl rfl h23 (s_pass rfl rfl h23 (s_pass rfl rfl h23 (s_pass rfl rfl h23 (s_val (v_pickF (v := .bool _) rfl h23 rfl) (s_val (v_mvB rfl) (s_pass (g := false) rfl rfl rfl (s_pass (g := false) rfl rfl rfl (s_pass (g := false) rfl rfl rfl (s_pass (g := false) rfl rfl rfl (s_pass (g := false) rfl rfl rfl (s_pass (g := false) rfl rfl rfl (s_val (v_pickF (v := .bool _) rfl rfl rfl) (s_val (v_mvB rfl) (s_pass (g := false) rfl rfl rfl (s_pass (g := false) rfl rfl rfl (s_pass (g := false) rfl rfl rfl (s_pass (g := false) rfl rfl rfl ?_)))))))))))))))))))
     refine s_pass (g := false) rfl rfl rfl (s_pass (g := false) rfl rfl rfl (s_pass (g := false) rfl rfl rfl (s_val (v_pickF (v := .bool _) rfl rfl rfl) (s_val (v_asB rfl) (s_end (n_cut ⟨_, live4 rfl (congrArg Value.bool (by simp only [hRow, *, bls, cond_true, cond_false, if_true, if_false, Bool.false_eq_true, decide_true, decide_false])) rfl rfl⟩ (fun _ hw => hw)))))))
   refine s_want rfl rfl h23 (s_val (v_mvI rfl) (s_want rfl rfl h23 (s_val (v_fd 0 (by kernel_rfl) rfl) (s_want rfl rfl h23 (s_val (v_ixA 2 (by kernel_rfl) rfl rfl (by assumption)) (s_want rfl rfl h23 (s_val (v_fd 0 (by kernel_rfl) rfl) (s_want rfl rfl h23 (s_val (v_ldI (by kernel_rfl) rfl .here (H.at_has _ (by assumption))) (s_want rfl rfl h23 (s_call (by kernel_rfl) (fun w hw => gr_within _ _ _ w) (s_val (v_pickT (v := .bool _) rfl h23 rfl) (s_val (v_mvB rfl) (s_splitR (s := 31) rfl (fun h31 => ?_) (fun h31 => ?_)))))))))))))))
   · refine s_pass rfl rfl h31 (s_pass rfl rfl h31 (s_pass rfl rfl h31 (s_pass rfl rfl h31 (s_pass rfl rfl h31 (s_pass rfl rfl h31 (s_val (v_pickF (v := .bool _) rfl h31 rfl) (s_val (v_mvB rfl) (s_pass (g := false) rfl rfl rfl (s_pass (g := false) rfl rfl rfl (s_pass (g := false) rfl rfl rfl (s_pass (g := false) rfl rfl rfl (s_pass (g := false) rfl rfl rfl (s_pass (g := false) rfl rfl rfl (s_pass (g := false) rfl rfl rfl (s_val (v_pickF (v := .bool _) rfl rfl rfl) (s_val (v_asB rfl) (s_end (n_cut ⟨_, live4 rfl (congrArg Value.bool (by simp only [hRow, *, bls, cond_true, cond_false, if_true, if_false, Bool.false_eq_true, decide_true, decide_false])) rfl rfl⟩ (fun _ hw => hw)))))))))))))))))))
   refine s_want rfl rfl h31 (s_val (v_mvI rfl) (s_want rfl rfl h31 (s_val (v_fd 0 (by kernel_rfl) rfl) (s_want rfl rfl h31 (s_val (v_ixA 2 (by kernel_rfl) rfl rfl (by assumption)) (s_want rfl rfl h31 (s_val (v_fd 1 (by kernel_rfl) rfl) (s_want rfl rfl h31 (s_val (v_ldI (by kernel_rfl) rfl .here (H.at_cred _ (by assumption))) (s_want rfl rfl h31 (s_call (by kernel_rfl) (fun w hw => gr_within _ _ _ w) (s_val (v_pickT (v := .bool _) rfl h31 rfl) (s_val (v_mvB rfl) (s_splitR (s := 39) rfl (fun h39 => ?_) (fun h39 => ?_)))))))))))))))
   · refine s_pass rfl rfl h39 (s_pass rfl rfl h39 (s_pass rfl rfl h39 (s_pass rfl rfl h39 (s_pass rfl rfl h39 (s_pass rfl rfl h39 (s_pass rfl rfl h39 (s_val (v_pickF (v := .bool _) rfl h39 rfl) (s_val (v_asB rfl) (s_end (n_cut ⟨_, live4 rfl (congrArg Value.bool (by simp only [hRow, *, bls, cond_true, cond_false, if_true, if_false, Bool.false_eq_true, decide_true, decide_false])) rfl rfl⟩ (fun _ hw => hw)))))))))))
   refine s_want rfl rfl h39 (s_val (v_mvI rfl) (s_want rfl rfl h39 (s_val (v_mvI rfl) (s_want rfl rfl h39 (s_val (v_fd 8 (by kernel_rfl) rfl) (s_want rfl rfl h39 (s_val (v_ixA 4 (by kernel_rfl) rfl rfl (by assumption)) (s_want rfl rfl h39 (s_val (v_ixA 1 (by kernel_rfl) rfl rfl (by assumption)) (s_want rfl rfl h39 (s_val (v_ldI (by kernel_rfl) rfl .here (H.at_sent _ (by assumption) (by assumption))) (s_want rfl rfl h39 (s_val (v_eql (k := .i64) rfl rfl) (s_val (v_pickT (v := .bool _) rfl h39 rfl) (s_val (v_asB rfl) (s_end (n_cut ⟨_, live4 rfl (congrArg Value.bool (by simp only [hRow, *, bls, cond_true, cond_false, if_true, if_false, Bool.false_eq_true, decide_true, decide_false])) rfl rfl⟩ (fun _ hw => hw))))))))))))))))))
 rintro _ ⟨g, rfl⟩
 refine r_seq (by kernel_rfl) (s_val (v_mvI rfl) (s_nil (c_block (c_loop (σ := Nat) (fun (m : Nat) f => ∃ g, (m ≤ 4) ∧ f = (upd (upd (upd (upd (upd g 1 (.pointer (some ⟨b1, 0, none⟩))) 3 (.bool (hRow h k (hAll h k) m))) 4 (I k)) 19 (I k)) 48 (I m))) (fun (m : Nat) => Has w (At w) [(b1, .cells h.cells 43)]) (fun (m : Nat) => 4 - m) 0 ⟨_, Nat.zero_le _, live5 rfl rfl rfl rfl rfl⟩ (fun w hw => hw) ?_))))
 rintro m _ ⟨g, hml, rfl⟩
 refine r_seq (by kernel_rfl) (s_val (v_lsI rfl rfl) (s_nil (c_seq (c_condR rfl rfl (fun h49 => ?_) (fun h49 => ?_)))))
 · obtain rfl : m = 4 := by have := of_decide_eq_false h49; omega
   refine c_exit (n_exit (n_exit (n_bhere (n_bnormal (n_then (r_list (by kernel_rfl) (s_val (v_add rfl rfl (by omega)) (s_val (v_mvI rfl) (s_end (n_round (k + 1) ⟨_, (by omega), live3 rfl rfl rfl⟩ (fun _ hw => hw) (by omega)))))))))))
 have hm0 := of_decide_eq_true h49
 have hm : 0 ≤ (m : Int) ∧ (m : Int) < 4 := ⟨by omega, by omega⟩
 refine c_skip (n_then (c_seq (c_block (r_seq (by kernel_rfl) (s_val (v_mvI rfl) (s_val (v_asI rfl) (s_nil (c_cutN (fun f => ∃ g, f = (upd (upd (upd (upd (upd g 1 (.pointer (some ⟨b1, 0, none⟩))) 3 (.bool (hRow h k (hAll h k) (m + 1)))) 4 (I k)) 19 (I k)) 48 (I m))) (Has w (At w) [(b1, .cells h.cells 43)]) ?_ ?_))))))))
 · refine r_list (by kernel_rfl) (s_val (v_mvB rfl) (s_val (v_mvB rfl) (s_splitR (s := 52) rfl (fun h52 => ?_) (fun h52 => ?_))))
   · refine s_pass rfl rfl h52 (s_pass rfl rfl h52 (s_pass rfl rfl h52 (s_pass rfl rfl h52 (s_pass rfl rfl h52 (s_pass rfl rfl h52 (s_pass rfl rfl h52 (s_val (v_pickF (v := .bool _) rfl h52 rfl) (s_val (v_mvB rfl) (s_pass (g := false) rfl rfl rfl (s_pass (g := false) rfl rfl rfl (s_pass (g := false) rfl rfl rfl (s_pass (g := false) rfl rfl rfl (s_pass (g := false) rfl rfl rfl (s_pass (g := false) rfl rfl rfl (s_pass (g := false) rfl rfl rfl (s_val (v_pickF (v := .bool _) rfl rfl rfl) (s_val (v_asB rfl) (s_end (n_cut ⟨_, live5 rfl (congrArg Value.bool (by simp only [hRow, *, bls, cond_true, cond_false, if_true, if_false, Bool.false_eq_true, decide_true, decide_false])) rfl rfl rfl⟩ (fun _ hw => hw))))))))))))))))))))
   refine s_want rfl rfl h52 (s_val (v_mvI rfl) (s_want rfl rfl h52 (s_val (v_mvI rfl) (s_want rfl rfl h52 (s_val (v_fd 8 (by kernel_rfl) rfl) (s_want rfl rfl h52 (s_val (v_ixA 4 (by kernel_rfl) rfl rfl (by assumption)) (s_want rfl rfl h52 (s_val (v_ixA 1 (by kernel_rfl) rfl rfl (by assumption)) (s_want rfl rfl h52 (s_val (v_ldI (by kernel_rfl) rfl .here (H.at_sent _ (by assumption) (by assumption))) (s_want rfl rfl h52 (s_call (by kernel_rfl) (fun w hw => gr_within _ _ _ w) (s_val (v_pickT (v := .bool _) rfl h52 rfl) (s_val (v_mvB rfl) (s_splitR (s := 61) rfl (fun h61 => ?_) (fun h61 => ?_)))))))))))))))))
   · refine s_pass rfl rfl h61 (s_pass rfl rfl h61 (s_pass rfl rfl h61 (s_pass rfl rfl h61 (s_pass rfl rfl h61 (s_pass rfl rfl h61 (s_pass rfl rfl h61 (s_val (v_pickF (v := .bool _) rfl h61 rfl) (s_val (v_asB rfl) (s_end (n_cut ⟨_, live5 rfl (congrArg Value.bool (by simp only [hRow, *, bls, cond_true, cond_false, if_true, if_false, Bool.false_eq_true, decide_true, decide_false])) rfl rfl rfl⟩ (fun _ hw => hw)))))))))))
   refine s_want rfl rfl h61 (s_val (v_mvI rfl) (s_want rfl rfl h61 (s_val (v_mvI rfl) (s_want rfl rfl h61 (s_val (v_fd 24 (by kernel_rfl) rfl) (s_want rfl rfl h61 (s_val (v_ixA 4 (by kernel_rfl) rfl rfl (by assumption)) (s_want rfl rfl h61 (s_val (v_ixA 1 (by kernel_rfl) rfl rfl (by assumption)) (s_want rfl rfl h61 (s_val (v_ldI (by kernel_rfl) rfl .here (H.at_lim _ (by assumption) (by assumption))) (s_want rfl rfl h61 (s_call (by kernel_rfl) (fun w hw => gr_within _ _ _ w) (s_val (v_pickT (v := .bool _) rfl h61 rfl) (s_val (v_asB rfl) (s_end (n_cut ⟨_, live5 rfl (congrArg Value.bool (by simp only [hRow, *, bls, cond_true, cond_false, if_true, if_false, Bool.false_eq_true, decide_true, decide_false])) rfl rfl rfl⟩ (fun _ hw => hw))))))))))))))))))
 rintro _ ⟨g, rfl⟩
 refine n_bnormal (n_then (r_list (by kernel_rfl) (s_val (v_add rfl rfl (by omega)) (s_val (v_mvI rfl) (s_end (n_round (m + 1) ⟨_, (by omega), live5 rfl rfl rfl rfl rfl⟩ (fun _ hw => hw) (by omega)))))))
end Go.Proofs.YtmkboljfbmlebacGreat
namespace Go.Proofs.YtmkboljfbmlebacGreat
open Go.RowKit
set_option linter.unusedSimpArgs false
set_option linter.unusedVariables false
theorem Has.perm {w0 w : World} {F : Addr → Value → Prop} {L L' : List (Nat × Obj)} (h : Has w0 F L w) (hp : L.Perm L') : Has w0 F L' w :=
 ⟨h.1, (hp.map _).nodup_iff.1 h.2.1, fun p hq => h.2.2.1 p (hp.mem_iff.2 hq), fun a v hF => ⟨(h.2.2.2 a v hF).1, fun hm => (h.2.2.2 a v hF).2 ((hp.map _).mem_iff.2 hm)⟩⟩
theorem Has.sub {w0 w : World} {F : Addr → Value → Prop} {L L' : List (Nat × Obj)} (h : Has w0 F L w) (hs : L'.Sublist L) : Has w0 F L' w :=
 ⟨h.1, (hs.map _).nodup h.2.1, fun p hq => h.2.2.1 p (hs.subset hq), fun a v hF => ⟨(h.2.2.2 a v hF).1, fun hm => (h.2.2.2 a v hF).2 ((hs.map _).subset hm)⟩⟩
theorem Has.right {w0 w : World} {F : Addr → Value → Prop} {E L : List (Nat × Obj)} (h : Has w0 F (E ++ L) w) : Has w0 F L w := h.sub (List.sublist_append_right _ _)
theorem Look.app {E L : List (Nat × Obj)} {b : Nat} {o : Obj} (h : Look L b o) : Look (E ++ L) b o := by
 induction E with
 | nil => exact h
 | cons p r ih => exact .there ih
theorem Turn.app {E L L' : List (Nat × Obj)} {b : Nat} {o o' : Obj} (h : Turn L b o o' L') : Turn (E ++ L) b o o' (E ++ L') := by
 induction E with
 | nil => exact h
 | cons p r ih => exact .there ih
def NewBlocks (w w' : World) (E : List (Nat × Obj)) : Prop := (E.map (·.1)).Nodup ∧ ∀ p ∈ E, w.heap.size ≤ p.1 ∧ w'.heap[p.1]? = some p.2
theorem Has.gain {w0 w w' : World} {F : Addr → Value → Prop} {E L : List (Nat × Obj)} (h : Has w0 F L w) (hb : Bel w.heap.size w w') (hE : NewBlocks w w' E) : Has w0 F (E ++ L) w' := by
 have h' := h.below hb
 refine ⟨h'.1, ?_, ?_, ?_⟩
 · rw [List.map_append, List.nodup_append]
   refine ⟨hE.1, h.2.1, fun a ha b hb' e => ?_⟩
   subst e
   obtain ⟨p, hp, rfl⟩ := List.mem_map.1 ha
   obtain ⟨q, hq, e⟩ := List.mem_map.1 hb'
   have h1 := (hE.2 p hp).1
   have h2 := (Array.getElem?_eq_some_iff.1 (h.2.2.1 q hq).2).1
   omega
 · intro p hp
   rcases List.mem_append.1 hp with hp | hp
   · exact ⟨Nat.le_trans h.1.size (hE.2 p hp).1, (hE.2 p hp).2⟩
   · exact h'.2.2.1 p hp
 · intro a v hF
   refine ⟨(h'.2.2.2 a v hF).1, ?_⟩
   rw [List.map_append, List.mem_append]
   rintro (hm | hm)
   · obtain ⟨p, hp, e⟩ := List.mem_map.1 hm
     have h1 := (hE.2 p hp).1
     have h2 := cell_lt (h.2.2.2 a v hF).1
     omega
   · exact (h'.2.2.2 a v hF).2 hm
def Knows (F : Addr → Value → Prop) (E : List (Nat × Obj)) : Prop := ∀ b cs t fr, (b, Obj.cells cs t fr) ∈ E → ∀ (j : Nat) (v : Value), cs[j]? = some v → F ⟨b, j, none⟩ v
theorem Has.forget {w0 w : World} {F : Addr → Value → Prop} {E L : List (Nat × Obj)} (h : Has w0 F (E ++ L) w) : Has w0 (Out L w) L w ∧ More F (Out L w) ∧ Knows (Out L w) E := by
 refine ⟨⟨h.1, h.right.2.1, h.right.2.2.1, fun a v hF => hF⟩, fun a v hF => h.right.2.2.2 a v hF, fun b cs t fr hm j v hv => ⟨?_, ?_⟩⟩
 · rw [cell_of_row w b j cs t fr (h.2.2.1 _ (List.mem_append_left _ hm)).2]; exact hv
 · have hn := h.2.1
   rw [List.map_append, List.nodup_append] at hn
   exact fun hm' => hn.2.2 b (List.mem_map_of_mem (f := (·.1)) hm) b hm' rfl
def ListE (e m : Nat) (v : Value) (n : Nat) (xs : List Value) (E : List (Nat × Obj)) : Prop :=
 xs.length = n * m ∧ ((v = .slice none 0 0 ∧ n = 0 ∧ E = []) ∨
   ∃ g cap cur, v = .slice (some ⟨g, 0, none⟩) n cap ∧ E = [(g, .cells cur e (0, 0))] ∧ n ≤ cap ∧ cap ≤ maxLen ∧ cur.size = cap * m ∧ cur.toList.take (n * m) = xs)
theorem listE_nil (e m : Nat) : ListE e m (.slice none 0 0) 0 [] [] := ⟨by simp, .inl ⟨rfl, rfl, rfl⟩⟩
theorem ListE.shape {e m n : Nat} {v : Value} {xs : List Value} {E : List (Nat × Obj)} (h : ListE e m v n xs E) : ∃ a c, v = .slice a n c := by
 rcases h.2 with ⟨rfl, rfl, _⟩ | ⟨g, cap, cur, rfl, _⟩
 · exact ⟨none, 0, rfl⟩
 · exact ⟨_, _, rfl⟩
def rowB (P : Program) (T e m by_ : Nat) : Bool := match P.underlying T with
 | some (.slice e') => Nat.beq e' e && (match P.info? e with | some i => Nat.beq i.size m && Nat.beq i.bytes by_ && (match i.zero with | some z => Nat.beq z.cells.size m | _ => false) | none => false)
 | _ => false
theorem rowB_spec {P : Program} {T e m by_ : Nat} (h : rowB P T e m by_ = true) : ∃ i z, P.underlying T = some (.slice e) ∧ P.info? e = some i ∧ i.size = m ∧ i.bytes = by_ ∧ i.zero = some z ∧ z.cells.size = m := by
 unfold rowB at h
 split at h
 · rename_i e' hu
   simp only [Bool.and_eq_true] at h
   obtain ⟨h1, h2⟩ := h
   have := Nat.eq_of_beq_eq_true h1
   subst this
   split at h2
   · rename_i i hi
     simp only [Bool.and_eq_true] at h2
     obtain ⟨⟨h3, h4⟩, h5⟩ := h2
     split at h5
     · rename_i z hz
       exact ⟨i, z, hu, hi, Nat.eq_of_beq_eq_true h3, Nat.eq_of_beq_eq_true h4, hz, Nat.eq_of_beq_eq_true h5⟩
     · cases h5
   · cases h2
 · cases h
section
variable {P : Program} {ops : Array Oper} {K : (Nat → Value) → World → Prop} {rest : List Oper} {f : Nat → Value} {d : Nat} {ty : TypeId} {pos : String} {af : Array Edge} {w0 : World} {F : Addr → Value → Prop} {E L : List (Nat × Obj)}
theorem s_build1 {T e m by_ : Nat} {x : Operand} {v : Value} (hT : rowB P T e m by_ = true) (hm : (Nat.ble 1 m && Nat.ble m 1000) = true) (hx : ev f x = v) (hs : v.cells.size = m)
   (hz : ∀ z : Array Value, z.size = m → Instr.fill (fun i => some (i * m, m)) ((Array.range (1 * m)).map (z[· % z.size]!)) [(0, v)] = some v.cells)
   (kk : ∀ b, sC P ops K rest (upd f d (.slice (some ⟨b, 0, none⟩) 1 1)) (Has w0 F ((b, .cells v.cells e) :: L))) :
   sC P ops K (⟨some d, .buildSlice T 1 #[(0, x)], ty, pos, af, none⟩ :: rest) f (Has w0 F L) := by
 intro w hw
 obtain ⟨i, z, hu, hi, h1, h2, h3, h4⟩ := rowB_spec hT
 simp only [Bool.and_eq_true, Nat.ble_eq] at hm
 have : (Instr.buildSlice T 1 #[(0, v)]).run P w = .ok (.slice (some ⟨w.heap.size, 0, none⟩) 1 1) (w.alloc (.cells v.cells e)) := by
   have hsmall : ¬ (2 ^ 24 < 1 * i.size) := by rw [h1]; omega
   have hpos : ¬ 1 * i.size = 0 := by rw [h1]; omega
   simp [Instr.buildSlice, run_underlying hu, sizeOf, typeInfo, zeroValue, hi, h3, newRow]
   rw [h1]
   have hz' := hz z.cells h4
   rw [Nat.one_mul] at hz'
   rw [if_neg (show ¬ 16777216 < m by omega), if_neg (show ¬ m = 0 by omega)]
   simp [hz']
 unfold sw
 rw [if_pos wanted_free]
 unfold opk
 have hr : (execOp (ev f) ⟨some d, .buildSlice T 1 #[(0, x)], ty, pos, af, none⟩).run P w = .ok (.value (.slice (some ⟨w.heap.size, 0, none⟩) 1 1)) (w.alloc (.cells v.cells e)) := by
   simp [execOp, hx, this]
 rw [hr]
 exact kk _ _ (hw.alloc _)
theorem fill_scalar {v : Value} (h : v.cells = #[v]) (z : Array Value) (hz : z.size = 1) : Instr.fill (fun i => some (i * 1, 1)) ((Array.range (1 * 1)).map (z[· % z.size]!)) [(0, v)] = some v.cells := by
 have : (Array.range (1 * 1)).map (z[· % z.size]!) = #[z[0]!] := by
   have : Array.range (1 * 1) = #[0] := rfl
   rw [this]; simp [hz]
 rw [this]
 simp [Instr.fill, h]
theorem all_scalar {v : Value} (h : v.cells = #[v]) (h1 : v.oneCell' = true) : v.cells.all (·.oneCell') = true := by rw [h]; simp [h1]
theorem run_appendE {w : World} {T e m by_ n mm c : Nat} {ty : TypeId} {v : Value} {xs news : List Value} {b o : Nat} (hT : rowB P T e m by_ = true) (hm : 0 < m) (hE : ListE e m v n xs E) (hw : Has w0 F (E ++ L) w)
   (hl : news.length = mm * m) (hnews : ∀ j u, news[j]? = some u → w.cell? ⟨b, o + j, none⟩ = some u) (h1 : ∀ u ∈ news, u.oneCell' = true) (hpos : 0 < mm) (hbytes : (n + mm) * by_ ≤ 140737488355328) (hbb : 0 < by_) :
   ∃ v' E' w', (Builtin.append_ #[T, T] ty #[v, .slice (some ⟨b, o, none⟩) mm c]).run P w = .ok v' w' ∧ ListE e m v' (n + mm) (xs ++ news) E' ∧ Has w0 F (E' ++ L) w' := by
 obtain ⟨i, z, hu, hi, hs, hby, hz, hzs⟩ := rowB_spec hT
 subst hs
 subst hby
 have hle : n + mm ≤ 140737488355328 := Nat.le_trans (Nat.le_mul_of_pos_right _ hbb) hbytes
 have h63 : n + mm ≤ maxLen := by simp only [maxLen]; omega
 have hnews' : ∀ j u, news[j]? = some u → w.cell? ((⟨b, o, none⟩ : Addr).add j) = some u := fun j u hu => by rw [add_off]; exact hnews j u hu
 have hlen : (xs ++ news).length = (n + mm) * i.size := by rw [List.length_append, hE.1, hl, Nat.add_mul]
 have new : ∀ old, old < n + mm → ListE e i.size (.slice (some ⟨w.heap.size, 0, none⟩) (n + mm) (grownCap w (n + mm) old e)) (n + mm) (xs ++ news)
     [(w.heap.size, .cells (xs.toArray ++ news.toArray ++ Builtin.zeroCells z.cells (grownCap w (n + mm) old e - (n + mm))) e)] := by
   intro old ho
   have hge := grownCap_ge w (n + mm) old e
   have hcm : grownCap w (n + mm) old e ≤ maxLen := grownCap_le_maxLen w (n + mm) old e h63
   refine ⟨hlen, .inr ⟨_, _, _, rfl, rfl, hge, hcm, ?_, ?_⟩⟩
   · simp only [Array.size_append, List.size_toArray, size_zeroCells, hzs, hE.1, hl, ← Nat.add_mul]
     congr 1
     omega
   · simp only [Array.toList_append, List.append_assoc]
     rw [← List.append_assoc, ← hlen]
     exact List.take_left
 have hnewW : ∀ o, Has w0 F ((w.heap.size, o) :: L) (w.drew.alloc o) := fun o => hw.right.drew.alloc o
 rcases hE.2 with ⟨rfl, rfl, rfl⟩ | ⟨g, cap, cur, rfl, rfl, hnc, hcm, hcs, htake⟩
 · have hx : xs = [] := List.eq_nil_of_length_eq_zero (by simpa using hE.1)
   subst hx
   have hr := run_append_nil (P := P) w T ty e i z hu hi hz ⟨b, o, none⟩ mm c news hl hnews' hpos (by omega) (by simp only [Nat.zero_add] at hbytes; omega)
   have hn := new 0 (by omega)
   simp only [Nat.zero_add, List.nil_append, Array.empty_append] at hn hr ⊢
   exact ⟨_, _, _, hr, hn, hnewW _⟩
 · have hg : w.heap[g]? = some (.cells cur e (0, 0)) := hw.look .here
   by_cases hroom : n + mm ≤ cap
   · have hfit : n * i.size + news.length ≤ cur.size := by rw [hl, hcs, ← Nat.add_mul]; exact Nat.mul_le_mul_right _ hroom
     have hr := run_append_room (P := P) w T ty e i hu hi g n cap cur hg ⟨b, o, none⟩ mm c news hl hnews' h1 hroom hfit
     refine ⟨_, [(g, .cells (cur.toList.take (n * i.size) ++ news ++ cur.toList.drop (n * i.size + news.length)).toArray e (0, 0))], _, hr, ⟨hlen, .inr ⟨g, cap, _, rfl, rfl, hroom, hcm, ?_, ?_⟩⟩, ?_⟩
     · simp only [List.size_toArray, List.length_append, List.length_take, List.length_drop, Array.length_toList]
       omega
     · rw [htake, ← hlen]
       exact List.take_left
     · exact hw.turn (L' := _ :: L) .here rfl rfl rfl (by simp) (setRow_heap w g cur _ e _ hg) (fun k hk => setRow_other w g k _ hk)
   · have holds : ∀ j u, xs[j]? = some u → w.cell? ((⟨g, 0, none⟩ : Addr).add j) = some u := fun j u hu => by
       rw [add_off, Nat.zero_add, cell_of_row w g j cur e (0, 0) hg]
       rw [← htake, List.getElem?_take] at hu
       split at hu
       · simpa using hu
       · cases hu
     have hr := run_append_grow (P := P) w T ty e i z hu hi hz ⟨g, 0, none⟩ n cap xs hE.1 holds ⟨b, o, none⟩ mm c news hl hnews' (by omega) (by omega) (growslice_fits (by omega) hbytes)
     exact ⟨_, _, _, hr, new cap (by omega), hnewW _⟩
theorem s_push {T e m by_ n : Nat} {ats : Array TypeId} {x y : Operand} {v : Value} {xs : List Value} {b : Nat} {cs : Array Value} (hT : rowB P T e m by_ = true) (hm : Nat.ble 1 m = true) (hbb : Nat.ble 1 by_ = true) (hat : ats = #[T, T])
   (hx : ev f x = v) (hy : ev f y = .slice (some ⟨b, 0, none⟩) 1 1) (hE : ListE e m v n xs E) (hs : cs.size = m) (h1 : cs.all (·.oneCell') = true) (hbytes : (n + 1) * by_ ≤ 140737488355328)
   (kk : ∀ v' E', ListE e m v' (n + 1) (xs ++ cs.toList) E' → sC P ops K rest (upd f d v') (Has w0 F (E' ++ L))) :
   sC P ops K (⟨some d, .call ⟨.builtin .append, #[x, y], ats⟩, ty, pos, af, none⟩ :: rest) f (Has w0 F ((b, .cells cs e) :: (E ++ L))) := by
 intro w hw
 subst hat
 unfold sw
 rw [if_pos wanted_free]
 unfold opk
 obtain ⟨v', E', w', hr, hE', hw'⟩ := run_appendE (P := P) (w0 := w0) (F := F) (L := L) (c := 1) (ty := ty) (b := b) (o := 0) (mm := 1) (news := cs.toList) hT (Nat.le_of_ble_eq_true hm) hE hw.tail (by simp [hs]) (fun j u hj => by
   rw [Nat.zero_add, cell_has hw .here]; simpa using hj) (fun u hu => by rw [Array.all_eq_true_iff_forall_mem] at h1; exact h1 u (by simpa using hu)) (by omega) hbytes (Nat.le_of_ble_eq_true hbb)
 have : (execOp (ev f) ⟨some d, .call ⟨.builtin .append, #[x, y], #[T, T]⟩, ty, pos, af, none⟩).run P w = .ok (.value v') w' := by
   simp [execOp, resolve, invoke, builtin, hx, hy, hr]
 rw [this]
 exact kk v' E' hE' w' hw'
end
structure GivesE (P : Program) (k : FuncId) (args : List Value) (w : World) (R : Value → List (Nat × Obj) → Prop) : Prop where
 out : Calls P k args.toArray w fun e w' => ∃ v E, e = .returned v ∧ Bel w.heap.size w w' ∧ NewBlocks w w' E ∧ R v E
theorem GivesE.mono {P : Program} {k : FuncId} {args : List Value} {w : World} {R R' : Value → List (Nat × Obj) → Prop} (h : GivesE P k args w R) (hr : ∀ v E, R v E → R' v E) : GivesE P k args w R' :=
 ⟨h.out.mono fun e w' ⟨v, E, h1, h2, h3, h4⟩ => ⟨v, E, h1, h2, h3, hr v E h4⟩⟩
theorem givesE_of {P : Program} {k : FuncId} {fn : Func} {c : Code} {n : Nat} {args : List Value} {w : World} {R : Value → List (Nat × Obj) → Prop}
   (hf : P.funcs[k]? = some fn) (hb : fn.body = some c) (hn : fn.ntmps = n) (hl : args.length ≤ n)
   (h : cC P n c (retQ P fn n (fun v w' => ∃ E, Bel w.heap.size w w' ∧ NewBlocks w w' E ∧ R v E)) (argF args) (Has w (At w) [])) : GivesE P k args w R :=
 ⟨(givesR_of hf hb hn hl h).out.mono fun e w' ⟨v, he, E, h1, h2, h3⟩ => ⟨v, E, he, h1, h2, h3⟩⟩
theorem Has.new {w0 w : World} {F : Addr → Value → Prop} {E L : List (Nat × Obj)} (h : Has w0 F (E ++ L) w) : NewBlocks w0 w E :=
 ⟨(h.sub (List.sublist_append_left _ _)).2.1, (h.sub (List.sublist_append_left _ _)).2.2.1⟩
section
variable {P : Program} {ops : Array Oper} {K : (Nat → Value) → World → Prop} {rest : List Oper} {f : Nat → Value} {d : Nat} {ty : TypeId} {pos : String} {af : Array Edge} {w0 : World} {F : Addr → Value → Prop} {L : List (Nat × Obj)}
theorem s_callE {k : FuncId} {xs : List Operand} {ats : Array TypeId} {R : Value → List (Nat × Obj) → Prop} (hk : hasBody P k = true) (hg : ∀ w, Has w0 F L w → GivesE P k (xs.map (ev f)) w R)
   (kk : ∀ (v : Value) (E : List (Nat × Obj)), R v E → sC P ops K rest (upd f d v) (Has w0 F (E ++ L))) :
   sC P ops K (⟨some d, .call ⟨.value (.func k), xs.toArray, ats⟩, ty, pos, af, none⟩ :: rest) f (Has w0 F L) := by
 intro w hw
 unfold sw
 rw [if_pos wanted_free]
 unfold opk
 rw [run_call hk w]
 refine (hg w hw).out.mono fun e w' ⟨v, E, he, hb, hn, hr⟩ => ⟨_, he, ?_⟩
 exact kk v E hr w' (hw.gain hb hn)
theorem s_callF {k : FuncId} {xs : List Operand} {ats : Array TypeId} {R : Value → List (Nat × Obj) → Prop} (hk : hasBody P k = true) (hg : ∀ w, Has w0 F L w → GivesE P k (xs.map (ev f)) w R)
   (kk : ∀ (F' : Addr → Value → Prop) (v : Value) (E : List (Nat × Obj)), More F F' → Knows F' E → R v E → sC P ops K rest (upd f d v) (Has w0 F' L)) :
   sC P ops K (⟨some d, .call ⟨.value (.func k), xs.toArray, ats⟩, ty, pos, af, none⟩ :: rest) f (Has w0 F L) := by
 intro w hw
 unfold sw
 rw [if_pos wanted_free]
 unfold opk
 rw [run_call hk w]
 refine (hg w hw).out.mono fun e w' ⟨v, E, he, hb, hn, hr⟩ => ⟨_, he, ?_⟩
 obtain ⟨h1, h2, h3⟩ := (hw.gain hb hn).forget
 exact kk _ v E h2 h3 hr w' h1
end
theorem n_doneE {P : Program} {fn : Func} {n t : Nat} {f : Nat → Value} {w0 : World} {F : Addr → Value → Prop} {E L : List (Nat × Obj)} {R : Value → List (Nat × Obj) → Prop} (hr : fn.results = #[.tmp t]) (ht : t < n) (hv : R (f t) E) :
   nC (retQ P fn n (fun v w' => ∃ E, Bel w0.heap.size w0 w' ∧ NewBlocks w0 w' E ∧ R v E)) .ret f (Has w0 F (E ++ L)) :=
 fun w hw => ⟨f t, results_one hr ht w, E, hw.1, hw.new, hv⟩
theorem n_doneCE {P : Program} {fn : Func} {n t T b m ty : Nat} {fr : Nat × Nat} {cs : Array Value} {f : Nat → Value} {w0 : World} {F : Addr → Value → Prop} {L E L' : List (Nat × Obj)} {R : Value → List (Nat × Obj) → Prop} (hr : fn.results = #[.cell t T]) (ht : t < n) (hp : f t = .pointer (some ⟨b, 0, none⟩))
   (hT : aggB P T m = true) (hl : Look L b (.cells cs ty fr)) (hm : cs.size = m) (hE : ∀ w, Has w0 F L w → Has w0 F (E ++ L') w) (hv : R (.agg cs) E) : nC (retQ P fn n (fun v w' => ∃ E, Bel w0.heap.size w0 w' ∧ NewBlocks w0 w' E ∧ R v E)) .ret f (Has w0 F L) := by
 intro w hw
 refine ⟨.agg cs, ?_, E, hw.1, (hE w hw).new, hv⟩
 have e : (Fa n f).tmps[t]?.getD undef = f t := by simp [Fa, ht]
 subst hm
 have := run_loadN (P := P) (w := w) (b := b) (o := 0) (cs := cs.toList) (by simpa using hT) (fun j v hj => by
   rw [cell_has hw hl]; simpa using hj)
 simp only [Instr.loadAt, Instr.sureAddr, Sem.run_bind, Sem.run_pure, Result.andThen] at this
 simp [results, hr, e, hp, asAddr, this]
def Fresh (w w' : World) : Addr → Value → Prop := fun a v => w'.cell? a = some v ∧ w.heap.size ≤ a.block
structure GivesF (P : Program) (k : FuncId) (args : List Value) (w : World) (R : (Addr → Value → Prop) → Value → Prop) : Prop where
 out : Calls P k args.toArray w fun e w' => ∃ v, e = .returned v ∧ Bel w.heap.size w w' ∧ R (Fresh w w') v
def Mono (R : (Addr → Value → Prop) → Value → Prop) : Prop := ∀ F F' v, More F F' → R F v → R F' v
theorem Fresh.out {w0 w w' : World} {F : Addr → Value → Prop} {L : List (Nat × Obj)} (h : Has w0 F L w) : More (Fresh w w') (Out L w') := fun a v ⟨h1, h2⟩ => ⟨h1, fun hm => by
 obtain ⟨p, hp, e⟩ := List.mem_map.1 hm
 have := (Array.getElem?_eq_some_iff.1 (h.2.2.1 p hp).2).1
 omega⟩
theorem knows_fresh {w w' : World} {E : List (Nat × Obj)} (h : NewBlocks w w' E) : Knows (Fresh w w') E := fun b cs t fr hm j v hv =>
 ⟨by rw [cell_of_row w' b j cs t fr (h.2 _ hm).2]; exact hv, (h.2 _ hm).1⟩
theorem GivesE.toF {P : Program} {k : FuncId} {args : List Value} {w : World} {R : Value → List (Nat × Obj) → Prop} {R' : (Addr → Value → Prop) → Value → Prop} (h : GivesE P k args w R) (hr : ∀ F v E, Knows F E → R v E → R' F v) : GivesF P k args w R' :=
 ⟨h.out.mono fun e w' ⟨v, E, h1, h2, h3, h4⟩ => ⟨v, h1, h2, hr _ v E (knows_fresh h3) h4⟩⟩
theorem givesF_of {P : Program} {k : FuncId} {fn : Func} {c : Code} {n : Nat} {args : List Value} {w : World} {R : (Addr → Value → Prop) → Value → Prop}
   (hf : P.funcs[k]? = some fn) (hb : fn.body = some c) (hn : fn.ntmps = n) (hl : args.length ≤ n)
   (h : cC P n c (retQ P fn n (fun v w' => Bel w.heap.size w w' ∧ R (Fresh w w') v)) (argF args) (Has w (At w) [])) : GivesF P k args w R :=
 ⟨(givesR_of hf hb hn hl h).out.mono fun e w' ⟨v, he, h1, h2⟩ => ⟨v, he, h1, h2⟩⟩
def Young (w0 : World) (F : Addr → Value → Prop) : Addr → Value → Prop := fun a v => F a v ∧ w0.heap.size ≤ a.block
theorem s_callG {P : Program} {ops : Array Oper} {K : (Nat → Value) → World → Prop} {rest : List Oper} {f : Nat → Value} {d : Nat} {ty : TypeId} {pos : String} {af : Array Edge} {w0 : World} {F : Addr → Value → Prop} {L : List (Nat × Obj)}
   {k : FuncId} {xs : List Operand} {ats : Array TypeId} {R : (Addr → Value → Prop) → Value → Prop} (hk : hasBody P k = true) (hR : Mono R) (hg : ∀ w, Has w0 F L w → GivesF P k (xs.map (ev f)) w R)
   (kk : ∀ (F' : Addr → Value → Prop) (v : Value), More F F' → R (Young w0 F') v → sC P ops K rest (upd f d v) (Has w0 F' L)) :
   sC P ops K (⟨some d, .call ⟨.value (.func k), xs.toArray, ats⟩, ty, pos, af, none⟩ :: rest) f (Has w0 F L) := by
 intro w hw
 unfold sw
 rw [if_pos wanted_free]
 unfold opk
 rw [run_call hk w]
 refine (hg w hw).out.mono fun e w' ⟨v, he, hb, hr⟩ => ⟨_, he, ?_⟩
 obtain ⟨h1, h2⟩ := hw.learn hb
 exact kk _ v h2 (hR _ _ v (fun a v h => ⟨Fresh.out hw a v h, Nat.le_trans hw.1.size h.2⟩) hr) w' h1
theorem young_fresh {w0 w : World} {F : Addr → Value → Prop} {L : List (Nat × Obj)} (h : Has w0 F L w) : More (Young w0 F) (Fresh w0 w) := fun a v hy => ⟨(h.2.2.2 a v hy.1).1, hy.2⟩
theorem own_fresh {w0 w : World} {F : Addr → Value → Prop} {E L : List (Nat × Obj)} (h : Has w0 F (E ++ L) w) : Knows (Fresh w0 w) E := knows_fresh h.new
theorem n_doneCF {P : Program} {fn : Func} {n t T b m ty : Nat} {fr : Nat × Nat} {cs : Array Value} {f : Nat → Value} {w0 : World} {F : Addr → Value → Prop} {L : List (Nat × Obj)} {R : (Addr → Value → Prop) → Value → Prop} (hr : fn.results = #[.cell t T]) (ht : t < n) (hp : f t = .pointer (some ⟨b, 0, none⟩))
   (hT : aggB P T m = true) (hl : Look L b (.cells cs ty fr)) (hm : cs.size = m) (hv : ∀ w, Has w0 F L w → R (Fresh w0 w) (.agg cs)) : nC (retQ P fn n (fun v w' => Bel w0.heap.size w0 w' ∧ R (Fresh w0 w') v)) .ret f (Has w0 F L) := by
 intro w hw
 refine ⟨.agg cs, ?_, hw.1, hv w hw⟩
 have e : (Fa n f).tmps[t]?.getD undef = f t := by simp [Fa, ht]
 subst hm
 have := run_loadN (P := P) (w := w) (b := b) (o := 0) (cs := cs.toList) (by simpa using hT) (fun j v hj => by
   rw [cell_has hw hl]; simpa using hj)
 simp only [Instr.loadAt, Instr.sureAddr, Sem.run_bind, Sem.run_pure, Result.andThen] at this
 simp [results, hr, e, hp, asAddr, this]
theorem n_done2F {P : Program} {fn : Func} {n t t2 T b m ty : Nat} {fr : Nat × Nat} {cs : Array Value} {f : Nat → Value} {w0 : World} {F : Addr → Value → Prop} {L : List (Nat × Obj)} {R : (Addr → Value → Prop) → Value → Prop} (hr : fn.results = #[.cell t T, .tmp t2]) (ht : t < n) (ht2 : t2 < n) (hp : f t = .pointer (some ⟨b, 0, none⟩))
   (hT : aggB P T m = true) (hl : Look L b (.cells cs ty fr)) (hm : cs.size = m) (hv : ∀ w, Has w0 F L w → R (Fresh w0 w) (.tuple #[.agg cs, f t2])) : nC (retQ P fn n (fun v w' => Bel w0.heap.size w0 w' ∧ R (Fresh w0 w') v)) .ret f (Has w0 F L) := by
 intro w hw
 refine ⟨.tuple #[.agg cs, f t2], ?_, hw.1, hv w hw⟩
 have e : (Fa n f).tmps[t]?.getD undef = f t := by simp [Fa, ht]
 have e2 : (Fa n f).tmps[t2]?.getD undef = f t2 := by simp [Fa, ht2]
 subst hm
 have := run_loadN (P := P) (w := w) (b := b) (o := 0) (cs := cs.toList) (by simpa using hT) (fun j v hj => by
   rw [cell_has hw hl]; simpa using hj)
 simp only [Instr.loadAt, Instr.sureAddr, Sem.run_bind, Sem.run_pure, Result.andThen] at this
 simp [results, hr, e, e2, hp, asAddr, this]
def IntsIn (F : Addr → Value → Prop) (v : Value) (xs : List Int) : Prop := ∃ a c, v = .slice a xs.length c ∧ (xs = [] ∨ ∃ b o, a = some ⟨b, o, none⟩ ∧ ∀ (j : Nat) (x : Int), xs[j]? = some x → F ⟨b, o + j, none⟩ (I x))
theorem IntsIn.mono {F F' : Addr → Value → Prop} {v : Value} {xs : List Int} (h : IntsIn F v xs) (hm : More F F') : IntsIn F' v xs := by
 obtain ⟨a, c, h1, h2⟩ := h
 refine ⟨a, c, h1, ?_⟩
 rcases h2 with h2 | ⟨b, o, h3, h4⟩
 · exact .inl h2
 · exact .inr ⟨b, o, h3, fun j x hj => hm _ _ (h4 j x hj)⟩
theorem ints_of_list {F : Addr → Value → Prop} {e : Nat} {v : Value} {xs : List Int} {E : List (Nat × Obj)} (h : ListE e 1 v xs.length (xs.map I) E) (hk : Knows F E) : IntsIn F v xs := by
 rcases h.2 with ⟨rfl, h2, rfl⟩ | ⟨g, cap, cur, rfl, rfl, h3, h4, h5, h6⟩
 · have : xs = [] := List.eq_nil_of_length_eq_zero h2
   subst this
   exact ⟨none, 0, rfl, .inl rfl⟩
 · refine ⟨_, _, rfl, .inr ⟨g, 0, rfl, fun j x hj => ?_⟩⟩
   rw [Nat.zero_add]
   refine hk g cur e (0, 0) (by simp) j (I x) ?_
   have e1 : (xs.map I)[j]? = some (I x) := by simp [hj]
   rw [← h6, List.getElem?_take] at e1
   split at e1
   · simpa using e1
   · cases e1
end Go.Proofs.YtmkboljfbmlebacGreat
namespace Go.Proofs.YtmkboljfbmlebacGreat
open Go.RowKit
set_option linter.unusedSimpArgs false
set_option linter.unusedVariables false
def better (ps : List PayS) (best : Int) (p : PayS) : Bool := decide (best < 0) || (match ps[best.toNat]? with
 | some q => decide (p.cls < q.cls) || (decide (p.cls = q.cls) && decide (p.seq < q.seq))
 | none => false)
def wantB (ps : List PayS) (bank : Int) (taken : List Int) (best : Int) (i : Nat) (p : PayS) : Bool := !(!decide (p.sta = 1) || !decide (p.src = bank) || decide ((i : Int) ∈ taken)) && better ps best p
def bestTo (ps : List PayS) (bank : Int) (taken : List Int) : Nat → Int
 | 0 => -1
 | k + 1 => match ps[k]? with
   | some p => bif wantB ps bank taken (bestTo ps bank taken k) k p then k else bestTo ps bank taken k
   | none => bestTo ps bank taken k
theorem best_step {ps : List PayS} {bank : Int} {taken : List Int} {k : Nat} {p : PayS} (h : ps[k]? = some p) : bestTo ps bank taken (k + 1) = bif wantB ps bank taken (bestTo ps bank taken k) k p then (k : Int) else bestTo ps bank taken k := by
 simp only [bestTo, h]
theorem best_range (ps : List PayS) (bank : Int) (taken : List Int) : ∀ k, bestTo ps bank taken k = -1 ∨ (0 ≤ bestTo ps bank taken k ∧ bestTo ps bank taken k < k)
 | 0 => .inl rfl
 | k + 1 => by
   have ih := best_range ps bank taken k
   unfold bestTo
   split
   · cases wantB ps bank taken (bestTo ps bank taken k) k _
     · simp only [cond_false]; omega
     · simp only [cond_true]; omega
   · omega
def Mine (ps : List PayS) (bank : Int) (i : Int) : Prop := 0 ≤ i ∧ ∃ p, ps[i.toNat]? = some p ∧ p.sta = 1 ∧ p.src = bank
theorem best_mine (ps : List PayS) (bank : Int) (taken : List Int) : ∀ k, 0 ≤ bestTo ps bank taken k → Mine ps bank (bestTo ps bank taken k) ∧ bestTo ps bank taken k ∉ taken
 | 0, h => by simp [bestTo] at h
 | k + 1, h => by
   have ih := best_mine ps bank taken k
   revert h
   unfold bestTo
   split
   · rename_i p hp
     cases hw : wantB ps bank taken (bestTo ps bank taken k) k p
     · simp only [cond_false]; exact ih
     · simp only [cond_true]
       intro _
       simp [wantB] at hw
       refine ⟨⟨by omega, p, by simpa using hp, hw.1.1.1, hw.1.1.2⟩, hw.1.2⟩
   · exact ih
def queueTo (ps : List PayS) (bank : Int) : Nat → List Int
 | 0 => []
 | k + 1 => bif decide (0 ≤ bestTo ps bank (queueTo ps bank k) ps.length) then queueTo ps bank k ++ [bestTo ps bank (queueTo ps bank k) ps.length] else queueTo ps bank k
def queueM (ps : List PayS) (bank : Int) : List Int := queueTo ps bank ps.length
theorem queueTo_len (ps : List PayS) (bank : Int) : ∀ k, (queueTo ps bank k).length ≤ k
 | 0 => by simp [queueTo]
 | k + 1 => by
   have := queueTo_len ps bank k
   unfold queueTo
   cases decide (0 ≤ bestTo ps bank (queueTo ps bank k) ps.length)
   · simp only [cond_false]; omega
   · simp only [cond_true, List.length_append, List.length_cons, List.length_nil]; omega
theorem queueTo_yes {ps : List PayS} {bank : Int} {k : Nat} (h : decide (0 ≤ bestTo ps bank (queueTo ps bank k) ps.length) = true) : queueTo ps bank (k + 1) = queueTo ps bank k ++ [bestTo ps bank (queueTo ps bank k) ps.length] := by
 simp only [queueTo, h, cond_true]
theorem queueTo_no {ps : List PayS} {bank : Int} {k : Nat} (h : decide (0 ≤ bestTo ps bank (queueTo ps bank k) ps.length) = false) : queueTo ps bank (k + 1) = queueTo ps bank k := by
 simp only [queueTo, h, cond_false]
def H.core (h : H) : H := { h with pa := none, pl := 0, pc := 0 }
def settles (ps : List PayS) (n : Int) : Option PayS := if 0 ≤ n then (match ps[n.toNat]? with | some p => if p.sta = 1 then some p else none | none => none) else none
def settleC (h : H) (ps : List PayS) (n : Int) : H := match settles ps n with | some p => moveM h p.src p.dst p.amt | none => h
def settleP (ps : List PayS) (n : Int) : List PayS := match settles ps n with | some p => ps.set n.toNat { p with sta := 2 } | none => ps
theorem core_move (h : H) (a b n : Int) : (moveM h a b n).core = moveM h.core a b n := by
 unfold moveM
 split <;> rfl
end Go.Proofs.YtmkboljfbmlebacGreat
namespace Go.Proofs.YtmkboljfbmlebacGreat
open Go.RowKit
set_option linter.unusedSimpArgs false
set_option linter.unusedVariables false
def CellsOf (cs : Array Value) (ps : List PayS) : Prop := ∀ (j : Nat) (p : PayS), ps[j]? = some p → ∀ (k : Nat) (v : Value), p.cells[k]? = some v → cs[j * 6 + k]? = some v
def PaysE (pa : Option Addr) (pl pc : Nat) (ps : List PayS) (E : List (Nat × Obj)) : Prop :=
 ps.length = pl ∧ pl ≤ pc ∧ ((pa = none ∧ pl = 0 ∧ pc = 0 ∧ E = []) ∨ ∃ b t cs, pa = some ⟨b, 0, none⟩ ∧ E = [(b, .cells cs t (0, 0))] ∧ cs.size = pc * 6 ∧ CellsOf cs ps)
theorem PaysE.known {F : Addr → Value → Prop} {pa : Option Addr} {pl pc : Nat} {ps : List PayS} {E : List (Nat × Obj)} (h : PaysE pa pl pc ps E) (hk : Knows F E) : PaysIn F pa pl ps := by
 refine ⟨h.1, ?_⟩
 rcases h.2.2 with ⟨_, h0, _⟩ | ⟨b, t, cs, rfl, rfl, h1, h2⟩
 · exact .inl h0
 · refine .inr ⟨b, 0, rfl, fun j p hj k v hv => ?_⟩
   rw [Nat.zero_add]
   exact hk b cs t (0, 0) (by simp) _ _ (h2 j p hj k v hv)
theorem PaysE.some {pa : Option Addr} {pl pc : Nat} {ps : List PayS} {E : List (Nat × Obj)} (h : PaysE pa pl pc ps E) (h0 : 0 < pl) : ∃ b t cs, pa = some ⟨b, 0, none⟩ ∧ E = [(b, .cells cs t (0, 0))] ∧ cs.size = pc * 6 ∧ CellsOf cs ps := by
 rcases h.2.2 with ⟨_, h1, _⟩ | h
 · omega
 · exact h
theorem CellsOf.extract {cs : Array Value} {ps : List PayS} (h : CellsOf cs ps) {j : Nat} {p : PayS} (hj : ps[j]? = some p) (hs : j * 6 + 6 ≤ cs.size) : cs.extract (0 + j * 6) (0 + j * 6 + 6) = p.cells := by
 apply Array.ext
 · simp [PayS.cells]; omega
 · intro i h1 h2
   have h3 : i < 6 := by simpa [PayS.cells] using h2
   have := h j p hj i _ (Array.getElem?_eq_getElem h2)
   rw [Array.getElem_extract]
   rw [Array.getElem?_eq_some_iff] at this
   obtain ⟨_, e⟩ := this
   simp only [Nat.zero_add]
   exact e
theorem CellsOf.settled {cs : Array Value} {ps : List PayS} (h : CellsOf cs ps) {n : Nat} {p : PayS} (hn : ps[n]? = some p) : CellsOf (cs.setIfInBounds (0 + n * 6 + 4) (I 2)) (ps.set n { p with sta := 2 }) := by
 intro j q hj k v hv
 have hk : k < 6 := by
   rcases Nat.lt_or_ge k 6 with h | h
   · exact h
   · rw [Array.getElem?_eq_none (by simpa [PayS.cells] using h)] at hv; cases hv
 rw [Nat.zero_add]
 rw [List.getElem?_set] at hj
 split at hj
 · rename_i e
   subst e
   split at hj
   · simp at hj
     subst hj
     have h6 : k = 0 ∨ k = 1 ∨ k = 2 ∨ k = 3 ∨ k = 4 ∨ k = 5 := by omega
     have hz := fun k v => h n p hn k v
     rcases h6 with rfl | rfl | rfl | rfl | rfl | rfl
     case inr.inr.inr.inr.inl =>
       have := hz 4 _ rfl
       simp [PayS.cells] at hv
       subst hv
       rw [Array.getElem?_setIfInBounds_self_of_lt (Array.getElem?_eq_some_iff.1 this).1]
     all_goals
       rw [Array.getElem?_setIfInBounds_ne (by omega)]
       exact hz _ _ hv
   · cases hj
 · rename_i e
   rw [Array.getElem?_setIfInBounds_ne (by omega)]
   exact h j q hj k v hv
theorem look_fresh {w0 w : World} {F : Addr → Value → Prop} {L : List (Nat × Obj)} {b t : Nat} {fr : Nat × Nat} {cs : Array Value} (hw : Has w0 F L w) (hl : Look L b (.cells cs t fr)) : Knows (Fresh w0 w) [(b, .cells cs t fr)] := by
 intro b' cs' t' fr' hm j v hv
 simp at hm
 obtain ⟨rfl, rfl, rfl, rfl⟩ := hm
 exact ⟨(cell_has hw hl).trans hv, (hw.2.2.1 _ hl.mem).1⟩
theorem own_pays {w0 w : World} {F : Addr → Value → Prop} {L : List (Nat × Obj)} {b t pl : Nat} {fr : Nat × Nat} {cs : Array Value} {ps : List PayS} (hw : Has w0 F L w) (hl : Look L b (.cells cs t fr)) (hp : ps.length = pl) (hc : CellsOf cs ps) : PaysIn (Fresh w0 w) (some ⟨b, 0, none⟩) pl ps :=
 ⟨hp, .inr ⟨b, 0, rfl, fun j p hj k v hv => by rw [Nat.zero_add]; exact look_fresh hw hl b cs t fr (by simp) _ _ (hc j p hj k v hv)⟩⟩
def HouseF (h0 : H) (ps0 : List PayS) (c : H) (ps : List PayS) (F : Addr → Value → Prop) (v : Value) : Prop :=
 ∃ h : H, v = .agg h.cells ∧ h.core = c ∧ h.pl ≤ h.pc ∧ ((h.pa = h0.pa ∧ h.pl = h0.pl ∧ ps = ps0) ∨ PaysIn F h.pa h.pl ps)
theorem houseF_mono (h0 : H) (ps0 : List PayS) (c : H) (ps : List PayS) : Mono (HouseF h0 ps0 c ps) := by
 rintro F F' v hm ⟨h, h1, h2, h3, h4⟩
 refine ⟨h, h1, h2, h3, ?_⟩
 rcases h4 with h4 | h4
 · exact .inl h4
 · exact .inr (h4.mono hm)
theorem more_young (w0 : World) (F : Addr → Value → Prop) : More (Young w0 F) F := fun _ _ h => h.1
theorem young_mono {w0 : World} {F F' : Addr → Value → Prop} (h : More F F') : More (Young w0 F) (Young w0 F') := fun _ _ hy => ⟨h _ _ hy.1, hy.2⟩
theorem move_pa (h : H) (a b n : Int) : (moveM h a b n).pa = h.pa := by unfold moveM; split <;> rfl
theorem move_pc (h : H) (a b n : Int) : (moveM h a b n).pc = h.pc := by unfold moveM; split <;> rfl
theorem settles_of {ps : List PayS} {n : Int} {p : PayS} (h0 : 0 ≤ n) (hp : ps[n.toNat]? = some p) (hs : p.sta = 1) : settles ps n = some p := by simp [settles, h0, hp, hs]
theorem settles_out {ps : List PayS} {n : Int} (h : ¬ (0 ≤ n ∧ n < ps.length)) : settles ps n = none := by
 unfold settles
 split
 · rename_i h0
   have : ps[n.toNat]? = none := by simp; omega
   rw [this]
 · rfl
theorem settles_not {ps : List PayS} {n : Int} {p : PayS} (hp : ps[n.toNat]? = some p) (hs : ¬ p.sta = 1) : settles ps n = none := by
 unfold settles
 split
 · simp only [hp, if_neg hs]
 · rfl
end Go.Proofs.YtmkboljfbmlebacGreat
