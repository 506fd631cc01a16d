/- What the laws of this place stand on, part 2. Each part names its own conditions in what it states. -/
import Derived.Test.YtmkboljfbmlebacQ1
import Derived.Laws.Tables
import Derived.Great.BuildSlice
namespace Go.Proofs.Ytmkboljfbmlebac
open Go.RowKit
set_option linter.unusedSimpArgs false
set_option linter.unusedVariables false
def flatC (ps : List PayS) : List Value := ps.flatMap fun p => p.cells.toList
theorem flatC_length (ps : List PayS) : (flatC ps).length = ps.length * 6 := by
 induction ps with
 | nil => rfl
 | cons p r ih => simp only [flatC, List.flatMap_cons, List.length_append, List.length_cons] at *; rw [ih]; simp [PayS.cells]; omega
theorem flatC_get : ∀ (ps : List PayS) (j : Nat) (p : PayS), ps[j]? = some p → ∀ (k : Nat) (v : Value), p.cells[k]? = some v → (flatC ps)[j * 6 + k]? = some v
 | [], j, p, h, _, _, _ => by simp at h
 | q :: r, j, p, h, k, v, hv => by
   have hk : k < 6 := by
     rcases Nat.lt_or_ge k 6 with h | h
     · exact h
     · rw [Array.getElem?_eq_none (by simpa [PayS.cells] using h)] at hv; cases hv
   have hl : q.cells.toList.length = 6 := by simp [PayS.cells]
   cases j with
   | zero =>
     simp at h; subst h
     simp only [flatC, List.flatMap_cons, Nat.zero_mul, Nat.zero_add]
     rw [List.getElem?_append_left (by rw [hl]; exact hk)]
     simpa using hv
   | succ j =>
     simp only [List.getElem?_cons_succ] at h
     simp only [flatC, List.flatMap_cons]
     rw [List.getElem?_append_right (by rw [hl]; omega), hl, show (j + 1) * 6 + k - 6 = j * 6 + k by omega]
     exact flatC_get r j p h k v hv
theorem flatC_inv : ∀ (ps : List PayS) (i : Nat) (v : Value), (flatC ps)[i]? = some v → ∃ p, ps[i / 6]? = some p ∧ p.cells[i % 6]? = some v
 | [], i, v, h => by simp [flatC] at h
 | q :: r, i, v, h => by
   have hl : q.cells.toList.length = 6 := by simp [PayS.cells]
   simp only [flatC, List.flatMap_cons] at h
   by_cases hi : i < 6
   · rw [List.getElem?_append_left (by rw [hl]; exact hi)] at h
     exact ⟨q, by rw [Nat.div_eq_of_lt hi]; rfl, by rw [Nat.mod_eq_of_lt hi]; simpa using h⟩
   · rw [List.getElem?_append_right (by rw [hl]; omega), hl] at h
     obtain ⟨p, h1, h2⟩ := flatC_inv r (i - 6) v h
     refine ⟨p, ?_, ?_⟩
     · rw [show i / 6 = (i - 6) / 6 + 1 by omega]; simpa using h1
     · rw [show i % 6 = (i - 6) % 6 by omega]; exact h2
def paySliceB (P : Program) (T : TypeId) : Bool := match P.underlying T with
 | some (.slice e) => sizeB P e 6 && (match P.info? e with | some i => Nat.beq i.bytes 48 && (match i.zero with | some (.agg z) => Nat.beq z.size 6 | _ => false) | none => false)
 | _ => false
def payElem (P : Program) (T : TypeId) : TypeId := match P.underlying T with
 | some (.slice e) => e
 | _ => 0
theorem paySliceB_spec {P : Program} {T : TypeId} (h : paySliceB P T = true) : ∃ i z, P.underlying T = some (.slice (payElem P T)) ∧ sizeB P (payElem P T) 6 = true ∧ P.info? (payElem P T) = some i ∧ i.bytes = 48 ∧ i.zero = some (.agg z) ∧ z.size = 6 := by
 unfold paySliceB at h
 unfold payElem
 split at h
 · rename_i e hu
   rw [hu]
   simp only [Bool.and_eq_true] at h
   obtain ⟨h1, h2⟩ := h
   split at h2
   · rename_i i hi
     simp only [Bool.and_eq_true] at h2
     obtain ⟨h3, h4⟩ := h2
     split at h4
     · rename_i z hz
       exact ⟨i, z, rfl, h1, hi, Nat.eq_of_beq_eq_true h3, hz, Nat.eq_of_beq_eq_true h4⟩
     · cases h4
   · cases h2
 · cases h
section
variable {P : Program}
theorem load_pays {w : World} {b o pl : Nat} {ps : List PayS} (hl : ps.length = pl) (hc : ∀ (j : Nat) (p : PayS), ps[j]? = some p → ∀ (k : Nat) (v : Value), p.cells[k]? = some v → w.cell? ⟨b, o + j * 6 + k, none⟩ = some v) :
   (loadCells ⟨b, o, none⟩ (pl * 6)).run P w = .ok (flatC ps).toArray w := by
 have := run_loadCells_list (P := P) w ⟨b, o, none⟩ (flatC ps) (fun i v hv => by
   obtain ⟨p, h1, h2⟩ := flatC_inv ps i v hv
   rw [add_off]
   have := hc _ p h1 _ v h2
   rwa [show o + i / 6 * 6 + i % 6 = o + i by omega] at this)
 rwa [flatC_length, hl] at this
variable {ops : Array Oper} {K : (Nat → Value) → World → Prop} {rest : List Oper} {f : Nat → Value} {d : Nat} {ty : TypeId} {pos : String} {af : Array Edge} {w0 : World} {F : Addr → Value → Prop} {L : List (Nat × Obj)}
end
def NewPays (w w' : World) (h : H) (ps : List PayS) : Prop :=
 (h.pa = none ∧ h.pl = 0 ∧ h.pc = 0 ∧ ps = []) ∨ ∃ (b t : Nat) (cs : Array Value), h.pa = some ⟨b, 0, none⟩ ∧ w.heap.size ≤ b ∧ w'.heap[b]? = some (.cells cs t (0, 0)) ∧ cs.size = h.pc * 6 ∧ h.pl ≤ h.pc ∧ ps.length = h.pl ∧
   ∀ (j : Nat) (p : PayS), ps[j]? = some p → ∀ (k : Nat) (v : Value), p.cells[k]? = some v → cs[j * 6 + k]? = some v
theorem NewPays.known {w w' w0 : World} {F : Addr → Value → Prop} {L : List (Nat × Obj)} {h : H} {ps : List PayS} (hn : NewPays w w' h ps) (hw : Has w0 F L w) : PaysIn (Out L w') h.pa h.pl ps := by
 rcases hn with ⟨h1, h2, h3, rfl⟩ | ⟨b, t, cs, h1, h2, h3, h4, h5, h6, h7⟩
 · exact ⟨by rw [h2]; rfl, .inl h2⟩
 · refine ⟨h6, .inr ⟨b, 0, h1, fun j p hj k v hv => ⟨?_, ?_⟩⟩⟩
   · rw [Nat.zero_add, cell_of_row w' b _ cs t (0, 0) h3]; exact h7 j p hj k v hv
   · intro hm
     obtain ⟨q, hq, he⟩ := List.mem_map.1 hm
     have := (Array.getElem?_eq_some_iff.1 (hw.2.2.1 q hq).2).1
     simp at he
     omega
section
variable {P : Program} {ops : Array Oper} {K : (Nat → Value) → World → Prop} {rest : List Oper} {f : Nat → Value} {d : Nat} {ty : TypeId} {pos : String} {af : Array Edge} {w0 : World} {F : Addr → Value → Prop} {L : List (Nat × Obj)}
end
end Go.Proofs.Ytmkboljfbmlebac
namespace Go.Proofs.Ytmkboljfbmlebac
open Go.RowKit
set_option linter.unusedSimpArgs false
set_option linter.unusedVariables false
theorem Has.perm {w0 w : World} {F : Addr → Value → Prop} {L L' : List (Nat × Obj)} (h : Has w0 F L w) (hp : L.Perm L') : Has w0 F L' w :=
 ⟨h.1, (hp.map _).nodup_iff.1 h.2.1, fun p hq => h.2.2.1 p (hp.mem_iff.2 hq), fun a v hF => ⟨(h.2.2.2 a v hF).1, fun hm => (h.2.2.2 a v hF).2 ((hp.map _).mem_iff.2 hm)⟩⟩
theorem Has.sub {w0 w : World} {F : Addr → Value → Prop} {L L' : List (Nat × Obj)} (h : Has w0 F L w) (hs : L'.Sublist L) : Has w0 F L' w :=
 ⟨h.1, (hs.map _).nodup h.2.1, fun p hq => h.2.2.1 p (hs.subset hq), fun a v hF => ⟨(h.2.2.2 a v hF).1, fun hm => (h.2.2.2 a v hF).2 ((hs.map _).subset hm)⟩⟩
theorem Has.right {w0 w : World} {F : Addr → Value → Prop} {E L : List (Nat × Obj)} (h : Has w0 F (E ++ L) w) : Has w0 F L w := h.sub (List.sublist_append_right _ _)
theorem Look.app {E L : List (Nat × Obj)} {b : Nat} {o : Obj} (h : Look L b o) : Look (E ++ L) b o := by
 induction E with
 | nil => exact h
 | cons p r ih => exact .there ih
theorem Turn.app {E L L' : List (Nat × Obj)} {b : Nat} {o o' : Obj} (h : Turn L b o o' L') : Turn (E ++ L) b o o' (E ++ L') := by
 induction E with
 | nil => exact h
 | cons p r ih => exact .there ih
theorem look_of_mem {L : List (Nat × Obj)} {b : Nat} {o : Obj} (h : (b, o) ∈ L) : Look L b o := by
 induction L with
 | nil => cases h
 | cons p r ih =>
   rcases List.mem_cons.1 h with rfl | h
   · exact .here
   · exact .there (ih h)
theorem Look.left {E L : List (Nat × Obj)} {b : Nat} {o : Obj} (h : Look E b o) : Look (E ++ L) b o := look_of_mem (List.mem_append_left _ h.mem)
def NewBlocks (w w' : World) (E : List (Nat × Obj)) : Prop := (E.map (·.1)).Nodup ∧ ∀ p ∈ E, w.heap.size ≤ p.1 ∧ w'.heap[p.1]? = some p.2
theorem Has.gain {w0 w w' : World} {F : Addr → Value → Prop} {E L : List (Nat × Obj)} (h : Has w0 F L w) (hb : Bel w.heap.size w w') (hE : NewBlocks w w' E) : Has w0 F (E ++ L) w' := by
 have h' := h.below hb
 refine ⟨h'.1, ?_, ?_, ?_⟩
 · rw [List.map_append, List.nodup_append]
   refine ⟨hE.1, h.2.1, fun a ha b hb' e => ?_⟩
   subst e
   obtain ⟨p, hp, rfl⟩ := List.mem_map.1 ha
   obtain ⟨q, hq, e⟩ := List.mem_map.1 hb'
   have h1 := (hE.2 p hp).1
   have h2 := (Array.getElem?_eq_some_iff.1 (h.2.2.1 q hq).2).1
   omega
 · intro p hp
   rcases List.mem_append.1 hp with hp | hp
   · exact ⟨Nat.le_trans h.1.size (hE.2 p hp).1, (hE.2 p hp).2⟩
   · exact h'.2.2.1 p hp
 · intro a v hF
   refine ⟨(h'.2.2.2 a v hF).1, ?_⟩
   rw [List.map_append, List.mem_append]
   rintro (hm | hm)
   · obtain ⟨p, hp, e⟩ := List.mem_map.1 hm
     have h1 := (hE.2 p hp).1
     have h2 := cell_lt (h.2.2.2 a v hF).1
     omega
   · exact (h'.2.2.2 a v hF).2 hm
def Knows (F : Addr → Value → Prop) (E : List (Nat × Obj)) : Prop := ∀ b cs t fr, (b, Obj.cells cs t fr) ∈ E → ∀ (j : Nat) (v : Value), cs[j]? = some v → F ⟨b, j, none⟩ v
theorem Has.forget {w0 w : World} {F : Addr → Value → Prop} {E L : List (Nat × Obj)} (h : Has w0 F (E ++ L) w) : Has w0 (Out L w) L w ∧ More F (Out L w) ∧ Knows (Out L w) E := by
 refine ⟨⟨h.1, h.right.2.1, h.right.2.2.1, fun a v hF => hF⟩, fun a v hF => h.right.2.2.2 a v hF, fun b cs t fr hm j v hv => ⟨?_, ?_⟩⟩
 · rw [cell_of_row w b j cs t fr (h.2.2.1 _ (List.mem_append_left _ hm)).2]; exact hv
 · have hn := h.2.1
   rw [List.map_append, List.nodup_append] at hn
   exact fun hm' => hn.2.2 b (List.mem_map_of_mem (f := (·.1)) hm) b hm' rfl
def ListE (e m : Nat) (v : Value) (n : Nat) (xs : List Value) (E : List (Nat × Obj)) : Prop :=
 xs.length = n * m ∧ ((v = .slice none 0 0 ∧ n = 0 ∧ E = []) ∨
   ∃ g cap cur, v = .slice (some ⟨g, 0, none⟩) n cap ∧ E = [(g, .cells cur e (0, 0))] ∧ n ≤ cap ∧ cap ≤ maxLen ∧ cur.size = cap * m ∧ cur.toList.take (n * m) = xs)
theorem listE_nil (e m : Nat) : ListE e m (.slice none 0 0) 0 [] [] := ⟨by simp, .inl ⟨rfl, rfl, rfl⟩⟩
theorem ListE.shape {e m n : Nat} {v : Value} {xs : List Value} {E : List (Nat × Obj)} (h : ListE e m v n xs E) : ∃ a c, v = .slice a n c := by
 rcases h.2 with ⟨rfl, rfl, _⟩ | ⟨g, cap, cur, rfl, _⟩
 · exact ⟨none, 0, rfl⟩
 · exact ⟨_, _, rfl⟩
def rowB (P : Program) (T e m by_ : Nat) : Bool := match P.underlying T with
 | some (.slice e') => Nat.beq e' e && (match P.info? e with | some i => Nat.beq i.size m && Nat.beq i.bytes by_ && (match i.zero with | some z => Nat.beq z.cells.size m | _ => false) | none => false)
 | _ => false
theorem rowB_spec {P : Program} {T e m by_ : Nat} (h : rowB P T e m by_ = true) : ∃ i z, P.underlying T = some (.slice e) ∧ P.info? e = some i ∧ i.size = m ∧ i.bytes = by_ ∧ i.zero = some z ∧ z.cells.size = m := by
 unfold rowB at h
 split at h
 · rename_i e' hu
   simp only [Bool.and_eq_true] at h
   obtain ⟨h1, h2⟩ := h
   have := Nat.eq_of_beq_eq_true h1
   subst this
   split at h2
   · rename_i i hi
     simp only [Bool.and_eq_true] at h2
     obtain ⟨⟨h3, h4⟩, h5⟩ := h2
     split at h5
     · rename_i z hz
       exact ⟨i, z, hu, hi, Nat.eq_of_beq_eq_true h3, Nat.eq_of_beq_eq_true h4, hz, Nat.eq_of_beq_eq_true h5⟩
     · cases h5
   · cases h2
 · cases h
section
variable {P : Program} {ops : Array Oper} {K : (Nat → Value) → World → Prop} {rest : List Oper} {f : Nat → Value} {d : Nat} {ty : TypeId} {pos : String} {af : Array Edge} {w0 : World} {F : Addr → Value → Prop} {E L : List (Nat × Obj)}
theorem s_build1 {T e m by_ : Nat} {x : Operand} {v : Value} (hT : rowB P T e m by_ = true) (hm : (Nat.ble 1 m && Nat.ble m 1000) = true) (hx : ev f x = v) (hs : v.cells.size = m)
   (hz : ∀ z : Array Value, z.size = m → Instr.fill (fun i => some (i * m, m)) ((Array.range (1 * m)).map (z[· % z.size]!)) [(0, v)] = some v.cells)
   (kk : ∀ b, sC P ops K rest (upd f d (.slice (some ⟨b, 0, none⟩) 1 1)) (Has w0 F ((b, .cells v.cells e) :: L))) :
   sC P ops K (⟨some d, .buildSlice T 1 #[(0, x)], ty, pos, af, none⟩ :: rest) f (Has w0 F L) := by
 intro w hw
 obtain ⟨i, z, hu, hi, h1, h2, h3, h4⟩ := rowB_spec hT
 simp only [Bool.and_eq_true, Nat.ble_eq] at hm
 have : (Instr.buildSlice T 1 #[(0, v)]).run P w = .ok (.slice (some ⟨w.heap.size, 0, none⟩) 1 1) (w.alloc (.cells v.cells e)) := by
   have hsmall : ¬ (2 ^ 24 < 1 * i.size) := by rw [h1]; omega
   have hpos : ¬ 1 * i.size = 0 := by rw [h1]; omega
   simp [Instr.buildSlice, run_underlying hu, sizeOf, typeInfo, zeroValue, hi, h3, newRow]
   rw [h1]
   have hz' := hz z.cells h4
   rw [Nat.one_mul] at hz'
   rw [if_neg (show ¬ 16777216 < m by omega), if_neg (show ¬ m = 0 by omega)]
   simp [hz']
 unfold sw
 rw [if_pos wanted_free]
 unfold opk
 have hr : (execOp (ev f) ⟨some d, .buildSlice T 1 #[(0, x)], ty, pos, af, none⟩).run P w = .ok (.value (.slice (some ⟨w.heap.size, 0, none⟩) 1 1)) (w.alloc (.cells v.cells e)) := by
   simp [execOp, hx, this]
 rw [hr]
 exact kk _ _ (hw.alloc _)
theorem fill_scalar {v : Value} (h : v.cells = #[v]) (z : Array Value) (hz : z.size = 1) : Instr.fill (fun i => some (i * 1, 1)) ((Array.range (1 * 1)).map (z[· % z.size]!)) [(0, v)] = some v.cells := by
 have : (Array.range (1 * 1)).map (z[· % z.size]!) = #[z[0]!] := by
   have : Array.range (1 * 1) = #[0] := rfl
   rw [this]; simp [hz]
 rw [this]
 simp [Instr.fill, h]
theorem all_scalar {v : Value} (h : v.cells = #[v]) (h1 : v.oneCell' = true) : v.cells.all (·.oneCell') = true := by rw [h]; simp [h1]
theorem run_appendE {w : World} {T e m by_ n mm c : Nat} {ty : TypeId} {v : Value} {xs news : List Value} {b o : Nat} (hT : rowB P T e m by_ = true) (hm : 0 < m) (hE : ListE e m v n xs E) (hw : Has w0 F (E ++ L) w)
   (hl : news.length = mm * m) (hnews : ∀ j u, news[j]? = some u → w.cell? ⟨b, o + j, none⟩ = some u) (h1 : ∀ u ∈ news, u.oneCell' = true) (hpos : 0 < mm) (hbytes : (n + mm) * by_ ≤ 140737488355328) (hbb : 0 < by_) :
   ∃ v' E' w', (Builtin.append_ #[T, T] ty #[v, .slice (some ⟨b, o, none⟩) mm c]).run P w = .ok v' w' ∧ ListE e m v' (n + mm) (xs ++ news) E' ∧ Has w0 F (E' ++ L) w' := by
 obtain ⟨i, z, hu, hi, hs, hby, hz, hzs⟩ := rowB_spec hT
 subst hs
 subst hby
 have hle : n + mm ≤ 140737488355328 := Nat.le_trans (Nat.le_mul_of_pos_right _ hbb) hbytes
 have h63 : n + mm ≤ maxLen := by simp only [maxLen]; omega
 have hnews' : ∀ j u, news[j]? = some u → w.cell? ((⟨b, o, none⟩ : Addr).add j) = some u := fun j u hu => by rw [add_off]; exact hnews j u hu
 have hlen : (xs ++ news).length = (n + mm) * i.size := by rw [List.length_append, hE.1, hl, Nat.add_mul]
 have new : ∀ old, old < n + mm → ListE e i.size (.slice (some ⟨w.heap.size, 0, none⟩) (n + mm) (grownCap w (n + mm) old e)) (n + mm) (xs ++ news)
     [(w.heap.size, .cells (xs.toArray ++ news.toArray ++ Builtin.zeroCells z.cells (grownCap w (n + mm) old e - (n + mm))) e)] := by
   intro old ho
   have hge := grownCap_ge w (n + mm) old e
   have hcm : grownCap w (n + mm) old e ≤ maxLen := grownCap_le_maxLen w (n + mm) old e h63
   refine ⟨hlen, .inr ⟨_, _, _, rfl, rfl, hge, hcm, ?_, ?_⟩⟩
   · simp only [Array.size_append, List.size_toArray, size_zeroCells, hzs, hE.1, hl, ← Nat.add_mul]
     congr 1
     omega
   · simp only [Array.toList_append, List.append_assoc]
     rw [← List.append_assoc, ← hlen]
     exact List.take_left
 have hnewW : ∀ o, Has w0 F ((w.heap.size, o) :: L) (w.drew.alloc o) := fun o => hw.right.drew.alloc o
 rcases hE.2 with ⟨rfl, rfl, rfl⟩ | ⟨g, cap, cur, rfl, rfl, hnc, hcm, hcs, htake⟩
 · have hx : xs = [] := List.eq_nil_of_length_eq_zero (by simpa using hE.1)
   subst hx
   have hr := run_append_nil (P := P) w T ty e i z hu hi hz ⟨b, o, none⟩ mm c news hl hnews' hpos (by omega) (by simp only [Nat.zero_add] at hbytes; omega)
   have hn := new 0 (by omega)
   simp only [Nat.zero_add, List.nil_append, Array.empty_append] at hn hr ⊢
   exact ⟨_, _, _, hr, hn, hnewW _⟩
 · have hg : w.heap[g]? = some (.cells cur e (0, 0)) := hw.look .here
   by_cases hroom : n + mm ≤ cap
   · have hfit : n * i.size + news.length ≤ cur.size := by rw [hl, hcs, ← Nat.add_mul]; exact Nat.mul_le_mul_right _ hroom
     have hr := run_append_room (P := P) w T ty e i hu hi g n cap cur hg ⟨b, o, none⟩ mm c news hl hnews' h1 hroom hfit
     refine ⟨_, [(g, .cells (cur.toList.take (n * i.size) ++ news ++ cur.toList.drop (n * i.size + news.length)).toArray e (0, 0))], _, hr, ⟨hlen, .inr ⟨g, cap, _, rfl, rfl, hroom, hcm, ?_, ?_⟩⟩, ?_⟩
     · simp only [List.size_toArray, List.length_append, List.length_take, List.length_drop, Array.length_toList]
       omega
     · rw [htake, ← hlen]
       exact List.take_left
     · exact hw.turn (L' := _ :: L) .here rfl rfl rfl (by simp) (setRow_heap w g cur _ e _ hg) (fun k hk => setRow_other w g k _ hk)
   · have holds : ∀ j u, xs[j]? = some u → w.cell? ((⟨g, 0, none⟩ : Addr).add j) = some u := fun j u hu => by
       rw [add_off, Nat.zero_add, cell_of_row w g j cur e (0, 0) hg]
       rw [← htake, List.getElem?_take] at hu
       split at hu
       · simpa using hu
       · cases hu
     have hr := run_append_grow (P := P) w T ty e i z hu hi hz ⟨g, 0, none⟩ n cap xs hE.1 holds ⟨b, o, none⟩ mm c news hl hnews' (by omega) (by omega) (growslice_fits (by omega) hbytes)
     exact ⟨_, _, _, hr, new cap (by omega), hnewW _⟩
theorem s_push {T e m by_ n : Nat} {ats : Array TypeId} {x y : Operand} {v : Value} {xs : List Value} {b : Nat} {cs : Array Value} (hT : rowB P T e m by_ = true) (hm : Nat.ble 1 m = true) (hbb : Nat.ble 1 by_ = true) (hat : ats = #[T, T])
   (hx : ev f x = v) (hy : ev f y = .slice (some ⟨b, 0, none⟩) 1 1) (hE : ListE e m v n xs E) (hs : cs.size = m) (h1 : cs.all (·.oneCell') = true) (hbytes : (n + 1) * by_ ≤ 140737488355328)
   (kk : ∀ v' E', ListE e m v' (n + 1) (xs ++ cs.toList) E' → sC P ops K rest (upd f d v') (Has w0 F (E' ++ L))) :
   sC P ops K (⟨some d, .call ⟨.builtin .append, #[x, y], ats⟩, ty, pos, af, none⟩ :: rest) f (Has w0 F ((b, .cells cs e) :: (E ++ L))) := by
 intro w hw
 subst hat
 unfold sw
 rw [if_pos wanted_free]
 unfold opk
 obtain ⟨v', E', w', hr, hE', hw'⟩ := run_appendE (P := P) (w0 := w0) (F := F) (L := L) (c := 1) (ty := ty) (b := b) (o := 0) (mm := 1) (news := cs.toList) hT (Nat.le_of_ble_eq_true hm) hE hw.tail (by simp [hs]) (fun j u hj => by
   rw [Nat.zero_add, cell_has hw .here]; simpa using hj) (fun u hu => by rw [Array.all_eq_true_iff_forall_mem] at h1; exact h1 u (by simpa using hu)) (by omega) hbytes (Nat.le_of_ble_eq_true hbb)
 have : (execOp (ev f) ⟨some d, .call ⟨.builtin .append, #[x, y], #[T, T]⟩, ty, pos, af, none⟩).run P w = .ok (.value v') w' := by
   simp [execOp, resolve, invoke, builtin, hx, hy, hr]
 rw [this]
 exact kk v' E' hE' w' hw'
end
structure GivesE (P : Program) (k : FuncId) (args : List Value) (w : World) (R : Value → List (Nat × Obj) → Prop) : Prop where
 out : Calls P k args.toArray w fun e w' => ∃ v E, e = .returned v ∧ Bel w.heap.size w w' ∧ NewBlocks w w' E ∧ R v E
theorem GivesE.mono {P : Program} {k : FuncId} {args : List Value} {w : World} {R R' : Value → List (Nat × Obj) → Prop} (h : GivesE P k args w R) (hr : ∀ v E, R v E → R' v E) : GivesE P k args w R' :=
 ⟨h.out.mono fun e w' ⟨v, E, h1, h2, h3, h4⟩ => ⟨v, E, h1, h2, h3, hr v E h4⟩⟩
theorem givesE_of {P : Program} {k : FuncId} {fn : Func} {c : Code} {n : Nat} {args : List Value} {w : World} {R : Value → List (Nat × Obj) → Prop}
   (hf : P.funcs[k]? = some fn) (hb : fn.body = some c) (hn : fn.ntmps = n) (hl : args.length ≤ n)
   (h : cC P n c (retQ P fn n (fun v w' => ∃ E, Bel w.heap.size w w' ∧ NewBlocks w w' E ∧ R v E)) (argF args) (Has w (At w) [])) : GivesE P k args w R :=
 ⟨(givesR_of hf hb hn hl h).out.mono fun e w' ⟨v, he, E, h1, h2, h3⟩ => ⟨v, E, he, h1, h2, h3⟩⟩
theorem Has.new {w0 w : World} {F : Addr → Value → Prop} {E L : List (Nat × Obj)} (h : Has w0 F (E ++ L) w) : NewBlocks w0 w E :=
 ⟨(h.sub (List.sublist_append_left _ _)).2.1, (h.sub (List.sublist_append_left _ _)).2.2.1⟩
section
variable {P : Program} {ops : Array Oper} {K : (Nat → Value) → World → Prop} {rest : List Oper} {f : Nat → Value} {d : Nat} {ty : TypeId} {pos : String} {af : Array Edge} {w0 : World} {F : Addr → Value → Prop} {L : List (Nat × Obj)}
theorem s_callE {k : FuncId} {xs : List Operand} {ats : Array TypeId} {R : Value → List (Nat × Obj) → Prop} (hk : hasBody P k = true) (hg : ∀ w, Has w0 F L w → GivesE P k (xs.map (ev f)) w R)
   (kk : ∀ (v : Value) (E : List (Nat × Obj)), R v E → sC P ops K rest (upd f d v) (Has w0 F (E ++ L))) :
   sC P ops K (⟨some d, .call ⟨.value (.func k), xs.toArray, ats⟩, ty, pos, af, none⟩ :: rest) f (Has w0 F L) := by
 intro w hw
 unfold sw
 rw [if_pos wanted_free]
 unfold opk
 rw [run_call hk w]
 refine (hg w hw).out.mono fun e w' ⟨v, E, he, hb, hn, hr⟩ => ⟨_, he, ?_⟩
 exact kk v E hr w' (hw.gain hb hn)
theorem s_callF {k : FuncId} {xs : List Operand} {ats : Array TypeId} {R : Value → List (Nat × Obj) → Prop} (hk : hasBody P k = true) (hg : ∀ w, Has w0 F L w → GivesE P k (xs.map (ev f)) w R)
   (kk : ∀ (F' : Addr → Value → Prop) (v : Value) (E : List (Nat × Obj)), More F F' → Knows F' E → R v E → sC P ops K rest (upd f d v) (Has w0 F' L)) :
   sC P ops K (⟨some d, .call ⟨.value (.func k), xs.toArray, ats⟩, ty, pos, af, none⟩ :: rest) f (Has w0 F L) := by
 intro w hw
 unfold sw
 rw [if_pos wanted_free]
 unfold opk
 rw [run_call hk w]
 refine (hg w hw).out.mono fun e w' ⟨v, E, he, hb, hn, hr⟩ => ⟨_, he, ?_⟩
 obtain ⟨h1, h2, h3⟩ := (hw.gain hb hn).forget
 exact kk _ v E h2 h3 hr w' h1
end
theorem n_doneE {P : Program} {fn : Func} {n t : Nat} {f : Nat → Value} {w0 : World} {F : Addr → Value → Prop} {E L : List (Nat × Obj)} {R : Value → List (Nat × Obj) → Prop} (hr : fn.results = #[.tmp t]) (ht : t < n) (hv : R (f t) E) :
   nC (retQ P fn n (fun v w' => ∃ E, Bel w0.heap.size w0 w' ∧ NewBlocks w0 w' E ∧ R v E)) .ret f (Has w0 F (E ++ L)) :=
 fun w hw => ⟨f t, results_one hr ht w, E, hw.1, hw.new, hv⟩
theorem n_doneCE {P : Program} {fn : Func} {n t T b m ty : Nat} {fr : Nat × Nat} {cs : Array Value} {f : Nat → Value} {w0 : World} {F : Addr → Value → Prop} {L E L' : List (Nat × Obj)} {R : Value → List (Nat × Obj) → Prop} (hr : fn.results = #[.cell t T]) (ht : t < n) (hp : f t = .pointer (some ⟨b, 0, none⟩))
   (hT : aggB P T m = true) (hl : Look L b (.cells cs ty fr)) (hm : cs.size = m) (hE : ∀ w, Has w0 F L w → Has w0 F (E ++ L') w) (hv : R (.agg cs) E) : nC (retQ P fn n (fun v w' => ∃ E, Bel w0.heap.size w0 w' ∧ NewBlocks w0 w' E ∧ R v E)) .ret f (Has w0 F L) := by
 intro w hw
 refine ⟨.agg cs, ?_, E, hw.1, (hE w hw).new, hv⟩
 have e : (Fa n f).tmps[t]?.getD undef = f t := by simp [Fa, ht]
 subst hm
 have := run_loadN (P := P) (w := w) (b := b) (o := 0) (cs := cs.toList) (by simpa using hT) (fun j v hj => by
   rw [cell_has hw hl]; simpa using hj)
 simp only [Instr.loadAt, Instr.sureAddr, Sem.run_bind, Sem.run_pure, Result.andThen] at this
 simp [results, hr, e, hp, asAddr, this]
def Fresh (w w' : World) : Addr → Value → Prop := fun a v => w'.cell? a = some v ∧ w.heap.size ≤ a.block
structure GivesF (P : Program) (k : FuncId) (args : List Value) (w : World) (R : (Addr → Value → Prop) → Value → Prop) : Prop where
 out : Calls P k args.toArray w fun e w' => ∃ v, e = .returned v ∧ Bel w.heap.size w w' ∧ R (Fresh w w') v
def Mono (R : (Addr → Value → Prop) → Value → Prop) : Prop := ∀ F F' v, More F F' → R F v → R F' v
theorem Fresh.out {w0 w w' : World} {F : Addr → Value → Prop} {L : List (Nat × Obj)} (h : Has w0 F L w) : More (Fresh w w') (Out L w') := fun a v ⟨h1, h2⟩ => ⟨h1, fun hm => by
 obtain ⟨p, hp, e⟩ := List.mem_map.1 hm
 have := (Array.getElem?_eq_some_iff.1 (h.2.2.1 p hp).2).1
 omega⟩
theorem knows_fresh {w w' : World} {E : List (Nat × Obj)} (h : NewBlocks w w' E) : Knows (Fresh w w') E := fun b cs t fr hm j v hv =>
 ⟨by rw [cell_of_row w' b j cs t fr (h.2 _ hm).2]; exact hv, (h.2 _ hm).1⟩
theorem GivesE.toF {P : Program} {k : FuncId} {args : List Value} {w : World} {R : Value → List (Nat × Obj) → Prop} {R' : (Addr → Value → Prop) → Value → Prop} (h : GivesE P k args w R) (hr : ∀ F v E, Knows F E → R v E → R' F v) : GivesF P k args w R' :=
 ⟨h.out.mono fun e w' ⟨v, E, h1, h2, h3, h4⟩ => ⟨v, h1, h2, hr _ v E (knows_fresh h3) h4⟩⟩
theorem givesF_of {P : Program} {k : FuncId} {fn : Func} {c : Code} {n : Nat} {args : List Value} {w : World} {R : (Addr → Value → Prop) → Value → Prop}
   (hf : P.funcs[k]? = some fn) (hb : fn.body = some c) (hn : fn.ntmps = n) (hl : args.length ≤ n)
   (h : cC P n c (retQ P fn n (fun v w' => Bel w.heap.size w w' ∧ R (Fresh w w') v)) (argF args) (Has w (At w) [])) : GivesF P k args w R :=
 ⟨(givesR_of hf hb hn hl h).out.mono fun e w' ⟨v, he, h1, h2⟩ => ⟨v, he, h1, h2⟩⟩
def Young (w0 : World) (F : Addr → Value → Prop) : Addr → Value → Prop := fun a v => F a v ∧ w0.heap.size ≤ a.block
theorem s_callG {P : Program} {ops : Array Oper} {K : (Nat → Value) → World → Prop} {rest : List Oper} {f : Nat → Value} {d : Nat} {ty : TypeId} {pos : String} {af : Array Edge} {w0 : World} {F : Addr → Value → Prop} {L : List (Nat × Obj)}
   {k : FuncId} {xs : List Operand} {ats : Array TypeId} {R : (Addr → Value → Prop) → Value → Prop} (hk : hasBody P k = true) (hR : Mono R) (hg : ∀ w, Has w0 F L w → GivesF P k (xs.map (ev f)) w R)
   (kk : ∀ (F' : Addr → Value → Prop) (v : Value), More F F' → R (Young w0 F') v → sC P ops K rest (upd f d v) (Has w0 F' L)) :
   sC P ops K (⟨some d, .call ⟨.value (.func k), xs.toArray, ats⟩, ty, pos, af, none⟩ :: rest) f (Has w0 F L) := by
 intro w hw
 unfold sw
 rw [if_pos wanted_free]
 unfold opk
 rw [run_call hk w]
 refine (hg w hw).out.mono fun e w' ⟨v, he, hb, hr⟩ => ⟨_, he, ?_⟩
 obtain ⟨h1, h2⟩ := hw.learn hb
 exact kk _ v h2 (hR _ _ v (fun a v h => ⟨Fresh.out hw a v h, Nat.le_trans hw.1.size h.2⟩) hr) w' h1
theorem young_fresh {w0 w : World} {F : Addr → Value → Prop} {L : List (Nat × Obj)} (h : Has w0 F L w) : More (Young w0 F) (Fresh w0 w) := fun a v hy => ⟨(h.2.2.2 a v hy.1).1, hy.2⟩
theorem own_fresh {w0 w : World} {F : Addr → Value → Prop} {E L : List (Nat × Obj)} (h : Has w0 F (E ++ L) w) : Knows (Fresh w0 w) E := knows_fresh h.new
theorem n_doneCF {P : Program} {fn : Func} {n t T b m ty : Nat} {fr : Nat × Nat} {cs : Array Value} {f : Nat → Value} {w0 : World} {F : Addr → Value → Prop} {L : List (Nat × Obj)} {R : (Addr → Value → Prop) → Value → Prop} (hr : fn.results = #[.cell t T]) (ht : t < n) (hp : f t = .pointer (some ⟨b, 0, none⟩))
   (hT : aggB P T m = true) (hl : Look L b (.cells cs ty fr)) (hm : cs.size = m) (hv : ∀ w, Has w0 F L w → R (Fresh w0 w) (.agg cs)) : nC (retQ P fn n (fun v w' => Bel w0.heap.size w0 w' ∧ R (Fresh w0 w') v)) .ret f (Has w0 F L) := by
 intro w hw
 refine ⟨.agg cs, ?_, hw.1, hv w hw⟩
 have e : (Fa n f).tmps[t]?.getD undef = f t := by simp [Fa, ht]
 subst hm
 have := run_loadN (P := P) (w := w) (b := b) (o := 0) (cs := cs.toList) (by simpa using hT) (fun j v hj => by
   rw [cell_has hw hl]; simpa using hj)
 simp only [Instr.loadAt, Instr.sureAddr, Sem.run_bind, Sem.run_pure, Result.andThen] at this
 simp [results, hr, e, hp, asAddr, this]
theorem n_done2F {P : Program} {fn : Func} {n t t2 T b m ty : Nat} {fr : Nat × Nat} {cs : Array Value} {f : Nat → Value} {w0 : World} {F : Addr → Value → Prop} {L : List (Nat × Obj)} {R : (Addr → Value → Prop) → Value → Prop} (hr : fn.results = #[.cell t T, .tmp t2]) (ht : t < n) (ht2 : t2 < n) (hp : f t = .pointer (some ⟨b, 0, none⟩))
   (hT : aggB P T m = true) (hl : Look L b (.cells cs ty fr)) (hm : cs.size = m) (hv : ∀ w, Has w0 F L w → R (Fresh w0 w) (.tuple #[.agg cs, f t2])) : nC (retQ P fn n (fun v w' => Bel w0.heap.size w0 w' ∧ R (Fresh w0 w') v)) .ret f (Has w0 F L) := by
 intro w hw
 refine ⟨.tuple #[.agg cs, f t2], ?_, hw.1, hv w hw⟩
 have e : (Fa n f).tmps[t]?.getD undef = f t := by simp [Fa, ht]
 have e2 : (Fa n f).tmps[t2]?.getD undef = f t2 := by simp [Fa, ht2]
 subst hm
 have := run_loadN (P := P) (w := w) (b := b) (o := 0) (cs := cs.toList) (by simpa using hT) (fun j v hj => by
   rw [cell_has hw hl]; simpa using hj)
 simp only [Instr.loadAt, Instr.sureAddr, Sem.run_bind, Sem.run_pure, Result.andThen] at this
 simp [results, hr, e, e2, hp, asAddr, this]
def IntsIn (F : Addr → Value → Prop) (v : Value) (xs : List Int) : Prop := ∃ a c, v = .slice a xs.length c ∧ (xs = [] ∨ ∃ b o, a = some ⟨b, o, none⟩ ∧ ∀ (j : Nat) (x : Int), xs[j]? = some x → F ⟨b, o + j, none⟩ (I x))
theorem IntsIn.mono {F F' : Addr → Value → Prop} {v : Value} {xs : List Int} (h : IntsIn F v xs) (hm : More F F') : IntsIn F' v xs := by
 obtain ⟨a, c, h1, h2⟩ := h
 refine ⟨a, c, h1, ?_⟩
 rcases h2 with h2 | ⟨b, o, h3, h4⟩
 · exact .inl h2
 · exact .inr ⟨b, o, h3, fun j x hj => hm _ _ (h4 j x hj)⟩
theorem ints_of_list {F : Addr → Value → Prop} {e : Nat} {v : Value} {xs : List Int} {E : List (Nat × Obj)} (h : ListE e 1 v xs.length (xs.map I) E) (hk : Knows F E) : IntsIn F v xs := by
 rcases h.2 with ⟨rfl, h2, rfl⟩ | ⟨g, cap, cur, rfl, rfl, h3, h4, h5, h6⟩
 · have : xs = [] := List.eq_nil_of_length_eq_zero h2
   subst this
   exact ⟨none, 0, rfl, .inl rfl⟩
 · refine ⟨_, _, rfl, .inr ⟨g, 0, rfl, fun j x hj => ?_⟩⟩
   rw [Nat.zero_add]
   refine hk g cur e (0, 0) (by simp) j (I x) ?_
   have e1 : (xs.map I)[j]? = some (I x) := by simp [hj]
   rw [← h6, List.getElem?_take] at e1
   split at e1
   · simpa using e1
   · cases e1
end Go.Proofs.Ytmkboljfbmlebac
namespace Go.Proofs.Ytmkboljfbmlebac
open Go.RowKit
set_option linter.unusedSimpArgs false
set_option linter.unusedVariables false
def withinB (n lo hi : Int) : Bool := decide (lo ≤ n) && decide (n ≤ hi)
def isBankB (n : Int) : Bool := withinB n 0 3
def goodTransferB (a b n : Int) : Bool := isBankB a && isBankB b && !decide (a = b) && withinB n 1 1000000
def goodStateB (a : Int) : Bool := decide (a = 1) || decide (a = 2) || decide (a = 3)
def goodPayB (q : PayS) : Bool := goodTransferB q.src q.dst q.amt && withinB q.cls 0 2 && goodStateB q.sta && decide (0 ≤ q.seq)
def netM (h : H) (i k : Int) : Int := if !isBankB i || !isBankB k then 0 else wr (h.sent i k - h.sent k i)
def leftM (h : H) (i : Int) : Int := if !isBankB i then 0 else wr (h.has i + h.cred i)
def mayM (h : H) (a b n : Int) : Bool :=
 bif !goodTransferB a b n || decide (leftM h a < n) then false else (decide (h.lim a b = -1) || decide (wr (netM h a b + n) ≤ h.lim a b))
def maySendM (h : H) (a b n : Int) : Bool :=
 bif !goodTransferB a b n || decide (wr (h.has a - n) < wr (0 - h.cred a)) then false else (decide (h.lim a b ≤ -1) || decide (wr (wr (h.sent a b - h.sent b a) + n) ≤ h.lim a b))
def moveM (h : H) (a b n : Int) : H := if goodTransferB a b n = true then
 { h with has := up1 (up1 h.has a (wr (h.has a - n))) b (wr (up1 h.has a (wr (h.has a - n)) b + n)), sent := up2 h.sent a b (wr (h.sent a b + n)) } else h
def newM : H := { has := fun _ => 0, cred := fun _ => 0, sent := fun _ _ => 0, lim := fun _ _ => -1, pa := none, pl := 0, pc := 0, next := 0 }
def a4 (p : Int → Bool) : Bool := p 0 && p 1 && p 2 && p 3
def accGoodB (has cred : Int → Int) : Bool := a4 fun i => withinB (has i) (-1099511627776) 1099511627776 && withinB (cred i) 0 1000000
def sentGoodB (m : Int → Int → Int) : Bool := a4 fun i => decide (m i i = 0) && a4 fun k => withinB (m i k) 0 1099511627776
def limGoodB (m : Int → Int → Int) : Bool := a4 fun i => a4 fun k => withinB (m i k) (-1) 1000000
theorem bank_lt {i : Int} (h : isBankB i = true) : 0 ≤ i ∧ i < 4 := by simp [isBankB, withinB] at h; omega
theorem transfer_lt {a b n : Int} (h : goodTransferB a b n = true) : (0 ≤ a ∧ a < 4) ∧ (0 ≤ b ∧ b < 4) ∧ a ≠ b ∧ 1 ≤ n ∧ n ≤ 1000000 := by
 simp [goodTransferB, isBankB, withinB] at h; omega
def goB (nx : Int) (seen : List Int) : List PayS → Bool
 | [] => true
 | p :: r => bif !goodPayB p || decide (nx ≤ p.seq) || decide (p.seq ∈ seen) then false else goB nx (seen ++ [p.seq]) r
def goodPaysB (ps : List PayS) (nx : Int) : Bool := bif decide (24 < (ps.length : Int)) then false else goB nx [] ps
def goodB (h : H) (ps : List PayS) : Bool := withinB h.next 0 1048576 && goodPaysB ps h.next && accGoodB h.has h.cred && sentGoodB h.sent && limGoodB h.lim
theorem gp_long {ps : List PayS} {nx : Int} {pl : Nat} (hl : ps.length = pl) (h : decide (24 < (pl : Int)) = true) : false = goodPaysB ps nx := by
 unfold goodPaysB; rw [hl, h]; rfl
theorem gp_end {ps : List PayS} {nx : Int} {pl k : Nat} (hl : ps.length = pl) (h : decide (24 < (pl : Int)) = false) (hk : decide ((k : Int) < pl) = false) (hi : goB nx [] ps = goB nx ((ps.take k).map PayS.seq) (ps.drop k)) : true = goodPaysB ps nx := by
 unfold goodPaysB
 rw [hl, h, hi, List.drop_eq_nil_of_le (by simp at hk; omega)]
 rfl
theorem gp_bad {ps : List PayS} {nx : Int} {pl k : Nat} {p : PayS} (hl : ps.length = pl) (h : decide (24 < (pl : Int)) = false) (hi : goB nx [] ps = goB nx ((ps.take k).map PayS.seq) (ps.drop k)) (hd : ps.drop k = p :: ps.drop (k + 1))
   (hb : (!goodPayB p || decide (nx ≤ p.seq) || decide (p.seq ∈ (ps.take k).map PayS.seq)) = true) : false = goodPaysB ps nx := by
 unfold goodPaysB
 rw [hl, h, hi, hd]
 simp only [goB, hb, cond_true, cond_false]
theorem gp_step {ps : List PayS} {nx : Int} {k : Nat} {p : PayS} (hi : goB nx [] ps = goB nx ((ps.take k).map PayS.seq) (ps.drop k)) (hd : ps.drop k = p :: ps.drop (k + 1)) (ht : ps.take (k + 1) = ps.take k ++ [p])
   (hb : (!goodPayB p || decide (nx ≤ p.seq) || decide (p.seq ∈ (ps.take k).map PayS.seq)) = false) : goB nx [] ps = goB nx ((ps.take (k + 1)).map PayS.seq) (ps.drop (k + 1)) := by
 rw [hi, hd, ht]
 simp only [goB, hb, cond_false, List.map_append, List.map_cons, List.map_nil]
end Go.Proofs.Ytmkboljfbmlebac
namespace Go.Proofs.Ytmkboljfbmlebac
open Go.RowKit
set_option linter.unusedSimpArgs false
set_option linter.unusedVariables false
theorem wr_in {a : Int} (h1 : -9223372036854775808 ≤ a) (h2 : a ≤ 9223372036854775807) : wr a = a := wrap_in h1 h2
theorem four {i : Int} (h : 0 ≤ i ∧ i < 4) : i = 0 ∨ i = 1 ∨ i = 2 ∨ i = 3 := by omega
theorem a4_iff (p : Int → Bool) : a4 p = true ↔ ∀ i : Int, 0 ≤ i ∧ i < 4 → p i = true := by
 unfold a4
 simp only [Bool.and_eq_true]
 constructor
 · rintro ⟨⟨⟨h0, h1⟩, h2⟩, h3⟩ i hi
   rcases four hi with rfl | rfl | rfl | rfl <;> assumption
 · intro h
   exact ⟨⟨⟨h 0 (by omega), h 1 (by omega)⟩, h 2 (by omega)⟩, h 3 (by omega)⟩
structure GoodH (h : H) : Prop where
 has : ∀ i : Int, 0 ≤ i ∧ i < 4 → -1099511627776 ≤ h.has i ∧ h.has i ≤ 1099511627776
 cred : ∀ i : Int, 0 ≤ i ∧ i < 4 → 0 ≤ h.cred i ∧ h.cred i ≤ 1000000
 diag : ∀ i : Int, 0 ≤ i ∧ i < 4 → h.sent i i = 0
 sent : ∀ i k : Int, 0 ≤ i ∧ i < 4 → 0 ≤ k ∧ k < 4 → 0 ≤ h.sent i k ∧ h.sent i k ≤ 1099511627776
 lim : ∀ i k : Int, 0 ≤ i ∧ i < 4 → 0 ≤ k ∧ k < 4 → -1 ≤ h.lim i k ∧ h.lim i k ≤ 1000000
theorem within_iff {n lo hi : Int} : withinB n lo hi = true ↔ lo ≤ n ∧ n ≤ hi := by simp [withinB]
theorem good_of {h : H} {ps : List PayS} (hg : goodB h ps = true) : GoodH h := by
 unfold goodB accGoodB sentGoodB limGoodB at hg
 simp only [Bool.and_eq_true, a4_iff, within_iff, decide_eq_true_eq] at hg
 obtain ⟨⟨⟨_, h1⟩, h2⟩, h3⟩ := hg
 exact ⟨fun i hi => (h1 i hi).1, fun i hi => (h1 i hi).2, fun i hi => (h2 i hi).1, fun i k hi hk => (h2 i hi).2 k hk, fun i k hi hk => h3 i hi k hk⟩
theorem transfer_spec {a b n : Int} (h : goodTransferB a b n = true) : (0 ≤ a ∧ a < 4) ∧ (0 ≤ b ∧ b < 4) ∧ a ≠ b ∧ 1 ≤ n ∧ n ≤ 1000000 := transfer_lt h
theorem move_eq {h : H} (g : GoodH h) {a b n : Int} (ht : goodTransferB a b n = true) :
   moveM h a b n = { h with has := up1 (up1 h.has a (h.has a - n)) b (h.has b + n), sent := up2 h.sent a b (h.sent a b + n) } := by
 obtain ⟨ha, hb, hne, h1, h2⟩ := transfer_spec ht
 have e1 := g.has a ha
 have e2 := g.has b hb
 have e3 := g.sent a b ha hb
 have e4 : up1 h.has a (h.has a - n) b = h.has b := by simp only [up1, if_neg (fun e : b = a => hne e.symm)]
 unfold moveM
 rw [if_pos ht, wr_in (by omega) (by omega), e4, wr_in (by omega) (by omega), wr_in (by omega) (by omega)]
theorem isBank_of {i : Int} (h : 0 ≤ i ∧ i < 4) : isBankB i = true := by simp [isBankB, withinB]; omega
theorem net_eq {x : H} (g : ∀ i k : Int, 0 ≤ i ∧ i < 4 → 0 ≤ k ∧ k < 4 → 0 ≤ x.sent i k ∧ x.sent i k ≤ 1099512627776) {i k : Int} (hi : 0 ≤ i ∧ i < 4) (hk : 0 ≤ k ∧ k < 4) : netM x i k = x.sent i k - x.sent k i := by
 have e1 := g i k hi hk
 have e2 := g k i hk hi
 unfold netM
 rw [isBank_of hi, isBank_of hk]
 simp only [Bool.not_true, Bool.or_self, Bool.false_eq_true, if_false]
 exact wr_in (by omega) (by omega)
theorem left_eq {x : H} {i : Int} (hi : 0 ≤ i ∧ i < 4) (g : -1099512627776 ≤ x.has i ∧ x.has i ≤ 1099512627776) (c : 0 ≤ x.cred i ∧ x.cred i ≤ 1000000) : leftM x i = x.has i + x.cred i := by
 unfold leftM
 rw [isBank_of hi]
 simp only [Bool.not_true, Bool.false_eq_true, if_false]
 exact wr_in (by omega) (by omega)
end Go.Proofs.Ytmkboljfbmlebac
namespace Go.Proofs.Ytmkboljfbmlebac
open Go.RowKit
set_option linter.unusedSimpArgs false
set_option linter.unusedVariables false
def sameB (h : H) (ps : List PayS) (k : H) (qs : List PayS) : Bool :=
 decide (accL h.has h.cred = accL k.has k.cred) && decide (matL h.sent = matL k.sent) && decide (matL h.lim = matL k.lim) && decide (h.next = k.next) && decide ((h.pl : Int) = k.pl) && decide (ps.map PayS.list = qs.map PayS.list)
theorem same_bad {F : Addr → Value → Prop} {h k : H} {ps qs : List PayS} {j : Nat} {p q : PayS} (hj : ps[j]? = some p) (hq : qs[j]? = some q) (hne : decide (p.list = q.list) = false) : decide (ps.map PayS.list = qs.map PayS.list) = false := by
 simp only [decide_eq_false_iff_not] at hne ⊢
 intro e
 apply hne
 have h1 : (ps.map PayS.list)[j]? = some p.list := by simp [hj]
 rw [e] at h1
 simp [hq] at h1
 exact h1.symm
theorem same_all {ps qs : List PayS} {m n k : Nat} (h1 : ps.length = m) (h2 : qs.length = n) (he : decide ((m : Int) = n) = true) (hk : decide ((k : Int) < m) = false) (hi : (ps.take k).map PayS.list = (qs.take k).map PayS.list) : decide (ps.map PayS.list = qs.map PayS.list) = true := by
 simp only [decide_eq_true_eq, decide_eq_false_iff_not] at *
 rw [List.take_of_length_le (by omega), List.take_of_length_le (by omega)] at hi
 exact hi
theorem same_step {ps qs : List PayS} {k : Nat} {p q : PayS} (hi : (ps.take k).map PayS.list = (qs.take k).map PayS.list) (h1 : ps.take (k + 1) = ps.take k ++ [p]) (h2 : qs.take (k + 1) = qs.take k ++ [q]) (he : decide (p.list = q.list) = true) :
   (ps.take (k + 1)).map PayS.list = (qs.take (k + 1)).map PayS.list := by
 simp only [decide_eq_true_eq] at he
 rw [h1, h2, List.map_append, List.map_append, hi]
 simp [he]
theorem same_of {h k : H} {ps : List PayS} (h1 : ∀ i : Int, 0 ≤ i ∧ i < 4 → h.has i = k.has i ∧ h.cred i = k.cred i) (h2 : ∀ i j : Int, 0 ≤ i ∧ i < 4 → 0 ≤ j ∧ j < 4 → h.sent i j = k.sent i j ∧ h.lim i j = k.lim i j) (h3 : h.next = k.next) (h4 : h.pl = k.pl) : sameB h ps k ps = true := by
 have e1 : accL h.has h.cred = accL k.has k.cred := by
   simp only [accL, (h1 0 (by omega)).1, (h1 0 (by omega)).2, (h1 1 (by omega)).1, (h1 1 (by omega)).2, (h1 2 (by omega)).1, (h1 2 (by omega)).2, (h1 3 (by omega)).1, (h1 3 (by omega)).2]
 have e2 : matL h.sent = matL k.sent := by
   simp only [matL, (h2 0 0 (by omega) (by omega)).1, (h2 0 1 (by omega) (by omega)).1, (h2 0 2 (by omega) (by omega)).1, (h2 0 3 (by omega) (by omega)).1, (h2 1 0 (by omega) (by omega)).1, (h2 1 1 (by omega) (by omega)).1, (h2 1 2 (by omega) (by omega)).1, (h2 1 3 (by omega) (by omega)).1,
     (h2 2 0 (by omega) (by omega)).1, (h2 2 1 (by omega) (by omega)).1, (h2 2 2 (by omega) (by omega)).1, (h2 2 3 (by omega) (by omega)).1, (h2 3 0 (by omega) (by omega)).1, (h2 3 1 (by omega) (by omega)).1, (h2 3 2 (by omega) (by omega)).1, (h2 3 3 (by omega) (by omega)).1]
 have e3 : matL h.lim = matL k.lim := by
   simp only [matL, (h2 0 0 (by omega) (by omega)).2, (h2 0 1 (by omega) (by omega)).2, (h2 0 2 (by omega) (by omega)).2, (h2 0 3 (by omega) (by omega)).2, (h2 1 0 (by omega) (by omega)).2, (h2 1 1 (by omega) (by omega)).2, (h2 1 2 (by omega) (by omega)).2, (h2 1 3 (by omega) (by omega)).2,
     (h2 2 0 (by omega) (by omega)).2, (h2 2 1 (by omega) (by omega)).2, (h2 2 2 (by omega) (by omega)).2, (h2 2 3 (by omega) (by omega)).2, (h2 3 0 (by omega) (by omega)).2, (h2 3 1 (by omega) (by omega)).2, (h2 3 2 (by omega) (by omega)).2, (h2 3 3 (by omega) (by omega)).2]
 simp only [sameB, e1, e2, e3, h3, h4, decide_true, Bool.and_self]
theorem may_eq {h : H} (g : GoodH h) (a b n : Int) : mayM h a b n = maySendM h a b n := by
 unfold mayM maySendM
 cases ht : goodTransferB a b n
 · rfl
 · obtain ⟨ha, hb, hne, h1, h2⟩ := transfer_spec ht
   have e1 := g.has a ha
   have e2 := g.cred a ha
   have e3 := g.sent a b ha hb
   have e4 := g.sent b a hb ha
   have e5 := g.lim a b ha hb
   have l : leftM h a = h.has a + h.cred a := left_eq ha (by omega) e2
   have nn : netM h a b = h.sent a b - h.sent b a := net_eq (fun i k hi hk => by have := g.sent i k hi hk; omega) ha hb
   rw [l, nn, wr_in (a := h.has a - n) (by omega) (by omega), wr_in (a := 0 - h.cred a) (by omega) (by omega), wr_in (a := h.sent a b - h.sent b a) (by omega) (by omega)]
   have d1 : decide (h.has a + h.cred a < n) = decide (h.has a - n < 0 - h.cred a) := by rw [Bool.eq_iff_iff]; simp; omega
   have d2 : decide (h.lim a b = -1) = decide (h.lim a b ≤ -1) := by rw [Bool.eq_iff_iff]; simp; omega
   rw [d1, d2]
theorem move_pl (h : H) (a b n : Int) : (moveM h a b n).pl = h.pl := by unfold moveM; split <;> rfl
end Go.Proofs.Ytmkboljfbmlebac
namespace Go.Proofs.Ytmkboljfbmlebac
open Go.RowKit
set_option linter.unusedSimpArgs false
set_option linter.unusedVariables false
def better (ps : List PayS) (best : Int) (p : PayS) : Bool := decide (best < 0) || (match ps[best.toNat]? with
 | some q => decide (p.cls < q.cls) || (decide (p.cls = q.cls) && decide (p.seq < q.seq))
 | none => false)
def wantB (ps : List PayS) (bank : Int) (taken : List Int) (best : Int) (i : Nat) (p : PayS) : Bool := !(!decide (p.sta = 1) || !decide (p.src = bank) || decide ((i : Int) ∈ taken)) && better ps best p
def bestTo (ps : List PayS) (bank : Int) (taken : List Int) : Nat → Int
 | 0 => -1
 | k + 1 => match ps[k]? with
   | some p => bif wantB ps bank taken (bestTo ps bank taken k) k p then k else bestTo ps bank taken k
   | none => bestTo ps bank taken k
theorem best_step {ps : List PayS} {bank : Int} {taken : List Int} {k : Nat} {p : PayS} (h : ps[k]? = some p) : bestTo ps bank taken (k + 1) = bif wantB ps bank taken (bestTo ps bank taken k) k p then (k : Int) else bestTo ps bank taken k := by
 simp only [bestTo, h]
theorem best_range (ps : List PayS) (bank : Int) (taken : List Int) : ∀ k, bestTo ps bank taken k = -1 ∨ (0 ≤ bestTo ps bank taken k ∧ bestTo ps bank taken k < k)
 | 0 => .inl rfl
 | k + 1 => by
   have ih := best_range ps bank taken k
   unfold bestTo
   split
   · cases wantB ps bank taken (bestTo ps bank taken k) k _
     · simp only [cond_false]; omega
     · simp only [cond_true]; omega
   · omega
def Mine (ps : List PayS) (bank : Int) (i : Int) : Prop := 0 ≤ i ∧ ∃ p, ps[i.toNat]? = some p ∧ p.sta = 1 ∧ p.src = bank
theorem best_mine (ps : List PayS) (bank : Int) (taken : List Int) : ∀ k, 0 ≤ bestTo ps bank taken k → Mine ps bank (bestTo ps bank taken k) ∧ bestTo ps bank taken k ∉ taken
 | 0, h => by simp [bestTo] at h
 | k + 1, h => by
   have ih := best_mine ps bank taken k
   revert h
   unfold bestTo
   split
   · rename_i p hp
     cases hw : wantB ps bank taken (bestTo ps bank taken k) k p
     · simp only [cond_false]; exact ih
     · simp only [cond_true]
       intro _
       simp [wantB] at hw
       refine ⟨⟨by omega, p, by simpa using hp, hw.1.1.1, hw.1.1.2⟩, hw.1.2⟩
   · exact ih
def queueTo (ps : List PayS) (bank : Int) : Nat → List Int
 | 0 => []
 | k + 1 => bif decide (0 ≤ bestTo ps bank (queueTo ps bank k) ps.length) then queueTo ps bank k ++ [bestTo ps bank (queueTo ps bank k) ps.length] else queueTo ps bank k
def queueM (ps : List PayS) (bank : Int) : List Int := queueTo ps bank ps.length
theorem queueTo_len (ps : List PayS) (bank : Int) : ∀ k, (queueTo ps bank k).length ≤ k
 | 0 => by simp [queueTo]
 | k + 1 => by
   have := queueTo_len ps bank k
   unfold queueTo
   cases decide (0 ≤ bestTo ps bank (queueTo ps bank k) ps.length)
   · simp only [cond_false]; omega
   · simp only [cond_true, List.length_append, List.length_cons, List.length_nil]; omega
theorem queueTo_yes {ps : List PayS} {bank : Int} {k : Nat} (h : decide (0 ≤ bestTo ps bank (queueTo ps bank k) ps.length) = true) : queueTo ps bank (k + 1) = queueTo ps bank k ++ [bestTo ps bank (queueTo ps bank k) ps.length] := by
 simp only [queueTo, h, cond_true]
theorem queueTo_no {ps : List PayS} {bank : Int} {k : Nat} (h : decide (0 ≤ bestTo ps bank (queueTo ps bank k) ps.length) = false) : queueTo ps bank (k + 1) = queueTo ps bank k := by
 simp only [queueTo, h, cond_false]
def H.core (h : H) : H := { h with pa := none, pl := 0, pc := 0 }
def settles (ps : List PayS) (n : Int) : Option PayS := if 0 ≤ n then (match ps[n.toNat]? with | some p => if p.sta = 1 then some p else none | none => none) else none
def settleC (h : H) (ps : List PayS) (n : Int) : H := match settles ps n with | some p => moveM h p.src p.dst p.amt | none => h
def settleP (ps : List PayS) (n : Int) : List PayS := match settles ps n with | some p => ps.set n.toNat { p with sta := 2 } | none => ps
theorem core_move (h : H) (a b n : Int) : (moveM h a b n).core = moveM h.core a b n := by
 unfold moveM
 split <;> rfl
end Go.Proofs.Ytmkboljfbmlebac
namespace Go.Proofs.Ytmkboljfbmlebac
open Go.RowKit
set_option linter.unusedSimpArgs false
set_option linter.unusedVariables false
def CellsOf (cs : Array Value) (ps : List PayS) : Prop := ∀ (j : Nat) (p : PayS), ps[j]? = some p → ∀ (k : Nat) (v : Value), p.cells[k]? = some v → cs[j * 6 + k]? = some v
def PaysE (pa : Option Addr) (pl pc : Nat) (ps : List PayS) (E : List (Nat × Obj)) : Prop :=
 ps.length = pl ∧ pl ≤ pc ∧ ((pa = none ∧ pl = 0 ∧ pc = 0 ∧ E = []) ∨ ∃ b t cs, pa = some ⟨b, 0, none⟩ ∧ E = [(b, .cells cs t (0, 0))] ∧ cs.size = pc * 6 ∧ CellsOf cs ps)
theorem PaysE.known {F : Addr → Value → Prop} {pa : Option Addr} {pl pc : Nat} {ps : List PayS} {E : List (Nat × Obj)} (h : PaysE pa pl pc ps E) (hk : Knows F E) : PaysIn F pa pl ps := by
 refine ⟨h.1, ?_⟩
 rcases h.2.2 with ⟨_, h0, _⟩ | ⟨b, t, cs, rfl, rfl, h1, h2⟩
 · exact .inl h0
 · refine .inr ⟨b, 0, rfl, fun j p hj k v hv => ?_⟩
   rw [Nat.zero_add]
   exact hk b cs t (0, 0) (by simp) _ _ (h2 j p hj k v hv)
theorem PaysE.some {pa : Option Addr} {pl pc : Nat} {ps : List PayS} {E : List (Nat × Obj)} (h : PaysE pa pl pc ps E) (h0 : 0 < pl) : ∃ b t cs, pa = some ⟨b, 0, none⟩ ∧ E = [(b, .cells cs t (0, 0))] ∧ cs.size = pc * 6 ∧ CellsOf cs ps := by
 rcases h.2.2 with ⟨_, h1, _⟩ | h
 · omega
 · exact h
theorem CellsOf.extract {cs : Array Value} {ps : List PayS} (h : CellsOf cs ps) {j : Nat} {p : PayS} (hj : ps[j]? = some p) (hs : j * 6 + 6 ≤ cs.size) : cs.extract (0 + j * 6) (0 + j * 6 + 6) = p.cells := by
 apply Array.ext
 · simp [PayS.cells]; omega
 · intro i h1 h2
   have h3 : i < 6 := by simpa [PayS.cells] using h2
   have := h j p hj i _ (Array.getElem?_eq_getElem h2)
   rw [Array.getElem_extract]
   rw [Array.getElem?_eq_some_iff] at this
   obtain ⟨_, e⟩ := this
   simp only [Nat.zero_add]
   exact e
theorem CellsOf.settled {cs : Array Value} {ps : List PayS} (h : CellsOf cs ps) {n : Nat} {p : PayS} (hn : ps[n]? = some p) : CellsOf (cs.setIfInBounds (0 + n * 6 + 4) (I 2)) (ps.set n { p with sta := 2 }) := by
 intro j q hj k v hv
 have hk : k < 6 := by
   rcases Nat.lt_or_ge k 6 with h | h
   · exact h
   · rw [Array.getElem?_eq_none (by simpa [PayS.cells] using h)] at hv; cases hv
 rw [Nat.zero_add]
 rw [List.getElem?_set] at hj
 split at hj
 · rename_i e
   subst e
   split at hj
   · simp at hj
     subst hj
     have h6 : k = 0 ∨ k = 1 ∨ k = 2 ∨ k = 3 ∨ k = 4 ∨ k = 5 := by omega
     have hz := fun k v => h n p hn k v
     rcases h6 with rfl | rfl | rfl | rfl | rfl | rfl
     case inr.inr.inr.inr.inl =>
       have := hz 4 _ rfl
       simp [PayS.cells] at hv
       subst hv
       rw [Array.getElem?_setIfInBounds_self_of_lt (Array.getElem?_eq_some_iff.1 this).1]
     all_goals
       rw [Array.getElem?_setIfInBounds_ne (by omega)]
       exact hz _ _ hv
   · cases hj
 · rename_i e
   rw [Array.getElem?_setIfInBounds_ne (by omega)]
   exact h j q hj k v hv
theorem look_fresh {w0 w : World} {F : Addr → Value → Prop} {L : List (Nat × Obj)} {b t : Nat} {fr : Nat × Nat} {cs : Array Value} (hw : Has w0 F L w) (hl : Look L b (.cells cs t fr)) : Knows (Fresh w0 w) [(b, .cells cs t fr)] := by
 intro b' cs' t' fr' hm j v hv
 simp at hm
 obtain ⟨rfl, rfl, rfl, rfl⟩ := hm
 exact ⟨(cell_has hw hl).trans hv, (hw.2.2.1 _ hl.mem).1⟩
theorem own_pays {w0 w : World} {F : Addr → Value → Prop} {L : List (Nat × Obj)} {b t pl : Nat} {fr : Nat × Nat} {cs : Array Value} {ps : List PayS} (hw : Has w0 F L w) (hl : Look L b (.cells cs t fr)) (hp : ps.length = pl) (hc : CellsOf cs ps) : PaysIn (Fresh w0 w) (some ⟨b, 0, none⟩) pl ps :=
 ⟨hp, .inr ⟨b, 0, rfl, fun j p hj k v hv => by rw [Nat.zero_add]; exact look_fresh hw hl b cs t fr (by simp) _ _ (hc j p hj k v hv)⟩⟩
def HouseF (h0 : H) (ps0 : List PayS) (c : H) (ps : List PayS) (F : Addr → Value → Prop) (v : Value) : Prop :=
 ∃ h : H, v = .agg h.cells ∧ h.core = c ∧ h.pl ≤ h.pc ∧ ((h.pa = h0.pa ∧ h.pl = h0.pl ∧ ps = ps0) ∨ PaysIn F h.pa h.pl ps)
theorem houseF_mono (h0 : H) (ps0 : List PayS) (c : H) (ps : List PayS) : Mono (HouseF h0 ps0 c ps) := by
 rintro F F' v hm ⟨h, h1, h2, h3, h4⟩
 refine ⟨h, h1, h2, h3, ?_⟩
 rcases h4 with h4 | h4
 · exact .inl h4
 · exact .inr (h4.mono hm)
theorem more_young (w0 : World) (F : Addr → Value → Prop) : More (Young w0 F) F := fun _ _ h => h.1
theorem young_mono {w0 : World} {F F' : Addr → Value → Prop} (h : More F F') : More (Young w0 F) (Young w0 F') := fun _ _ hy => ⟨h _ _ hy.1, hy.2⟩
theorem move_pa (h : H) (a b n : Int) : (moveM h a b n).pa = h.pa := by unfold moveM; split <;> rfl
theorem settles_of {ps : List PayS} {n : Int} {p : PayS} (h0 : 0 ≤ n) (hp : ps[n.toNat]? = some p) (hs : p.sta = 1) : settles ps n = some p := by simp [settles, h0, hp, hs]
theorem settles_out {ps : List PayS} {n : Int} (h : ¬ (0 ≤ n ∧ n < ps.length)) : settles ps n = none := by
 unfold settles
 split
 · rename_i h0
   have : ps[n.toNat]? = none := by simp; omega
   rw [this]
 · rfl
theorem settles_not {ps : List PayS} {n : Int} {p : PayS} (hp : ps[n.toNat]? = some p) (hs : ¬ p.sta = 1) : settles ps n = none := by
 unfold settles
 split
 · simp only [hp, if_neg hs]
 · rfl
end Go.Proofs.Ytmkboljfbmlebac
namespace Go.Proofs.Ytmkboljfbmlebac
open Go.RowKit
set_option linter.unusedSimpArgs false
set_option linter.unusedVariables false
structure QS where
 c : H
 ps : List PayS
 xs : List Int
def firstM (c : H) (ps : List PayS) (bank : Int) : Option Int := match queueM ps bank with
 | [] => none
 | i :: _ => match ps[i.toNat]? with
   | some p => bif maySendM c bank p.dst p.amt then some i else none
   | none => none
def cnt (ps : List PayS) : Nat := ps.countP fun p => decide (p.sta = 1)
def QS.go (s : QS) (i : Int) : QS := { c := settleC s.c s.ps i, ps := settleP s.ps i, xs := s.xs ++ [i] }
theorem queueTo_mine (ps : List PayS) (bank : Int) : ∀ k, ∀ i ∈ queueTo ps bank k, Mine ps bank i
 | 0, i, h => by simp [queueTo] at h
 | k + 1, i, h => by
   cases hb : decide (0 ≤ bestTo ps bank (queueTo ps bank k) ps.length)
   · rw [queueTo_no hb] at h; exact queueTo_mine ps bank k i h
   · rw [queueTo_yes hb] at h
     rcases List.mem_append.1 h with h | h
     · exact queueTo_mine ps bank k i h
     · simp at h; subst h; exact (best_mine ps bank _ _ (of_decide_eq_true hb)).1
theorem queueM_mine {ps : List PayS} {bank i : Int} (h : i ∈ queueM ps bank) : Mine ps bank i := queueTo_mine ps bank _ i h
theorem Mine.settles {ps : List PayS} {bank i : Int} (h : Mine ps bank i) : ∃ p, settles ps i = some p ∧ ps[i.toNat]? = some p ∧ p.sta = 1 ∧ p.src = bank := by
 obtain ⟨h0, p, hp, h1, h2⟩ := h
 exact ⟨p, by unfold Proofs.Ytmkboljfbmlebac.settles; simp [h0, hp, h1], hp, h1, h2⟩
theorem settleP_len (ps : List PayS) (n : Int) : (settleP ps n).length = ps.length := by unfold settleP; split <;> simp
theorem settles_spec {ps : List PayS} {n : Int} {p : PayS} (h : settles ps n = some p) : 0 ≤ n ∧ ps[n.toNat]? = some p ∧ p.sta = 1 := by
 unfold settles at h
 split at h
 · rename_i h0
   split at h
   · rename_i q hq
     split at h
     · rename_i h1
       simp at h; subst h
       exact ⟨h0, hq, h1⟩
     · cases h
   · cases h
 · cases h
theorem cnt_settle {ps : List PayS} {n : Int} {p : PayS} (h : settles ps n = some p) : cnt (settleP ps n) + 1 = cnt ps := by
 obtain ⟨h0, hp, h1⟩ := settles_spec h
 obtain ⟨hlt, he⟩ := List.getElem?_eq_some_iff.1 hp
 simp only [settleP, h, cnt]
 rw [List.countP_set hlt]
 have : 0 < ps.countP fun p => decide (p.sta = 1) := List.countP_pos_iff.2 ⟨p, List.mem_of_getElem? hp, by simpa using h1⟩
 simp [he, h1]
 omega
theorem firstM_spec {c : H} {ps : List PayS} {bank i : Int} (h : firstM c ps bank = some i) : ∃ p r, queueM ps bank = i :: r ∧ settles ps i = some p ∧ p.src = bank ∧ maySendM c bank p.dst p.amt = true := by
 unfold firstM at h
 split at h
 · cases h
 · rename_i j r hq
   split at h
   · rename_i p hp
     cases hm : maySendM c bank p.dst p.amt
     · rw [hm] at h; cases h
     · rw [hm] at h
       simp at h; subst h
       obtain ⟨q, h1, h2, h3, h4⟩ := (queueM_mine (ps := ps) (bank := bank) (i := j) (by rw [hq]; simp)).settles
       rw [h2] at hp; simp at hp; subst hp
       exact ⟨q, r, hq, h1, h4, hm⟩
   · cases h
theorem firstM_yes {c : H} {ps : List PayS} {bank i : Int} {r : List Int} {p : PayS} (hq : queueM ps bank = i :: r) (hp : ps[i.toNat]? = some p) (hm : maySendM c bank p.dst p.amt = true) : firstM c ps bank = some i := by
 simp only [firstM, hq, hp, hm, cond_true]
theorem firstM_no {c : H} {ps : List PayS} {bank i : Int} {r : List Int} {p : PayS} (hq : queueM ps bank = i :: r) (hp : ps[i.toNat]? = some p) (hm : maySendM c bank p.dst p.amt = false) : firstM c ps bank = none := by
 simp only [firstM, hq, hp, hm, cond_false]
theorem firstM_nil {c : H} {ps : List PayS} {bank : Int} (hq : queueM ps bank = []) : firstM c ps bank = none := by
 simp only [firstM, hq]
def drain (bank : Int) (s : QS) : QS := match h : firstM s.c s.ps bank with
  | some i => drain bank (s.go i)
  | none => s
termination_by cnt s.ps
decreasing_by
  obtain ⟨p, r, _, h1, _⟩ := firstM_spec h
  have := cnt_settle h1
  simp only [QS.go]
  omega
theorem drain_go {bank i : Int} {s : QS} (h : firstM s.c s.ps bank = some i) : drain bank s = drain bank (s.go i) := by
 rw [drain]
 split
 · rename_i j hj; rw [h] at hj; simp at hj; subst hj; rfl
 · rename_i hj; rw [h] at hj; cases hj
theorem drain_end {bank : Int} {s : QS} (h : firstM s.c s.ps bank = none) : drain bank s = s := by
 rw [drain]
 split
 · rename_i j hj; rw [h] at hj; cases hj
 · rfl
theorem drain_facts (bank : Int) (s : QS) : firstM (drain bank s).c (drain bank s).ps bank = none ∧ (drain bank s).xs.length + cnt (drain bank s).ps = s.xs.length + cnt s.ps ∧ s.xs.length ≤ (drain bank s).xs.length := by
 generalize hn : cnt s.ps = n
 induction n using Nat.strongRecOn generalizing s with
 | _ n ih =>
   cases h : firstM s.c s.ps bank with
   | none => rw [drain_end h]; exact ⟨h, by omega, Nat.le_refl _⟩
   | some i =>
     rw [drain_go h]
     obtain ⟨p, r, _, h1, _⟩ := firstM_spec h
     have := cnt_settle h1
     obtain ⟨e1, e2, e3⟩ := ih (cnt (s.go i).ps) (by simp only [QS.go]; omega) (s.go i) rfl
     refine ⟨e1, ?_, ?_⟩
     · rw [e2]; simp only [QS.go, List.length_append, List.length_cons, List.length_nil]; omega
     · simp only [QS.go, List.length_append, List.length_cons, List.length_nil] at e3; simp only [QS.go] at *; omega
def sweepFrom (bank idle : Nat) (s : QS) : QS :=
  if h : idle < 4 then
    if h2 : (drain bank s).xs.length = s.xs.length then sweepFrom ((bank + 1) % 4) (idle + 1) (drain bank s) else sweepFrom ((bank + 1) % 4) 0 (drain bank s)
  else s
termination_by 5 * cnt s.ps + (4 - idle)
decreasing_by
  all_goals
    have := drain_facts bank s
    omega
theorem sweep_end {bank idle : Nat} {s : QS} (h : ¬ idle < 4) : sweepFrom bank idle s = s := by rw [sweepFrom, dif_neg h]
theorem sweep_idle {bank idle : Nat} {s s' : QS} (h : idle < 4) (hd : drain bank s = s') (h2 : s'.xs.length = s.xs.length) : sweepFrom bank idle s = sweepFrom ((bank + 1) % 4) (idle + 1) s' := by
 subst hd
 rw [sweepFrom, dif_pos h]
 simp only [h2, dite_true]
theorem sweep_busy {bank idle : Nat} {s s' : QS} (h : idle < 4) (hd : drain bank s = s') (h2 : ¬ s'.xs.length = s.xs.length) : sweepFrom bank idle s = sweepFrom ((bank + 1) % 4) 0 s' := by
 subst hd
 rw [sweepFrom, dif_pos h]
 simp only [h2, dite_false]
def sweepM (c : H) (ps : List PayS) : QS := bif goodB c ps then sweepFrom 0 0 ⟨c, ps, []⟩ else ⟨c, ps, []⟩
end Go.Proofs.Ytmkboljfbmlebac
namespace Go.Proofs.Ytmkboljfbmlebac
open Go.RowKit
set_option linter.unusedSimpArgs false
set_option linter.unusedVariables false
structure SwG where
 F : Addr → Value → Prop
 h : H
 ps : List PayS
 xs : List Int
 v : Value
 E : List (Nat × Obj)
 bank : Nat
 idle : Nat
def SwG.q (t : SwG) : QS := ⟨t.h.core, t.ps, t.xs⟩
structure SwOk (w : World) (h0 : H) (ps0 : List PayS) (e : Nat) (t : SwG) : Prop where
 pays : PaysIn t.F t.h.pa t.h.pl t.ps
 out : (t.h.pa = h0.pa ∧ t.h.pl = h0.pl ∧ t.ps = ps0) ∨ PaysIn (Young w t.F) t.h.pa t.h.pl t.ps
 len : t.h.pl = h0.pl
 lc : t.h.pl ≤ t.h.pc
 list : ListE e 1 t.v t.xs.length (t.xs.map I) t.E
 sum : t.xs.length + cnt t.ps ≤ h0.pl
theorem swOk_start {w : World} {h : H} {ps : List PayS} {e : Nat} (hp : PaysIn (At w) h.pa h.pl ps) (hlc : h.pl ≤ h.pc) : SwOk w h ps e ⟨At w, h, ps, [], .slice none 0 0, [], 0, 0⟩ :=
 ⟨hp, .inl ⟨rfl, rfl, rfl⟩, rfl, hlc, listE_nil _ _, by
   have : cnt ps ≤ ps.length := List.countP_le_length
   have := hp.1
   simp only [List.length_nil]; omega⟩
theorem SwOk.learn {w : World} {h0 : H} {ps0 : List PayS} {e : Nat} {t : SwG} (k : SwOk w h0 ps0 e t) {F' : Addr → Value → Prop} (hF : More t.F F') (b i : Nat) : SwOk w h0 ps0 e ⟨F', t.h, t.ps, t.xs, t.v, t.E, b, i⟩ :=
 ⟨k.pays.mono hF, k.out.imp id fun h => h.mono (young_mono hF), k.len, k.lc, k.list, k.sum⟩
theorem SwOk.go {w : World} {h0 : H} {ps0 : List PayS} {e : Nat} {t : SwG} (k : SwOk w h0 ps0 e t) {F' : Addr → Value → Prop} (hF : More t.F F') {i : Int} {p : PayS} (hs : settles t.ps i = some p) {h' : H} (hlc : h'.pl ≤ h'.pc)
   (ho : (h'.pa = t.h.pa ∧ h'.pl = t.h.pl ∧ settleP t.ps i = t.ps) ∨ PaysIn (Young w F') h'.pa h'.pl (settleP t.ps i)) {v' : Value} {E' : List (Nat × Obj)} (hl : ListE e 1 v' (t.xs.length + 1) (t.xs.map I ++ [I i]) E') (b d : Nat) :
   SwOk w h0 ps0 e ⟨F', h', settleP t.ps i, t.xs ++ [i], v', E', b, d⟩ := by
 have hlen : h'.pl = t.h.pl := by
   rcases ho with ho | ho
   · exact ho.2.1
   · rw [← ho.1, settleP_len, k.pays.1]
 refine ⟨?_, ?_, by simp only; rw [hlen, k.len], hlc, by simpa using hl, ?_⟩
 · rcases ho with ⟨h1, h2, h3⟩ | ho
   · simp only; rw [h1, h2, h3]; exact k.pays.mono hF
   · exact ho.mono (more_young w F')
 · rcases ho with ⟨h1, h2, h3⟩ | ho
   · simp only; rw [h1, h2, h3]
     exact k.out.imp id fun h => h.mono (young_mono hF)
   · exact .inr ho
 · have := cnt_settle hs
   have := k.sum
   simp only [List.length_append, List.length_cons, List.length_nil]; omega
def SweepF (h0 : H) (ps0 : List PayS) (s : QS) (F : Addr → Value → Prop) (v : Value) : Prop := ∃ v1 v2, v = .tuple #[v1, v2] ∧ HouseF h0 ps0 s.c s.ps F v1 ∧ IntsIn F v2 s.xs
theorem sweepF_mono (h0 : H) (ps0 : List PayS) (s : QS) : Mono (SweepF h0 ps0 s) := by
 rintro F F' v hm ⟨v1, v2, h1, h2, h3⟩
 exact ⟨v1, v2, h1, houseF_mono _ _ _ _ _ _ _ hm h2, h3.mono hm⟩
theorem SwOk.done {w w' : World} {h0 : H} {ps0 : List PayS} {e : Nat} {t : SwG} {L : List (Nat × Obj)} (k : SwOk w h0 ps0 e t) (hw : Has w t.F (t.E ++ L) w') : SweepF h0 ps0 t.q (Fresh w w') (.tuple #[.agg t.h.cells, t.v]) :=
 ⟨_, _, rfl, ⟨t.h, rfl, rfl, k.lc, k.out.imp id fun h => h.mono (young_fresh hw)⟩, ints_of_list k.list (own_fresh hw)⟩
end Go.Proofs.Ytmkboljfbmlebac
namespace Go.Proofs.Ytmkboljfbmlebac
open Go.RowKit
set_option linter.unusedSimpArgs false
set_option linter.unusedVariables false
def dstsOf (l : List Oper) : List Nat := l.filterMap (·.dst)
def flowB (md : Region.Mode) (l : List Oper) : Bool :=
 (dstsOf l).Nodup && Region.noSelect l.toArray && l.zipIdx.all fun (o, i) => (o.looksAt l.toArray).all (fun t => l.zipIdx.all fun (u, j) => !(u.dst == some t) || o.after.any (fun e => Region.binds md e && e.on == j)) && o.after.all (fun e => !Region.binds md e || decide (e.on < i))
section
variable {P : Program} {n : Nat} {C : World → Prop} {f : Nat → Value} {l : List Oper} {Ψ : Nat → Value → World → Prop} {Q : Exit → (Nat → Value) → World → Prop}
def Ob (P : Program) (C : World → Prop) (f : Nat → Value) (l : List Oper) (Ψ : Nat → Value → World → Prop) (o : Oper) : Prop :=
 ∀ g w, C w → (∀ t ∈ o.looksAt l.toArray, (t ∈ dstsOf l → Ψ t (g t) w) ∧ (t ∉ dstsOf l → g t = f t)) →
   if Region.wanted o (yf l.toArray g) then opk P o g w (fun g' w' => ∃ v, g' = updo g o.dst v ∧ Bel w.heap.size w w' ∧ ∀ d, o.dst = some d → Ψ d v w') else ∀ d, o.dst = some d → Ψ d undef w
def Obs (P : Program) (C : World → Prop) (f : Nat → Value) (l : List Oper) (Ψ : Nat → Value → World → Prop) : List Oper → Prop
 | [] => True
 | o :: r => Ob P C f l Ψ o ∧ Obs P C f l Ψ r
theorem Obs.mem {r : List Oper} (h : Obs P C f l Ψ r) : ∀ o ∈ r, Ob P C f l Ψ o := by
 induction r with
 | nil => intro o ho; cases ho
 | cons x r ih =>
   intro o ho
   rcases List.mem_cons.1 ho with e | ho
   · rw [e]; exact h.1
   · exact ih h.2 o ho
def unset (b : Bool) : Bool := !b
theorem dst_unique : ∀ {l : List Oper}, (dstsOf l).Nodup → ∀ {i j : Nat} {o u : Oper} {d : Nat}, l[i]? = some o → l[j]? = some u → o.dst = some d → u.dst = some d → i = j
 | [], _, i, j, o, u, d, h, _, _, _ => by simp at h
 | x :: r, hn, i, j, o, u, d, hi, hj, ho, hu => by
   have hmem : ∀ {k : Nat} {y : Oper}, r[k]? = some y → y.dst = some d → d ∈ dstsOf r := fun hk hy => List.mem_filterMap.2 ⟨_, List.mem_of_getElem? hk, hy⟩
   have hr : (dstsOf r).Nodup := by
     unfold dstsOf at hn
     cases hx : x.dst with
     | none => rw [List.filterMap_cons_none hx] at hn; exact hn
     | some e => rw [List.filterMap_cons_some hx] at hn; exact (List.nodup_cons.1 hn).2
   have hx0 : x.dst = some d → d ∉ dstsOf r := fun hx => by
     unfold dstsOf at hn
     rw [List.filterMap_cons_some hx] at hn
     exact (List.nodup_cons.1 hn).1
   cases i with
   | zero =>
     cases j with
     | zero => rfl
     | succ j =>
       simp at hi hj; subst hi
       exact absurd (hmem hj hu) (hx0 ho)
   | succ i =>
     cases j with
     | zero =>
       simp at hi hj; subst hj
       exact absurd (hmem hi ho) (hx0 hu)
     | succ j =>
       simp at hi hj
       rw [dst_unique hr hi hj ho hu]
end
end Go.Proofs.Ytmkboljfbmlebac
namespace Go.Proofs.Ytmkboljfbmlebac
open Go.RowKit
set_option linter.unusedSimpArgs false
set_option linter.unusedVariables false
section
variable {P : Program} {f : Nat → Value} {C : World → Prop} {dst : Option Nat} {ty : TypeId} {pos : String} {af : Array Edge} {gd : Option (Nat × Bool)}
theorem v_build {T : TypeId} {parts : List (Nat × Operand)} {vs : List (Nat × Value)} {cs : Array Value} (hv : parts.map (fun p => (p.1, ev f p.2)) = vs) (h : P.built T vs = some cs) : Val P f C ⟨dst, .build T parts.toArray, ty, pos, af, gd⟩ (.agg cs) :=
 ⟨fun w _ => by
   have e : (parts.toArray.map fun p => (p.1, ev f p.2)) = vs.toArray := by simp [hv]
   have hr := run_build (P := P) w T vs.toArray cs (by simpa using h)
   simp only [execOp]
   rw [e]
   simp [hr]⟩
theorem v_extract {x : Operand} {vs : Array Value} {i : Nat} {v : Value} (hx : ev f x = .tuple vs) (hi : vs[i]? = some v) : Val P f C ⟨dst, .extract x i, ty, pos, af, gd⟩ v :=
 ⟨fun w _ => by simp [execOp, hx, Instr.extract, hi]⟩
end
def IntsAt (F : Addr → Value → Prop) (a : Option Addr) (xs : List Int) : Prop := xs = [] ∨ ∃ b o, a = some ⟨b, o, none⟩ ∧ ∀ (j : Nat) (x : Int), xs[j]? = some x → F ⟨b, o + j, none⟩ (I x)
theorem IntsIn.at {F : Addr → Value → Prop} {v : Value} {xs : List Int} (h : IntsIn F v xs) : ∃ a c, v = .slice a xs.length c ∧ IntsAt F a xs := h
theorem IntsAt.mono {F F' : Addr → Value → Prop} {a : Option Addr} {xs : List Int} (h : IntsAt F a xs) (hm : More F F') : IntsAt F' a xs := by
 rcases h with h | ⟨b, o, h1, h2⟩
 · exact .inl h
 · exact .inr ⟨b, o, h1, fun j x hj => hm _ _ (h2 j x hj)⟩
theorem IntsAt.get {F : Addr → Value → Prop} {a : Option Addr} {xs : List Int} (h : IntsAt F a xs) {j : Nat} (hj : j < xs.length) : ∃ b o x, a = some ⟨b, o, none⟩ ∧ xs[j]? = some x ∧ F ⟨b, o + j, none⟩ (I x) := by
 rcases h with rfl | ⟨b, o, h1, h2⟩
 · simp at hj
 · exact ⟨b, o, xs[j], h1, by simp [hj], h2 j _ (by simp [hj])⟩
theorem IntsAt.at {w0 w : World} {F : Addr → Value → Prop} {L : List (Nat × Obj)} {a : Option Addr} {xs : List Int} (h : IntsAt F a xs) (hw : Has w0 F L w) : IntsAt (At w) a xs := h.mono hw.at
def repC (c n : Int) (v : Value) : Array Value := #[I c, I n, v]
def sameRB (c1 n1 : Int) (xs : List Int) (c2 n2 : Int) (ys : List Int) : Bool := decide (c1 = c2) && decide (n1 = n2) && decide (xs = ys)
theorem same_take {xs ys : List Int} {j : Nat} {x y : Int} (h : xs.take j = ys.take j) (hx : xs[j]? = some x) (hy : ys[j]? = some y) (he : x = y) : xs.take (j + 1) = ys.take (j + 1) := by
 rw [List.take_add_one, List.take_add_one, h, hx, hy, he]
theorem ints_all {xs ys : List Int} {j : Nat} (hl : (xs.length : Int) = ys.length) (h : xs.take j = ys.take j) (hj : ¬ (j : Int) < xs.length) : xs = ys := by
 rw [List.take_of_length_le (by omega), List.take_of_length_le (by omega)] at h; exact h
theorem ints_bad {xs ys : List Int} {j : Nat} {x y : Int} (hx : xs[j]? = some x) (hy : ys[j]? = some y) (he : ¬ x = y) : ¬ xs = ys := by
 rintro rfl; rw [hx] at hy; simp at hy; exact he hy
theorem ints_len {xs ys : List Int} (hl : ¬ (xs.length : Int) = ys.length) : ¬ xs = ys := by rintro rfl; exact hl rfl
end Go.Proofs.Ytmkboljfbmlebac
namespace Go.Proofs.Ytmkboljfbmlebac
open Go.RowKit
set_option linter.unusedSimpArgs false
set_option linter.unusedVariables false
def Any : (Addr → Value → Prop) → Value → Prop := fun _ _ => True
def row (d : Nat) (R : (Addr → Value → Prop) → Value → Prop) (T : Nat → (Addr → Value → Prop) → Value → Prop) : Nat → (Addr → Value → Prop) → Value → Prop := fun i => bif Nat.beq i d then R else T i
section
variable {P : Program} {n : Nat} {f : Nat → Value} {l : List Oper} {T : Nat → (Addr → Value → Prop) → Value → Prop} {Q : Exit → (Nat → Value) → World → Prop} {w0 : World} {F : Addr → Value → Prop} {L : List (Nat × Obj)}
variable {d : Nat} {op : Op} {ty : TypeId} {pos : String} {af : Array Edge} {C : World → Prop}
variable {g : Nat → Value} {w : World} {gd : Option (Nat × Bool)} {v : Value}
theorem cC_at {y : Code} (h : cC P n y Q g C) (hw : C w) : cw P n y Q g w := h w hw
end
end Go.Proofs.Ytmkboljfbmlebac
namespace Go.Proofs.Ytmkboljfbmlebac
open Go.RowKit
set_option linter.unusedSimpArgs false
set_option linter.unusedVariables false
def payLt (p q : PayS) : Prop := p.cls < q.cls ∨ (p.cls = q.cls ∧ p.seq < q.seq)
def lessK (ps : List PayS) (i j : Int) : Prop := ∃ p q, ps[i.toNat]? = some p ∧ ps[j.toNat]? = some q ∧ payLt p q
theorem payLt_trans {p q r : PayS} (h1 : payLt p q) (h2 : payLt q r) : payLt p r := by unfold payLt at *; omega
theorem payLt_irrefl (p : PayS) : ¬ payLt p p := by unfold payLt; omega
theorem not_payLt_trans {p q r : PayS} (h1 : ¬ payLt q p) (h2 : ¬ payLt r q) : ¬ payLt r p := by unfold payLt at *; omega
theorem best_least (ps : List PayS) (bank : Int) (taken : List Int) : ∀ k, k ≤ ps.length → ∀ (j : Nat), j < k → Mine ps bank j → (j : Int) ∉ taken → 0 ≤ bestTo ps bank taken k ∧ ¬ lessK ps j (bestTo ps bank taken k)
 | 0, _, j, hj, _, _ => by omega
 | k + 1, hk, j, hj, hm, ht => by
   obtain ⟨p, hp⟩ : ∃ p, ps[k]? = some p := ⟨ps[k], by simp⟩
   rw [best_step hp]
   have hr := best_range ps bank taken k
   by_cases hjk : j < k
   · obtain ⟨h0, h1⟩ := best_least ps bank taken k (by omega) j hjk hm ht
     cases hw : wantB ps bank taken (bestTo ps bank taken k) k p
     · exact ⟨h0, h1⟩
     · simp only [cond_true]
       refine ⟨by omega, ?_⟩
       rintro ⟨a, b, ha, hb, hab⟩
       simp at hb; rw [hp] at hb; simp at hb; subst hb
       obtain ⟨c, hc⟩ : ∃ c, ps[(bestTo ps bank taken k).toNat]? = some c := ⟨ps[(bestTo ps bank taken k).toNat]'(by omega), by simp⟩
       have hlt : payLt p c := by
         simp only [wantB, better, hc, Bool.and_eq_true, Bool.or_eq_true, decide_eq_true_eq] at hw
         unfold payLt
         omega
       exact h1 ⟨a, c, ha, hc, payLt_trans hab hlt⟩
   · obtain rfl : j = k := by omega
     obtain ⟨_, q, hq, hs, hsrc⟩ := hm
     simp at hq; rw [hp] at hq; simp at hq; subst hq
     cases hw : wantB ps bank taken (bestTo ps bank taken j) j p
     · simp only [cond_false]
       have hnb : better ps (bestTo ps bank taken j) p = false := by
         simpa [wantB, hs, hsrc, ht] using hw
       simp only [better, Bool.or_eq_false_iff, decide_eq_false_iff_not] at hnb
       have h0 : 0 ≤ bestTo ps bank taken j := by omega
       refine ⟨h0, ?_⟩
       rintro ⟨a, b, ha, hb, hab⟩
       simp at ha; rw [hp] at ha; simp at ha; subst ha
       have h2 := hnb.2
       rw [hb] at h2
       simp only [Bool.or_eq_false_iff, decide_eq_false_iff_not, Bool.and_eq_false_iff] at h2
       unfold payLt at hab
       omega
     · simp only [cond_true]
       refine ⟨by omega, ?_⟩
       rintro ⟨a, b, ha, hb, hab⟩
       rw [ha] at hb; simp at hb; subst hb
       exact payLt_irrefl _ hab
structure QTo (ps : List PayS) (bank : Int) (k : Nat) (xs : List Int) : Prop where
 mine : ∀ i ∈ xs, Mine ps bank i
 nodup : xs.Nodup
 sorted : xs.Pairwise fun i j => ¬ lessK ps j i
 rest : ∀ j, Mine ps bank j → j ∉ xs → (∀ i ∈ xs, ¬ lessK ps j i) ∧ xs.length = k
theorem Mine.lt {ps : List PayS} {bank i : Int} (h : Mine ps bank i) : 0 ≤ i ∧ i.toNat < ps.length := by
 obtain ⟨h0, p, hp, _⟩ := h
 exact ⟨h0, (List.getElem?_eq_some_iff.1 hp).1⟩
theorem queueTo_spec (ps : List PayS) (bank : Int) : ∀ k, QTo ps bank k (queueTo ps bank k)
 | 0 => ⟨by simp [queueTo], by simp [queueTo], by simp [queueTo], fun j _ _ => by simp [queueTo]⟩
 | k + 1 => by
   have ih := queueTo_spec ps bank k
   cases hb : decide (0 ≤ bestTo ps bank (queueTo ps bank k) ps.length)
   · have hb0 := of_decide_eq_false hb
     rw [queueTo_no hb]
     refine ⟨ih.mine, ih.nodup, ih.sorted, fun j hj hn => ?_⟩
     exfalso
     obtain ⟨h0, h1⟩ := hj.lt
     have := best_least ps bank (queueTo ps bank k) ps.length (Nat.le_refl _) j.toNat h1 (by rwa [Int.toNat_of_nonneg h0]) (by rwa [Int.toNat_of_nonneg h0])
     exact hb0 this.1
   · have hb0 := of_decide_eq_true hb
     rw [queueTo_yes hb]
     obtain ⟨hm, hn⟩ := best_mine ps bank (queueTo ps bank k) ps.length hb0
     have hrest := ih.rest _ hm hn
     refine ⟨fun i hi => ?_, ?_, ?_, fun j hj hnj => ?_⟩
     · rcases List.mem_append.1 hi with hi | hi
       · exact ih.mine i hi
       · simp at hi; subst hi; exact hm
     · rw [List.nodup_append]
       refine ⟨ih.nodup, by simp, fun a ha b hb e => ?_⟩
       simp at hb; subst hb; subst e; exact hn ha
     · rw [List.pairwise_append]
       refine ⟨ih.sorted, by simp, fun a ha b hb => ?_⟩
       simp at hb; subst hb
       exact hrest.1 a ha
     · simp at hnj
       obtain ⟨h1, h2⟩ := ih.rest j hj hnj.1
       refine ⟨fun i hi => ?_, by simp [h2]⟩
       rcases List.mem_append.1 hi with hi | hi
       · exact h1 i hi
       · simp at hi; subst hi
         obtain ⟨g0, g1⟩ := hj.lt
         have := best_least ps bank (queueTo ps bank k) ps.length (Nat.le_refl _) j.toNat g1 (by rwa [Int.toNat_of_nonneg g0]) (by rw [Int.toNat_of_nonneg g0]; exact hnj.1)
         rw [Int.toNat_of_nonneg g0] at this
         exact this.2
theorem nodup_full : ∀ (n : Nat) (xs : List Int), xs.Nodup → (∀ i ∈ xs, 0 ≤ i ∧ i < n) → xs.length ≤ n ∧ (xs.length = n → ∀ j : Int, 0 ≤ j → j < n → j ∈ xs)
 | 0, xs, _, h => by
   cases xs with
   | nil => exact ⟨by simp, fun _ j h0 h1 => by omega⟩
   | cons a r => have := h a (by simp); omega
 | n + 1, xs, hn, h => by
   by_cases hm : (n : Int) ∈ xs
   · have hp := List.perm_cons_erase hm
     have hn' : (xs.erase (n : Int)).Nodup := hn.erase _
     have hl := hp.length_eq
     simp at hl
     have := nodup_full n (xs.erase (n : Int)) hn' (fun i hi => by
       have h1 := h i (List.mem_of_mem_erase hi)
       have h2 : i ≠ n := fun e => by subst e; exact (List.Nodup.not_mem_erase hn) hi
       omega)
     have h0 := List.length_pos_of_mem hm
     refine ⟨by omega, fun he j h0 h1 => ?_⟩
     by_cases hj : j = n
     · rw [hj]; exact hm
     · exact List.mem_of_mem_erase (this.2 (by omega) j h0 (by omega))
   · have := nodup_full n xs hn (fun i hi => by
       have h1 := h i hi
       have h2 : i ≠ n := fun e => hm (e ▸ hi)
       omega)
     exact ⟨by omega, fun he => by omega⟩
theorem queueM_all {ps : List PayS} {bank j : Int} (h : Mine ps bank j) : j ∈ queueM ps bank := by
 have hs := queueTo_spec ps bank ps.length
 by_cases hj : j ∈ queueTo ps bank ps.length
 · exact hj
 · have := (hs.rest j h hj).2
   have hf := nodup_full ps.length _ hs.nodup (fun i hi => by have := (hs.mine i hi).lt; omega)
   have := h.lt
   exact hf.2 (by assumption) j (by omega) (by omega)
theorem mem_queueM {ps : List PayS} {bank j : Int} : j ∈ queueM ps bank ↔ Mine ps bank j := ⟨queueM_mine, queueM_all⟩
def SeqsApart (ps : List PayS) : Prop := ∀ (i j : Nat) (p q : PayS), ps[i]? = some p → ps[j]? = some q → p.seq = q.seq → i = j
theorem lessK_total {ps : List PayS} {bank i j : Int} (hs : SeqsApart ps) (hi : Mine ps bank i) (hj : Mine ps bank j) (hne : i ≠ j) (h : ¬ lessK ps j i) : lessK ps i j := by
 obtain ⟨i0, p, hp, _⟩ := hi
 obtain ⟨j0, q, hq, _⟩ := hj
 refine ⟨p, q, hp, hq, ?_⟩
 have h1 : ¬ payLt q p := fun e => h ⟨q, p, hq, hp, e⟩
 have h2 : p.seq ≠ q.seq := fun e => hne (by have := hs _ _ p q hp hq e; omega)
 unfold payLt at *
 omega
theorem queueM_sorted {ps : List PayS} (hs : SeqsApart ps) (bank : Int) : (queueM ps bank).Pairwise (lessK ps) := by
 have h := queueTo_spec ps bank ps.length
 have h1 : (queueM ps bank).Pairwise fun i j => i ≠ j ∧ ¬ lessK ps j i := (List.Pairwise.and h.nodup h.sorted)
 exact (List.Pairwise.imp_of_mem (fun {a b} ha hb hab => lessK_total hs (queueM_mine ha) (queueM_mine hb) hab.1 hab.2) h1)
theorem queueM_unique {ps : List PayS} {bank : Int} {xs : List Int} (hn : xs.Nodup) (hm : ∀ i, i ∈ xs ↔ Mine ps bank i) (hx : xs.Pairwise (lessK ps)) (hs : SeqsApart ps) : xs = queueM ps bank := by
 have hp : xs.Perm (queueM ps bank) := (List.perm_ext_iff_of_nodup hn (queueTo_spec ps bank ps.length).nodup).2 fun i => (hm i).trans (mem_queueM (ps := ps) (bank := bank)).symm
 refine List.Perm.eq_of_pairwise (le := lessK ps) (fun a b _ _ h1 h2 => ?_) hx (queueM_sorted hs bank) hp
 obtain ⟨p, q, e1, e2, e3⟩ := h1
 obtain ⟨p', q', e4, e5, e6⟩ := h2
 rw [e1] at e5; rw [e2] at e4
 simp at e4 e5; subst e4; subst e5
 exact absurd (payLt_trans e3 e6) (payLt_irrefl _)
end Go.Proofs.Ytmkboljfbmlebac
namespace Go.Proofs.Ytmkboljfbmlebac
open Go.RowKit
set_option linter.unusedSimpArgs false
set_option linter.unusedVariables false
theorem drain_same {bank : Int} {s : QS} (h : (drain bank s).xs.length = s.xs.length) : firstM s.c s.ps bank = none ∧ drain bank s = s := by
 cases hf : firstM s.c s.ps bank with
 | none => exact ⟨rfl, drain_end hf⟩
 | some i =>
   exfalso
   rw [drain_go hf] at h
   have := (drain_facts bank (s.go i)).2.2
   simp only [QS.go, List.length_append, List.length_cons, List.length_nil] at this
   simp only [QS.go] at h
   omega
theorem sweep_rests : ∀ (m bank idle : Nat) (s : QS), 5 * cnt s.ps + (4 - idle) = m → bank < 4 → idle ≤ 4 → (∀ d, 1 ≤ d → d ≤ idle → firstM s.c s.ps (((bank + 4 - d) % 4 : Nat) : Int) = none) →
   ∀ b : Nat, b < 4 → firstM (sweepFrom bank idle s).c (sweepFrom bank idle s).ps b = none := by
 intro m
 induction m using Nat.strongRecOn with
 | _ m ih =>
   intro bank idle s hm hb hi h b hb4
   by_cases h4 : idle < 4
   · have hf := drain_facts bank s
     by_cases hl : (drain bank s).xs.length = s.xs.length
     · rw [sweep_idle h4 rfl hl]
       obtain ⟨h1, h2⟩ := drain_same hl
       rw [h2]
       refine ih _ ?_ ((bank + 1) % 4) (idle + 1) s rfl (Nat.mod_lt _ (by decide)) (by omega) (fun d hd1 hd2 => ?_) b hb4
       · omega
       · by_cases hd : d = 1
         · subst hd
           rw [show ((bank + 1) % 4 + 4 - 1) % 4 = bank by omega]; exact h1
         · have := h (d - 1) (by omega) (by omega)
           rwa [show (bank + 4 - (d - 1)) % 4 = ((bank + 1) % 4 + 4 - d) % 4 by omega] at this
     · rw [sweep_busy h4 rfl hl]
       exact ih _ (by omega) ((bank + 1) % 4) 0 _ rfl (Nat.mod_lt _ (by decide)) (by omega) (fun d hd1 hd2 => by omega) b hb4
   · rw [sweep_end h4]
     have hi4 : idle = 4 := by omega
     by_cases hbb : b < bank
     · have := h (bank - b) (by omega) (by omega)
       rwa [show (bank + 4 - (bank - b)) % 4 = b by omega] at this
     · have := h (bank + 4 - b) (by omega) (by omega)
       rwa [show (bank + 4 - (bank + 4 - b)) % 4 = b by omega] at this
theorem sweepM_rests {c : H} {ps : List PayS} (hg : goodB c ps = true) (b : Nat) (hb : b < 4) : firstM (sweepM c ps).c (sweepM c ps).ps b = none := by
 simp only [sweepM, hg, cond_true]
 exact sweep_rests _ 0 0 _ rfl (by decide) (by decide) (fun d h1 h2 => by omega) b hb
def Chain (c : H) (ps : List PayS) : List Int → Prop
 | [] => True
 | i :: r => (∃ b : Nat, b < 4 ∧ firstM c ps b = some i) ∧ Chain (settleC c ps i) (settleP ps i) r
def chainC (c : H) (ps : List PayS) : List Int → H
 | [] => c
 | i :: r => chainC (settleC c ps i) (settleP ps i) r
def chainP (ps : List PayS) : List Int → List PayS
 | [] => ps
 | i :: r => chainP (settleP ps i) r
def Goes (s t : QS) : Prop := ∃ r, t.xs = s.xs ++ r ∧ Chain s.c s.ps r ∧ t.c = chainC s.c s.ps r ∧ t.ps = chainP s.ps r
theorem Goes.refl (s : QS) : Goes s s := ⟨[], by simp, trivial, rfl, rfl⟩
theorem Goes.cons {s t : QS} {b : Nat} {i : Int} (hb : b < 4) (h : firstM s.c s.ps b = some i) (ht : Goes (s.go i) t) : Goes s t := by
 obtain ⟨r, h1, h2, h3, h4⟩ := ht
 exact ⟨i :: r, by rw [h1]; simp [QS.go], ⟨⟨b, hb, h⟩, h2⟩, h3, h4⟩
theorem chain_append : ∀ (r q : List Int) (c : H) (ps : List PayS), Chain c ps r → Chain (chainC c ps r) (chainP ps r) q → Chain c ps (r ++ q) ∧ chainC c ps (r ++ q) = chainC (chainC c ps r) (chainP ps r) q ∧ chainP ps (r ++ q) = chainP (chainP ps r) q
 | [], q, c, ps, _, h => ⟨h, rfl, rfl⟩
 | i :: r, q, c, ps, h1, h2 => by
   obtain ⟨e1, e2, e3⟩ := chain_append r q _ _ h1.2 h2
   exact ⟨⟨h1.1, e1⟩, e2, e3⟩
theorem Goes.trans {s t u : QS} (h1 : Goes s t) (h2 : Goes t u) : Goes s u := by
 obtain ⟨r, a1, a2, a3, a4⟩ := h1
 obtain ⟨q, b1, b2, b3, b4⟩ := h2
 rw [a3, a4] at b2 b3
 rw [a4] at b4
 obtain ⟨e1, e2, e3⟩ := chain_append r q _ _ a2 b2
 exact ⟨r ++ q, by rw [b1, a1, List.append_assoc], e1, by rw [b3, e2], by rw [b4, e3]⟩
theorem drain_goes : ∀ (m : Nat) (b : Nat) (s : QS), b < 4 → cnt s.ps = m → Goes s (drain b s) := by
 intro m
 induction m using Nat.strongRecOn with
 | _ m ih =>
   intro b s hb hm
   cases hf : firstM s.c s.ps b with
   | none => rw [drain_end hf]; exact Goes.refl s
   | some i =>
     rw [drain_go hf]
     obtain ⟨p, r, _, h1, _⟩ := firstM_spec hf
     have := cnt_settle h1
     exact Goes.cons hb hf (ih (cnt (s.go i).ps) (by simp only [QS.go]; omega) b (s.go i) hb rfl)
theorem sweep_goes : ∀ (m bank idle : Nat) (s : QS), 5 * cnt s.ps + (4 - idle) = m → bank < 4 → Goes s (sweepFrom bank idle s) := by
 intro m
 induction m using Nat.strongRecOn with
 | _ m ih =>
   intro bank idle s hm hb
   by_cases h4 : idle < 4
   · have hf := drain_facts bank s
     have hd := drain_goes _ bank s hb rfl
     by_cases hl : (drain bank s).xs.length = s.xs.length
     · rw [sweep_idle h4 rfl hl]
       exact hd.trans (ih _ (by omega) _ _ _ rfl (Nat.mod_lt _ (by decide)))
     · rw [sweep_busy h4 rfl hl]
       exact hd.trans (ih _ (by omega) _ _ _ rfl (Nat.mod_lt _ (by decide)))
   · rw [sweep_end h4]; exact Goes.refl s
theorem sweepM_goes {c : H} {ps : List PayS} (hg : goodB c ps = true) : Chain c ps (sweepM c ps).xs ∧ (sweepM c ps).c = chainC c ps (sweepM c ps).xs ∧ (sweepM c ps).ps = chainP ps (sweepM c ps).xs := by
 simp only [sweepM, hg, cond_true]
 obtain ⟨r, h1, h2, h3, h4⟩ := sweep_goes _ 0 0 ⟨c, ps, []⟩ rfl (by decide)
 simp only [List.nil_append] at h1
 rw [h1]
 exact ⟨h2, h3, h4⟩
end Go.Proofs.Ytmkboljfbmlebac
namespace Go.Proofs.Ytmkboljfbmlebac
open Go.RowKit
set_option linter.unusedSimpArgs false
set_option linter.unusedVariables false
def moveQ (ps : List PayS) (bank : Int) (x : H) : List Int → H
 | [] => x
 | i :: r => moveQ ps bank (match ps[i.toNat]? with | some p => moveM x bank p.dst p.amt | none => x) r
theorem moveQ_snoc (ps : List PayS) (bank : Int) : ∀ (xs : List Int) (x : H) (i : Int), moveQ ps bank x (xs ++ [i]) = (match ps[i.toNat]? with | some p => moveM (moveQ ps bank x xs) bank p.dst p.amt | none => moveQ ps bank x xs)
 | [], x, i => rfl
 | j :: r, x, i => by simp only [List.cons_append, moveQ]; exact moveQ_snoc ps bank r _ i
def movesTo (h : H) (ps : List PayS) (n : Int → Int) : Nat → H
 | 0 => h
 | b + 1 => moveQ ps b (movesTo h ps n b) ((queueM ps b).take (n b).toNat)
def okBank (x : H) (b : Int) : Bool := !decide (wr (x.has b + x.cred b) < 0) && a4 fun t => !(decide (0 ≤ x.lim b t) && decide (x.lim b t < wr (x.sent b t - x.sent t b)))
def togetherM (h : H) (ps : List PayS) (n : Int → Int) : Bool :=
 goodB h ps && (a4 fun b => withinB (n b) 0 (queueM ps b).length) && a4 fun b => decide (n b = 0) || okBank (movesTo h ps n 4) b
def amtOf (ps : List PayS) (i : Int) : Int := match ps[i.toNat]? with | some p => p.amt | none => 0
def toOf (ps : List PayS) (d i : Int) : Int := match ps[i.toNat]? with | some p => if p.dst = d then p.amt else 0 | none => 0
def outS (ps : List PayS) : List Int → Int
 | [] => 0
 | i :: r => amtOf ps i + outS ps r
def toS (ps : List PayS) (d : Int) : List Int → Int
 | [] => 0
 | i :: r => toOf ps d i + toS ps d r
def GoodL (ps : List PayS) (bank : Int) (xs : List Int) : Prop := ∀ i ∈ xs, ∃ p, ps[i.toNat]? = some p ∧ goodTransferB bank p.dst p.amt = true
structure Near (k : Int) (h : H) : Prop where
 has : ∀ i : Int, 0 ≤ i ∧ i < 4 → -1099511627776 - k * 1000000 ≤ h.has i ∧ h.has i ≤ 1099511627776 + k * 1000000
 sent : ∀ i j : Int, 0 ≤ i ∧ i < 4 → 0 ≤ j ∧ j < 4 → 0 ≤ h.sent i j ∧ h.sent i j ≤ 1099511627776 + k * 1000000
theorem GoodH.near {h : H} (g : GoodH h) : Near 0 h := ⟨fun i hi => by have := g.has i hi; omega, fun i j hi hj => by have := g.sent i j hi hj; omega⟩
theorem move_at {h : H} {k : Int} (hn : Near k h) (hk : k ≤ 1000000) {a b n : Int} (ht : goodTransferB a b n = true) :
   moveM h a b n = { h with has := up1 (up1 h.has a (h.has a - n)) b (h.has b + n), sent := up2 h.sent a b (h.sent a b + n) } := by
 obtain ⟨ha, hb, hne, h1, h2⟩ := transfer_spec ht
 have e1 := hn.has a ha
 have e2 := hn.has b hb
 have e3 := hn.sent a b ha hb
 unfold moveM
 rw [if_pos ht]
 have x1 : wr (h.has a - n) = h.has a - n := wr_in (by omega) (by omega)
 have x2 : up1 h.has a (wr (h.has a - n)) b = h.has b := by unfold up1; rw [if_neg (fun e => hne e.symm)]
 rw [x2, x1, wr_in (show -9223372036854775808 ≤ h.has b + n by omega) (by omega), wr_in (show -9223372036854775808 ≤ h.sent a b + n by omega) (by omega)]
theorem moveQ_spec (ps : List PayS) (bank : Int) : ∀ (xs : List Int) (h : H) (k : Int), GoodL ps bank xs → Near k h → 0 ≤ k → k + xs.length ≤ 1000000 →
   (∀ i : Int, 0 ≤ i ∧ i < 4 → (moveQ ps bank h xs).has i = h.has i - (if i = bank then outS ps xs else 0) + toS ps i xs) ∧
   (∀ i j : Int, 0 ≤ i ∧ i < 4 → 0 ≤ j ∧ j < 4 → (moveQ ps bank h xs).sent i j = h.sent i j + (if i = bank then toS ps j xs else 0)) ∧
   (moveQ ps bank h xs).cred = h.cred ∧ (moveQ ps bank h xs).lim = h.lim ∧ Near (k + xs.length) (moveQ ps bank h xs)
 | [], h, k, _, hn, _, _ => ⟨fun i _ => by simp [moveQ, outS, toS], fun i j _ _ => by simp [moveQ, toS], rfl, rfl, by simpa [moveQ] using hn⟩
 | x :: r, h, k, hg, hn, h0, hk => by
   obtain ⟨p, hp, ht⟩ := hg x (by simp)
   simp only [List.length_cons] at hk
   obtain ⟨ha, hb, hne, h1, h2⟩ := transfer_spec ht
   have hm := move_at hn (by omega) ht
   have hn' : Near (k + 1) (moveM h bank p.dst p.amt) := by
     rw [hm]
     refine ⟨fun i hi => ?_, fun i j hi hj => ?_⟩
     · have e1 := hn.has i hi
       simp only [up1]
       split
       · rename_i e; subst e; omega
       · split
         · rename_i e; subst e; omega
         · omega
     · have e1 := hn.sent i j hi hj
       simp only [up2]
       split
       · rename_i e; obtain ⟨e2, e3⟩ := e; subst e2; subst e3; omega
       · omega
   obtain ⟨i1, i2, i3, i4, i5⟩ := moveQ_spec ps bank r (moveM h bank p.dst p.amt) (k + 1) (fun i hi => hg i (by simp [hi])) hn' (by omega) (by omega)
   have hq : moveQ ps bank h (x :: r) = moveQ ps bank (moveM h bank p.dst p.amt) r := by simp only [moveQ, hp]
   rw [hq]
   refine ⟨fun i hi => ?_, fun i j hi hj => ?_, ?_, ?_, ?_⟩
   · rw [i1 i hi, hm]
     simp only [up1, outS, toS, amtOf, toOf, hp]
     by_cases e1 : i = p.dst
     · rw [e1]
       have e2 : ¬ p.dst = bank := fun e => hne e.symm
       simp only [e2, if_true, if_false]; omega
     · have e1' : ¬ p.dst = i := fun e => e1 e.symm
       by_cases e2 : i = bank
       · rw [e2]
         rw [e2] at e1 e1'
         simp only [e1, e1', if_true, if_false]; omega
       · simp only [e1, e1', e2, if_false]; omega
   · rw [i2 i j hi hj, hm]
     simp only [up2, toS, toOf, hp]
     by_cases e1 : i = bank
     · rw [e1]
       by_cases e2 : j = p.dst
       · rw [e2]; simp only [and_self, if_true]; omega
       · have e2' : ¬ p.dst = j := fun e => e2 e.symm
         simp only [e2, e2', and_false, if_true, if_false]; omega
     · simp only [e1, false_and, if_false]
   · rw [i3, hm]
   · rw [i4, hm]
   · have : k + ((x :: r).length : Int) = k + 1 + (r.length : Int) := by simp only [List.length_cons]; omega
     rw [this]; exact i5
theorem toOf_nonneg {ps : List PayS} {bank : Int} {xs : List Int} (hg : GoodL ps bank xs) (d : Int) : ∀ i ∈ xs, 0 ≤ toOf ps d i := fun i hi => by
 obtain ⟨p, hp, ht⟩ := hg i hi
 obtain ⟨_, _, _, h1, h2⟩ := transfer_spec ht
 simp only [toOf, hp]
 split <;> omega
theorem toS_take (ps : List PayS) (d : Int) : ∀ (xs : List Int), (∀ i ∈ xs, 0 ≤ toOf ps d i) → ∀ (a b : Nat), a ≤ b → toS ps d (xs.take a) ≤ toS ps d (xs.take b)
 | [], _, a, b, _ => by simp [toS]
 | x :: r, h, a, b, hab => by
   cases a with
   | zero =>
     have : ∀ ys : List Int, (∀ i ∈ ys, 0 ≤ toOf ps d i) → 0 ≤ toS ps d ys := by
       intro ys
       induction ys with
       | nil => intro _; simp [toS]
       | cons y r ih => intro h; have := h y (by simp); have := ih (fun i hi => h i (by simp [hi])); simp only [toS]; omega
     simp only [List.take_zero, toS]
     exact this _ (fun i hi => h i (List.mem_of_mem_take hi))
   | succ a =>
     cases b with
     | zero => omega
     | succ b =>
       simp only [List.take_succ_cons, toS]
       have := toS_take ps d r (fun i hi => h i (by simp [hi])) a b (by omega)
       omega
end Go.Proofs.Ytmkboljfbmlebac
namespace Go.Proofs.Ytmkboljfbmlebac
open Go.RowKit
set_option linter.unusedSimpArgs false
set_option linter.unusedVariables false
theorem same_core {h k : H} {ps : List PayS} (hc : h.core = k.core) (hl : h.pl = k.pl) : sameB h ps k ps = true := by
 have e1 : h.has = k.has := show h.core.has = k.core.has by rw [hc]
 have e2 : h.cred = k.cred := show h.core.cred = k.core.cred by rw [hc]
 have e3 : h.sent = k.sent := show h.core.sent = k.core.sent by rw [hc]
 have e4 : h.lim = k.lim := show h.core.lim = k.core.lim by rw [hc]
 have e5 : h.next = k.next := show h.core.next = k.core.next by rw [hc]
 exact same_of (fun i _ => ⟨by rw [e1], by rw [e2]⟩) (fun i j _ _ => ⟨by rw [e3], by rw [e4]⟩) e5 hl
theorem chainP_len : ∀ (r : List Int) (ps : List PayS), (chainP ps r).length = ps.length
 | [], _ => rfl
 | i :: r, ps => by simp only [chainP]; rw [chainP_len r, settleP_len]
theorem chain_len : ∀ (r : List Int) (c : H) (ps : List PayS), Chain c ps r → r.length ≤ cnt ps
 | [], _, _, _ => by simp
 | i :: r, c, ps, h => by
   obtain ⟨⟨b, _, hf⟩, h2⟩ := h
   obtain ⟨p, _, _, h3, _⟩ := firstM_spec hf
   have := cnt_settle h3
   have := chain_len r _ _ h2
   simp only [List.length_cons]; omega
theorem sweepM_len (c : H) (ps : List PayS) : (sweepM c ps).ps.length = ps.length ∧ (sweepM c ps).xs.length ≤ ps.length := by
 cases hg : goodB c ps
 · simp [sweepM, hg]
 · obtain ⟨h1, h2, h3⟩ := sweepM_goes hg
   refine ⟨by rw [h3, chainP_len], ?_⟩
   have := chain_len _ _ _ h1
   have h4 : cnt ps ≤ ps.length := List.countP_le_length
   omega
section
variable {P : Program} {f : Nat → Value} {l : List Oper} {T : Nat → (Addr → Value → Prop) → Value → Prop} {d : Nat} {op : Op} {ty : TypeId} {pos : String} {af : Array Edge} {C : World → Prop}
end
end Go.Proofs.Ytmkboljfbmlebac
namespace Go.Proofs.Ytmkboljfbmlebac
open Go.RowKit
set_option linter.unusedSimpArgs false
set_option linter.unusedVariables false
section
variable {P : Program} {n : Nat} {C0 C1 : World → Prop} {f : Nat → Value} {l : List Oper} {Ψ : Nat → Value → Prop} {Q : Exit → (Nat → Value) → World → Prop}
def Fix (Ψ : Nat → Value → Prop) : Nat → Value → World → Prop := fun d v _ => Ψ d v
def ObW (P : Program) (C0 C1 : World → Prop) (f : Nat → Value) (l : List Oper) (Ψ : Nat → Value → Prop) (o : Oper) : Prop :=
 ∀ g, (∀ t ∈ o.looksAt l.toArray, (t ∈ dstsOf l → Ψ t (g t)) ∧ (t ∉ dstsOf l → g t = f t)) → o.guard = none ∧ sC P l.toArray (fun g' w' => ∃ v, g' = updo g o.dst v ∧ C1 w' ∧ ∀ d, o.dst = some d → Ψ d v) [o] g C0
structure FlowInvW (C0 C1 : World → Prop) (j0 : Nat) (f : Nat → Value) (l : List Oper) (Ψ : Nat → Value → Prop) (s : Array Bool) (g : Nat → Value) (w : World) : Prop where
 size : s.size = l.length
 cls0 : s[j0]? = some false → C0 w
 cls1 : s[j0]? = some true → C1 w
 done : ∀ (i : Nat) (o : Oper) (d : Nat), l[i]? = some o → s[i]? = some true → o.dst = some d → Ψ d (g d)
 out : ∀ t, t ∉ dstsOf l → g t = f t
theorem d_flowW {id j0 : Nat} {o0 : Oper} (hm : P.follows .mixedOrders = true) (hB : opsB n l.toArray = true) (hF : flowB .any l = true) (hj0 : l[j0]? = some o0) (hC0 : ∀ w w', C0 w → Bel w.heap.size w w' → C0 w') (hC1 : ∀ w w', C1 w → Bel w.heap.size w w' → C1 w')
   (h0 : Obs P C0 f l (Fix Ψ) (l.eraseIdx j0)) (h1 : Obs P C1 f l (Fix Ψ) (l.eraseIdx j0)) (hst : ObW P C0 C1 f l Ψ o0)
   (k : ∀ g w, C1 w → (∀ d ∈ dstsOf l, Ψ d (g d)) → (∀ t, t ∉ dstsOf l → g t = f t) → Q .normal g w) : cC P n (.region id l.toArray true) Q f C0 := by
 simp only [flowB, Bool.and_eq_true, decide_eq_true_eq, List.all_eq_true] at hF
 obtain ⟨⟨hnd, hsel⟩, hall⟩ := hF
 have hop : ∀ (i : Nat) (o : Oper), l[i]? = some o → (∀ t ∈ o.looksAt l.toArray, ∀ (j : Nat) (u : Oper), l[j]? = some u → u.dst = some t → ∃ e ∈ o.after, Region.binds .any e = true ∧ e.on = j) ∧ (∀ e ∈ o.after, Region.binds .any e = true → e.on < i) := by
   intro i o hi
   have := hall (o, i) (List.mem_zipIdx_iff_getElem?.2 hi)
   simp only [Bool.and_eq_true, List.all_eq_true] at this
   obtain ⟨h1, h2⟩ := this
   refine ⟨fun t ht j u hj hu => ?_, fun e he hb => ?_⟩
   · have := h1 t ht (u, j) (List.mem_zipIdx_iff_getElem?.2 hj)
     simp [hu] at this
     obtain ⟨i', hi', e1, e2⟩ := this
     exact ⟨_, Array.getElem_mem hi', e1, e2⟩
   · have := Array.all_eq_true_iff_forall_mem.1 h2 e he
     simpa [hb] using this
 have hB' : ∀ o ∈ l, operB n l.toArray o = true := by simpa [opsB] using hB
 have hj0l : j0 < l.length := (List.getElem?_eq_some_iff.1 hj0).1
 have main : ∀ (fuel : Nat) (s : Array Bool) (g : Nat → Value) (w : World), FlowInvW C0 C1 j0 f l Ψ s g w → s.toList.countP unset ≤ fuel → wpAny P .any l.toArray (fun e a w => ∃ f, a = Fa n f ∧ Q e f w) fuel s (Fa n g) w := by
   have all : ∀ (s : Array Bool) (g : Nat → Value) (w : World), FlowInvW C0 C1 j0 f l Ψ s g w → Region.ready .any l.toArray s = [] → Q .normal g w := by
     intro s g w inv hr
     have hls : ∀ i, i < l.length → s[i]? = some true := by
       intro i
       induction i using Nat.strongRecOn with
       | _ i ih =>
         intro hi
         have his : i < s.size := by rw [inv.size]; exact hi
         cases hv : s[i] with
         | true => simp [his, hv]
         | false =>
           exfalso
           have : i ∈ Region.ready .any l.toArray s := mem_ready.2 ⟨by simp [Array.getD, his, hv], l[i], by simp [hi], fun e he hb => by
             have hlt := (hop i l[i] (by simp [hi])).2 e he hb
             have := ih e.on hlt (by omega)
             have hsz := (Array.getElem?_eq_some_iff.1 this)
             obtain ⟨h1, h2⟩ := hsz
             simp [Array.getD, h1, h2]⟩
           rw [hr] at this
           cases this
     refine k g w (inv.cls1 (hls j0 hj0l)) (fun d hd => ?_) inv.out
     obtain ⟨o, ho, hd'⟩ := List.mem_filterMap.1 hd
     obtain ⟨i, hi, he⟩ := List.getElem_of_mem ho
     exact inv.done i o d (by simp [hi, he]) (hls i hi) hd'
   intro fuel
   induction fuel with
   | zero =>
     intro s g w inv hc
     have hr : Region.ready .any l.toArray s = [] := by
       cases hr : Region.ready .any l.toArray s with
       | nil => rfl
       | cons i r =>
         exfalso
         have hi := (mem_ready.1 (show i ∈ Region.ready .any l.toArray s by rw [hr]; simp)).1
         have : false ∈ s.toList := by
           by_cases hs : i < s.size
           · simp [Array.getD, hs] at hi
             rw [← hi]; simp
           · simp [Array.getD, hs] at hi
         have := List.countP_pos_iff (p := unset).2 ⟨false, this, rfl⟩
         omega
     exact ⟨hr, g, rfl, all s g w inv hr⟩
   | succ fuel ih =>
     intro s g w inv hc
     refine ⟨fun hr => ⟨g, rfl, all s g w inv hr⟩, fun i hi => ?_⟩
     obtain ⟨hun, o, ho, hed⟩ := mem_ready.1 hi
     have hol : l[i]? = some o := by simpa using ho
     have hom : o ∈ l := List.mem_of_getElem? hol
     have his : i < s.size := by
       rcases Nat.lt_or_ge i s.size with h | h
       · exact h
       · have hn : ¬ i < s.size := by omega
         simp [Array.getD, hn] at hun
     have hfalse : s[i] = false := by simpa [Array.getD, his] using hun
     have hcount : (s.setIfInBounds i true).toList.countP unset ≤ fuel := by
       have e1 : unset (s.toList[i]'(by simpa using his)) = true := by simp [unset, hfalse]
       have h0 : 0 < s.toList.countP unset := List.countP_pos_iff.2 ⟨s.toList[i]'(by simpa using his), List.getElem_mem _, e1⟩
       rw [Array.toList_setIfInBounds, List.countP_set (by simpa using his), if_pos e1, if_neg (by simp [unset])]
       omega
     have hlk : ∀ t ∈ o.looksAt l.toArray, (t ∈ dstsOf l → Ψ t (g t)) ∧ (t ∉ dstsOf l → g t = f t) := fun t ht => ⟨fun htd => by
       obtain ⟨u, hu, hut⟩ := List.mem_filterMap.1 htd
       obtain ⟨j, hj, he⟩ := List.getElem_of_mem hu
       have hj' : l[j]? = some u := by simp [hj, he]
       obtain ⟨e, he1, he2, he3⟩ := (hop i o hol).1 t ht j u hj' hut
       have := hed e he1 he2
       rw [he3] at this
       refine inv.done j u t hj' ?_ hut
       have hjs : j < s.size := by rw [inv.size]; exact hj
       simp [Array.getD, hjs] at this
       simp [hjs, this], inv.out t⟩
     have next : ∀ v w', ((s.setIfInBounds i true)[j0]? = some false → C0 w') → ((s.setIfInBounds i true)[j0]? = some true → C1 w') → (∀ d, o.dst = some d → Ψ d v) → FlowInvW C0 C1 j0 f l Ψ (s.setIfInBounds i true) (updo g o.dst v) w' := by
       intro v w' hc0 hc1 hv
       refine ⟨by simp [inv.size], hc0, hc1, fun j u d hj hs hu => ?_, fun t ht => ?_⟩
       · by_cases hji : j = i
         · subst hji
           rw [hol] at hj
           simp at hj; subst hj
           rw [hu]
           simp only [updo, upd_same]
           exact hv d hu
         · have hs' : s[j]? = some true := by rw [Array.getElem?_setIfInBounds_ne (Ne.symm hji)] at hs; exact hs
           have hne : o.dst ≠ some d := fun e => hji (dst_unique hnd hj hol hu e)
           have := inv.done j u d hj hs' hu
           cases hod : o.dst with
           | none => exact this
           | some d' =>
             simp only [updo]
             rw [upd_other g v (fun e => hne (by rw [hod, e]))]
             exact this
       · cases hod : o.dst with
         | none => exact inv.out t ht
         | some d' =>
           simp only [updo]
           rw [upd_other g v (fun e => ht (List.mem_filterMap.2 ⟨o, hom, by rw [hod, e]⟩))]
           exact inv.out t ht
     have hob : if Region.wanted o (yf l.toArray g) then opk P o g w (fun g' w' => ∃ v, g' = updo g o.dst v ∧ FlowInvW C0 C1 j0 f l Ψ (s.setIfInBounds i true) (updo g o.dst v) w') else FlowInvW C0 C1 j0 f l Ψ (s.setIfInBounds i true) (updo g o.dst undef) w := by
       by_cases hij : i = j0
       · subst hij
         rw [hol] at hj0
         simp at hj0; subst hj0
         obtain ⟨hgd, hsc⟩ := hst g hlk
         have hc0 := inv.cls0 (by simp [his, hfalse])
         have := hsc w hc0
         have hwt : Region.wanted o (yf l.toArray g) = true := by
           unfold Region.wanted; rw [hgd]
         unfold sw at this
         rw [if_pos hwt] at this ⊢
         unfold opk at this ⊢
         have fin : ∀ g' w', (∃ v, g' = updo g o.dst v ∧ C1 w' ∧ ∀ d, o.dst = some d → Ψ d v) → ∃ v, g' = updo g o.dst v ∧ FlowInvW C0 C1 i f l Ψ (s.setIfInBounds i true) (updo g o.dst v) w' := by
           rintro g' w' ⟨v, e, hc1, hv⟩
           exact ⟨v, e, next v w' (fun hx => by simp [his] at hx) (fun _ => hc1) hv⟩
         generalize (execOp (ev g) o).run P w = r at this ⊢
         cases r with
         | ok nx w' =>
           cases nx <;> simp only at this ⊢
           case value v => exact fin _ _ this
           case skip => exact fin _ _ this
           case enter fn args => exact Calls.mono this fun e w'' ⟨v, he, h⟩ => ⟨v, he, fin _ _ h⟩
         | halt x w' => exact this
       · have hmem : o ∈ l.eraseIdx j0 := List.mem_eraseIdx_iff_getElem?.2 ⟨i, hij, hol⟩
         have hsj : (s.setIfInBounds i true)[j0]? = s[j0]? := Array.getElem?_setIfInBounds_ne hij
         have both : ∀ C : World → Prop, (∀ w w', C w → Bel w.heap.size w w' → C w') → Obs P C f l (Fix Ψ) (l.eraseIdx j0) → C w → ((s[j0]? = some false → C = C0) ∧ (s[j0]? = some true → C = C1)) →
             if Region.wanted o (yf l.toArray g) then opk P o g w (fun g' w' => ∃ v, g' = updo g o.dst v ∧ FlowInvW C0 C1 j0 f l Ψ (s.setIfInBounds i true) (updo g o.dst v) w') else FlowInvW C0 C1 j0 f l Ψ (s.setIfInBounds i true) (updo g o.dst undef) w := by
           intro C hC hO hw hcc
           have hb := hO.mem o hmem g w hw hlk
           have nx : ∀ v w', Bel w.heap.size w w' → (∀ d, o.dst = some d → Ψ d v) → FlowInvW C0 C1 j0 f l Ψ (s.setIfInBounds i true) (updo g o.dst v) w' := fun v w' hbel hv =>
             next v w' (fun hx => by rw [hsj] at hx; rw [← hcc.1 hx]; exact hC w w' hw hbel) (fun hx => by rw [hsj] at hx; rw [← hcc.2 hx]; exact hC w w' hw hbel) hv
           split
           · rename_i hwt
             rw [if_pos hwt] at hb
             unfold opk at hb ⊢
             generalize (execOp (ev g) o).run P w = r at hb ⊢
             cases r with
             | ok nx' w' =>
               cases nx' <;> simp only at hb ⊢
               case value v => obtain ⟨v', e, hbel, hv⟩ := hb; exact ⟨v', e, nx v' w' hbel hv⟩
               case skip => obtain ⟨v', e, hbel, hv⟩ := hb; exact ⟨v', e, nx v' w' hbel hv⟩
               case enter fn args => exact Calls.mono hb fun e w'' ⟨v, he, v', e', hbel, hv⟩ => ⟨v, he, v', e', nx v' w'' hbel hv⟩
             | halt x w' => exact hb
           · rename_i hwt
             rw [if_neg hwt] at hb
             exact nx undef w (Bel.refl _ _) hb
         have hjs : j0 < s.size := by rw [inv.size]; exact hj0l
         cases hv : s[j0] with
         | false =>
           have e : s[j0]? = some false := by simp [hjs, hv]
           exact both C0 hC0 h0 (inv.cls0 e) ⟨fun _ => rfl, fun h => by rw [e] at h; simp at h⟩
         | true =>
           have e : s[j0]? = some true := by simp [hjs, hv]
           exact both C1 hC1 h1 (inv.cls1 e) ⟨fun h => by rw [e] at h; simp at h, fun _ => rfl⟩
     unfold wpOp
     simp only [ho]
     rw [Fa_wanted (hB' o hom)]
     split
     · rename_i hw
       rw [if_pos hw] at hob
       refine Or.inl ?_
       unfold Oper.wp
       rw [Fa_exec (hB' o hom)]
       unfold opk at hob
       generalize (execOp (ev g) o).run P w = r at hob
       cases r with
       | ok nx w' =>
         cases nx <;> simp only at hob <;> simp only [Oper.upon]
         case value v =>
           obtain ⟨v', e, hinv⟩ := hob
           rw [Fa_put, e]
           exact ih _ _ _ hinv hcount
         case skip =>
           obtain ⟨v', e, hinv⟩ := hob
           rw [Fa_put, e]
           exact ih _ _ _ hinv hcount
         case enter fn args =>
           refine Calls.mono hob fun e w'' ⟨v, he, v', e', hinv⟩ => ?_
           subst he
           show wpAny P .any l.toArray _ fuel _ ((Fa n g).put o.dst v) w''
           rw [Fa_put, e']
           exact ih _ _ _ hinv hcount
       | halt x w' => exact hob.elim
     · rename_i hw
       rw [if_neg hw] at hob
       rw [Fa_put]
       exact ih _ _ _ hob hcount
 intro w hw
 refine wp_region_any hm ?_
 refine main _ _ f w.drew ⟨by simp, fun _ => hC0 w _ hw ((Bel.refl _ _).drew), fun hx => ?_, fun i o d hi hs hd => ?_, fun _ _ => rfl⟩ ?_
 · rw [Array.getElem?_replicate] at hx
   split at hx <;> simp at hx
 · rw [Array.getElem?_replicate] at hs
   split at hs <;> simp at hs
 · have := List.countP_le_length (p := unset) (l := (Array.replicate l.toArray.size false).toList)
   simpa using this
def rowV (d : Nat) (v : Value) (T : Nat → Value → Prop) : Nat → Value → Prop := fun i => bif Nat.beq i d then (fun u => u = v) else T i
def AnyV : Nat → Value → Prop := fun _ _ => True
theorem ow_end {g : Nat → Value} {ops : Array Oper} : sC P ops (fun g' w' => ∃ v, g' = updo g none v ∧ C1 w' ∧ ∀ d, (none : Option Nat) = some d → Ψ d v) [] g C1 := fun w hw => ⟨undef, rfl, hw, fun d h => by cases h⟩
variable {w0 : World} {F : Addr → Value → Prop} {L L' : List (Nat × Obj)}
theorem fw_seq {id j0 : Nat} {o0 : Oper} {y : Code} (hm : P.follows .mixedOrders = true) (hB : opsB n l.toArray = true) (hF : flowB .any l = true) (hj0 : l[j0]? = some o0)
   (h0 : Obs P (Has w0 F L) f l (Fix Ψ) (l.eraseIdx j0)) (h1 : Obs P (Has w0 F L') f l (Fix Ψ) (l.eraseIdx j0)) (hst : ObW P (Has w0 F L) (Has w0 F L') f l Ψ o0)
   (k : ∀ g, (∀ d ∈ dstsOf l, Ψ d (g d)) → (∀ t, t ∉ dstsOf l → g t = f t) → cC P n y Q g (Has w0 F L')) : cC P n (.seq (.region id l.toArray true) y) Q f (Has w0 F L) :=
 c_seq (d_flowW hm hB hF hj0 (fun w w' hw hb => hw.below hb) (fun w w' hw hb => hw.below hb) h0 h1 hst (fun g w hw h1 h2 => k g h1 h2 w hw))
variable {d : Nat} {op : Op} {ty : TypeId} {pos : String} {af : Array Edge} {C : World → Prop}
theorem obw_val {v : Value} (h : ∀ (g : Nat → Value), (∀ t ∈ (⟨some d, op, ty, pos, af, none⟩ : Oper).looksAt l.toArray, (t ∈ dstsOf l → Ψ t (g t)) ∧ (t ∉ dstsOf l → g t = f t)) → Val P g C ⟨some d, op, ty, pos, af, none⟩ v ∧ Ψ d v) : Ob P C f l (Fix Ψ) ⟨some d, op, ty, pos, af, none⟩ := by
 intro g w hw hl
 rw [if_pos wanted_free]
 obtain ⟨hv, hp⟩ := h g hl
 unfold opk
 rw [hv.out w hw]
 exact ⟨v, rfl, Bel.refl _ _, fun e he => by simp at he; subst he; exact hp⟩
end
end Go.Proofs.Ytmkboljfbmlebac
namespace Go.Proofs.Ytmkboljfbmlebac
open Go.RowKit
set_option linter.unusedSimpArgs false
set_option linter.unusedVariables false
def sliceCells (P : Program) (T : TypeId) (len : Nat) (vs : List (Nat × Value)) : Option (TypeId × Array Value) := match P.underlying T with
 | some (.slice e) => match P.info? e with
   | some i => match i.zero with
     | some z => if len * i.size ≤ 100000 ∧ 0 < len * i.size then (Instr.fill (fun k => some (k * i.size, i.size)) ((Array.range (len * i.size)).map (z.cells[· % z.cells.size]!)) vs).map fun cs => (e, cs) else none
     | none => none
   | none => none
 | _ => none
section
variable {P : Program} {ops : Array Oper} {K : (Nat → Value) → World → Prop} {rest : List Oper} {f : Nat → Value} {d : Nat} {ty : TypeId} {pos : String} {af : Array Edge} {w0 : World} {F : Addr → Value → Prop} {E L : List (Nat × Obj)}
theorem s_buildS {T e len : Nat} {parts : List (Nat × Operand)} {vs : List (Nat × Value)} {cs : Array Value} (hv : parts.map (fun p => (p.1, ev f p.2)) = vs) (h : sliceCells P T len vs = some (e, cs))
   (kk : ∀ b, sC P ops K rest (upd f d (.slice (some ⟨b, 0, none⟩) len len)) (Has w0 F ((b, .cells cs e) :: L))) :
   sC P ops K (⟨some d, .buildSlice T len parts.toArray, ty, pos, af, none⟩ :: rest) f (Has w0 F L) := by
 intro w hw
 unfold sliceCells at h
 split at h
 · rename_i e' hu
   split at h
   · rename_i i hi
     split at h
     · rename_i z hz
       split at h
       · rename_i hb
         cases hfl : Instr.fill (fun k => some (k * i.size, i.size)) ((Array.range (len * i.size)).map (z.cells[· % z.cells.size]!)) vs with
         | none => rw [hfl] at h; cases h
         | some cs' =>
           rw [hfl] at h
           simp at h
           obtain ⟨rfl, rfl⟩ := h
           have hr := run_buildSlice (P := P) w T e' len vs.toArray cs' i z hu hi hz (by omega) (by omega) (by simpa using hfl)
           have e1 : (parts.toArray.map fun p => (p.1, ev f p.2)) = vs.toArray := by simp [hv]
           unfold sw
           rw [if_pos wanted_free]
           unfold opk
           have : (execOp (ev f) ⟨some d, .buildSlice T len parts.toArray, ty, pos, af, none⟩).run P w = .ok (.value (.slice (some ⟨w.heap.size, 0, none⟩) len len)) (w.alloc (.cells cs' e')) := by
             simp only [execOp]
             rw [e1]
             simp [hr]
           rw [this]
           exact kk _ _ (hw.alloc _)
       · cases h
     · cases h
   · cases h
 · cases h
end
end Go.Proofs.Ytmkboljfbmlebac
