import PyProof.Rows.All
import Wide.All
import OpenK.AllK
import Wide.FinOn
import HandS.ForMost
import HandS.Evl
import HandS.Wide
import HandS.WideBits
import HandS.Flow
import HandS.IsInst
import HandS.TupAny
import HandS.Walk
import HandS.Zip
import HandS.Steps
import KE.GoesMore
import KE.GoesEnum
import KE.KEqSeq
import HandS.ForExc
import HandS.ExcIs
import HandS.FStr
import HandS.StrMore
import PyProof.StrLawsFirst
import HandS.DictComp
import HandS.Small
import HandS.SetKeys
import HandS.Strs
import HandS.Style
import HandS.Zip
import HandS.Star
import PyProof.ZipIter
import PySem.Challenge.RW_signoff_k32_merged_circuits
set_option Elab.async false
set_option linter.all false
set_option maxRecDepth 100000
set_option maxHeartbeats 4000000
set_option Elab.async false
set_option linter.all false
set_option maxRecDepth 100000
set_option maxHeartbeats 4000000
namespace G
open PySem PySem.Spec PyProof.Rows L2 Evl
/-! ## defs by name -/
def Dfd (K : PySem.W.Frag) (mg : Str → Option Value) (x : Str) (st : Stmt) (ps : List Str) : Prop := ∃ (f : Addr) (fd : FuncData), Fun K x x st f fd ∧ mg x = some (.ref f) ∧ Binds K fd ps []
def Has (P : Program) (w : World) (K : PySem.W.Frag) (mg : Str → Option Value) (base : Heap) (k : Nat) (x : Str) (ps : List Str) (sp : Sp) : Prop :=
  ∃ (f : Addr) (fd : FuncData), FnOk P w K mg base CX0 k f fd ps sp ∧ mg x = some (.ref f) ∧ PySem.W.keepIn K (.ref f) = true ∧ Binds K fd ps []
section
variable {P : Program} {w : World} {K : PySem.W.Frag} {mg : Str → Option Value} {base : Heap}
theorem Dfd.has {x : Str} {st : Stmt} {ps : List Str} {k : Nat} {sp : Sp} (d : Dfd K mg x st ps) (h : ∀ f fd, Fun K x x st f fd → FnOk P w K mg base CX0 k f fd ps sp) : Has P w K mg base k x ps sp := by
  obtain ⟨f, fd, F, g, b⟩ := d
  exact ⟨f, fd, h f fd F, g, F.kp, b⟩
theorem Has.mono {x : Str} {ps : List Str} {j k : Nat} {sp : Sp} (h : Has P w K mg base j x ps sp) (l : j ≤ k) : Has P w K mg base k x ps sp := by
  obtain ⟨f, fd, F, g⟩ := h
  exact ⟨f, fd, F.mono l, g⟩
theorem Has.imp {x : Str} {ps : List Str} {k : Nat} {sp sp' : Sp} (h : Has P w K mg base k x ps sp) (i : ∀ vs H Q E, sp' vs H Q E → sp vs H Q E) : Has P w K mg base k x ps sp' := by
  obtain ⟨f, fd, F, g⟩ := h
  exact ⟨f, fd, F.imp i, g⟩
end
/-! ## heaps -/
theorem sq_ex {K : PySem.W.Frag} {H H' : Hp} {a : Addr} {xs : List V} (e : Ex H H') (h : SqL K H a xs) : SqL K H' a xs := ex_l e h
/-- the heap without what stands at p -/
def hid (p : Addr) (H : Hp) : Hp := fun b => if b = p then none else H b
theorem hid_self {p : Addr} {H : Hp} : hid p H p = none := by unfold hid; rw [if_pos rfl]
theorem hid_ne {p b : Addr} {H : Hp} (h : b ≠ p) : hid p H b = H b := by unfold hid; rw [if_neg h]
theorem hid_get {p b : Addr} {H : Hp} {o : HO} (h : hid p H b = some o) : H b = some o := by
  by_cases e : b = p
  · subst e; rw [hid_self] at h; cases h
  · rw [hid_ne e] at h; exact h
theorem hid_neq {p b : Addr} {H : Hp} {o : HO} (h : hid p H b = some o) : b ≠ p := by
  intro e; subst e; rw [hid_self] at h; cases h
theorem hid_ex {p : Addr} {H : Hp} : Ex (hid p H) H := fun _ _ h => hid_get h
theorem hid_upd {p : Addr} {H : Hp} {o : HO} : hid p (upd H p o) = hid p H := by
  funext b
  by_cases e : b = p
  · subst e; rw [hid_self, hid_self]
  · rw [hid_ne e, hid_ne e, upd_ne e]
theorem hid_upd_ne {p q : Addr} {H : Hp} {o : HO} (h : q ≠ p) : hid p (upd H q o) = upd (hid p H) q o := by
  funext b
  by_cases e2 : b = q
  · subst e2; rw [hid_ne h, upd_same, upd_same]
  · rw [upd_ne e2]
    by_cases e : b = p
    · subst e; rw [hid_self, hid_self]
    · rw [hid_ne e, hid_ne e, upd_ne e2]
theorem hid_none {p b : Addr} {H : Hp} (h : H b = none) : hid p H b = none := by
  unfold hid; split
  · rfl
  · exact h
/-! ## the pool of draws: the list at p, the script's copy at a -/
def PoolOk (p a : Addr) (H : Hp) : Prop := ∃ (ns : List Int) (i : Nat) (c k s : Int), H p = some (.lst [.ref a, .int i, .int c, .int k, .int s]) ∧ hid p H a = some (.lst (ns.map V.int)) ∧ ns.length ≤ 1000
/-- from H to H' all but the pool is kept, and the pool is a pool -/
structure Px (p a : Addr) (H H' : Hp) : Prop where
  was : PoolOk p a H
  pool : PoolOk p a H'
  ex : Ex (hid p H) (hid p H')
section
variable {p a : Addr} {H H1 H2 H' : Hp}
theorem Px.refl (h : PoolOk p a H) : Px p a H H := ⟨h, h, Ex.refl _⟩
theorem Px.trans (x : Px p a H H1) (y : Px p a H1 H2) : Px p a H H2 := ⟨x.was, y.pool, x.ex.trans y.ex⟩
theorem PoolOk.ne {b : Addr} (h : PoolOk p a H) (n : H b = none) : b ≠ p := by
  obtain ⟨_, _, _, _, _, e, _⟩ := h
  exact (ne_of_none e n).symm
theorem PoolOk.ne2 {b : Addr} (h : PoolOk p a H) (n : H b = none) : a ≠ b := by
  obtain ⟨_, _, _, _, _, _, e, _⟩ := h
  exact ne_of_none (hid_get e) n
theorem PoolOk.kept (h : PoolOk p a H) (e : Ex H H') : PoolOk p a H' := by
  obtain ⟨ns, i, c, k, s, h1, h2, h3⟩ := h
  exact ⟨ns, i, c, k, s, e _ _ h1, by rw [hid_ne (hid_neq h2)]; exact e _ _ (hid_get h2), h3⟩
theorem Px.ofEx (h : PoolOk p a H) (e : Ex H H') : Px p a H H' := ⟨h, h.kept e, fun b o hb => by rw [hid_ne (hid_neq hb)]; exact e _ _ (hid_get hb)⟩
theorem Px.more (x : Px p a H H1) (e : Ex H1 H2) : Px p a H H2 := x.trans (Px.ofEx x.pool e)
theorem Px.draw {o : HO} (w : PoolOk p a H) (h : PoolOk p a (upd H p o)) : Px p a H (upd H p o) := ⟨w, h, by rw [hid_upd]; exact Ex.refl _⟩
theorem Px.new (x : Px p a H H1) {l : Addr} {o : HO} (n : H1 l = none) : Px p a H (upd H1 l o) := x.more (Ex.new n)
/-- what H has is kept -/
theorem Px.get (x : Px p a H H1) {b : Addr} {o : HO} (h : hid p H b = some o) : hid p H1 b = some o := x.ex _ _ h
theorem Px.at_ (x : Px p a H H1) {b : Addr} {o : HO} (h : hid p H b = some o) : H1 b = some o := hid_get (x.ex _ _ h)
theorem Px.free (x : Px p a H H1) {b : Addr} (n : H1 b = none) : H b = none := by
  cases e : H b with
  | none => rfl
  | some o =>
    have hb : b ≠ p := x.pool.ne n
    have := x.ex b o (by rw [hid_ne hb]; exact e)
    rw [hid_get this] at n; cases n
/-- an object that H does not have may change -/
theorem Px.mut (x : Px p a H H1) {l : Addr} {o : HO} (n : H l = none) : Px p a H (upd H1 l o) := by
  have hl : l ≠ p := x.was.ne n
  have ha : a ≠ l := x.was.ne2 n
  refine ⟨x.was, ?_, ?_⟩
  · obtain ⟨ns, i, c, k, s, h1, h2, h3⟩ := x.pool
    exact ⟨ns, i, c, k, s, by rw [upd_ne hl.symm]; exact h1, by rw [hid_upd_ne hl, upd_ne ha]; exact h2, h3⟩
  · rw [hid_upd_ne hl]; exact Ex.mut x.ex (hid_none n)
/-- a fresh object stands apart from the pool -/
theorem Px.seen (x : Px p a H H1) {l : Addr} {o : HO} (n : H l = none) (e : H1 l = some o) : hid p H1 l = some o := by
  rw [hid_ne (x.was.ne n)]; exact e
end
end G
namespace G
open PySem PySem.Spec PyProof.Rows L2 Evl
/-! ## comprehensions whose elements are plain values -/
theorem given_all {n : Nat} {v : Nat → V} : given n (fun _ => true) v = (List.range n).map v := by
  unfold given
  rw [List.filter_eq_self.mpr (fun _ _ => rfl)]
section
variable {lo : Int} {n j : Nat} {tt : TT} {te : TE} {vs : List Nat} {σ : L2.St} {H1 : Hp} {D : Addr} {Qd : Hp → Prop} {K : PySem.W.Frag} {a : Addr} {xs : List V}
theorem lc_turn {f : Nat → Bool} {v : Nat → V} {i : Nat} {H : Hp} {σ2 : L2.St} (e : H = upd H1 D (.lst (given i f v))) (hi : i < 100000) (ht : Ans tt σ2 H (f i)) (he : f i = true → Val te σ2 H (v i)) :
    tt σ2 H fun b H3 => if b = true then te σ2 H3 fun y H4 => ∃ acc, H4 D = some (.lst acc) ∧ acc.length < sizeLine ∧ (upd H4 D (.lst (acc ++ [y]))) = upd H1 D (.lst (given (i + 1) f v)) else H3 = upd H1 D (.lst (given (i + 1) f v)) := by
  refine ht _ ?_
  subst e
  cases hf : f i with
  | true =>
    refine iteT (he hf _ ⟨_, upd_same, sz_lt (by have := given_len i f v; omega), ?_⟩)
    rw [given_yes hf, upd_upd]
  | false =>
    refine iteF ?_
    rw [given_no hf]
theorem lcR (f : Nat → Bool) (v : Nat → V) (hn : n ≤ 100000) (hw : ∀ x, wipe ((wipe σ vs).set j (some x)) vs = wipe σ vs)
    (ht : ∀ (i : Nat) (H : Hp), i < n → H = upd H1 D (.lst (given i f v)) → Ans tt ((wipe σ vs).set j (some (.int (lo + i)))) H (f i))
    (he : ∀ (i : Nat) (H : Hp), i < n → H = upd H1 D (.lst (given i f v)) → f i = true → Val te ((wipe σ vs).set j (some (.int (lo + i)))) H (v i)) (q : Qd (upd H1 D (.lst (given n f v)))) :
    ∃ W : Nat → Nat → Hp → Prop, (∃ m, W 0 m (upd H1 D (.lst []))) ∧ ∀ i m H, W i m H →
      ((Itr lo n).stop i H ∧ Qd H) ∨ ((Itr lo n).go i H ∧ ∃ Nx : Hp → Prop, (∀ H', Nx H' → ∃ m', m' < m ∧ W (i + 1) m' H') ∧ ∀ x H', (Itr lo n).yld i H x H' → gName j x (wipe σ vs) H' fun σ2 H2 => wipe σ2 vs = wipe σ vs ∧ tt σ2 H2 fun b H3 =>
        if b = true then te σ2 H3 fun y H4 => ∃ acc, H4 D = some (.lst acc) ∧ acc.length < sizeLine ∧ Nx (upd H4 D (.lst (acc ++ [y]))) else Nx H3) :=
  lc_range (fun i H => H = upd H1 D (.lst (given i f v))) rfl (fun i H hi e => ⟨hw _, lc_turn e (by omega) (ht i H hi e) (he i H hi e)⟩) (fun H e => by rw [e]; exact q)
theorem lcRv (v : Nat → V) (hn : n ≤ 100000) (hw : ∀ x, wipe ((wipe σ vs).set j (some x)) vs = wipe σ vs)
    (he : ∀ (i : Nat) (H : Hp), i < n → H = upd H1 D (.lst (given i (fun _ => true) v)) → Val te ((wipe σ vs).set j (some (.int (lo + i)))) H (v i)) (q : Qd (upd H1 D (.lst ((List.range n).map v)))) :
    ∃ W : Nat → Nat → Hp → Prop, (∃ m, W 0 m (upd H1 D (.lst []))) ∧ ∀ i m H, W i m H →
      ((Itr lo n).stop i H ∧ Qd H) ∨ ((Itr lo n).go i H ∧ ∃ Nx : Hp → Prop, (∀ H', Nx H' → ∃ m', m' < m ∧ W (i + 1) m' H') ∧ ∀ x H', (Itr lo n).yld i H x H' → gName j x (wipe σ vs) H' fun σ2 H2 => wipe σ2 vs = wipe σ vs ∧ tYes σ2 H2 fun b H3 =>
        if b = true then te σ2 H3 fun y H4 => ∃ acc, H4 D = some (.lst acc) ∧ acc.length < sizeLine ∧ Nx (upd H4 D (.lst (acc ++ [y]))) else Nx H3) :=
  lcR (fun _ => true) v hn hw (fun _ _ _ _ => fun _ q => q) (fun i H hi e _ => he i H hi e) (by rw [given_all]; exact q)
theorem lcL (f : Nat → Bool) (v : Nat → V) (hx : SqL K H1 a xs) (hD : H1 D = none) (hn : xs.length ≤ 100000) (hw : ∀ x, wipe ((wipe σ vs).set j (some x)) vs = wipe σ vs)
    (ht : ∀ (i : Nat) (x : V) (H : Hp), xs[i]? = some x → H = upd H1 D (.lst (given i f v)) → Ans tt ((wipe σ vs).set j (some x)) H (f i))
    (he : ∀ (i : Nat) (x : V) (H : Hp), xs[i]? = some x → H = upd H1 D (.lst (given i f v)) → f i = true → Val te ((wipe σ vs).set j (some x)) H (v i)) (q : Qd (upd H1 D (.lst (given xs.length f v)))) :
    ∃ W : Nat → Nat → Hp → Prop, (∃ m, W 0 m (upd H1 D (.lst []))) ∧ ∀ i m H, W i m H →
      ((Itl K a).stop i H ∧ Qd H) ∨ ((Itl K a).go i H ∧ ∃ Nx : Hp → Prop, (∀ H', Nx H' → ∃ m', m' < m ∧ W (i + 1) m' H') ∧ ∀ x H', (Itl K a).yld i H x H' → gName j x (wipe σ vs) H' fun σ2 H2 => wipe σ2 vs = wipe σ vs ∧ tt σ2 H2 fun b H3 =>
        if b = true then te σ2 H3 fun y H4 => ∃ acc, H4 D = some (.lst acc) ∧ acc.length < sizeLine ∧ Nx (upd H4 D (.lst (acc ++ [y]))) else Nx H3) :=
  lc_list (fun i H => H = upd H1 D (.lst (given i f v))) rfl (fun i H hi e => by rw [e]; exact ex_l (Ex.new hD) hx) (fun i x H hi e => ⟨hw _, lc_turn e (by have := (List.getElem?_eq_some_iff.mp hi).1; omega) (ht i x H hi e) (he i x H hi e)⟩) (fun H e => by rw [e]; exact q)
theorem lcT (f : Nat → Bool) (v : Nat → V) (hx : SqT K H1 a xs) (hD : H1 D = none) (hn : xs.length ≤ 100000) (hw : ∀ x, wipe ((wipe σ vs).set j (some x)) vs = wipe σ vs)
    (ht : ∀ (i : Nat) (x : V) (H : Hp), xs[i]? = some x → H = upd H1 D (.lst (given i f v)) → Ans tt ((wipe σ vs).set j (some x)) H (f i))
    (he : ∀ (i : Nat) (x : V) (H : Hp), xs[i]? = some x → H = upd H1 D (.lst (given i f v)) → f i = true → Val te ((wipe σ vs).set j (some x)) H (v i)) (q : Qd (upd H1 D (.lst (given xs.length f v)))) :
    ∃ W : Nat → Nat → Hp → Prop, (∃ m, W 0 m (upd H1 D (.lst []))) ∧ ∀ i m H, W i m H →
      ((Itt K a).stop i H ∧ Qd H) ∨ ((Itt K a).go i H ∧ ∃ Nx : Hp → Prop, (∀ H', Nx H' → ∃ m', m' < m ∧ W (i + 1) m' H') ∧ ∀ x H', (Itt K a).yld i H x H' → gName j x (wipe σ vs) H' fun σ2 H2 => wipe σ2 vs = wipe σ vs ∧ tt σ2 H2 fun b H3 =>
        if b = true then te σ2 H3 fun y H4 => ∃ acc, H4 D = some (.lst acc) ∧ acc.length < sizeLine ∧ Nx (upd H4 D (.lst (acc ++ [y]))) else Nx H3) :=
  lc_tup (fun i H => H = upd H1 D (.lst (given i f v))) rfl (fun i H hi e => by rw [e]; exact ex_t (Ex.new hD) hx) (fun i x H hi e => ⟨hw _, lc_turn e (by have := (List.getElem?_eq_some_iff.mp hi).1; omega) (ht i x H hi e) (he i x H hi e)⟩) (fun H e => by rw [e]; exact q)
theorem lcLm (g : V → V) (hx : SqL K H1 a xs) (hD : H1 D = none) (hn : xs.length ≤ 100000) (hw : ∀ x, wipe ((wipe σ vs).set j (some x)) vs = wipe σ vs)
    (he : ∀ (i : Nat) (x : V) (H : Hp), xs[i]? = some x → H = upd H1 D (.lst ((xs.take i).map g)) → Val te ((wipe σ vs).set j (some x)) H (g x)) (q : Qd (upd H1 D (.lst (xs.map g)))) :
    ∃ W : Nat → Nat → Hp → Prop, (∃ m, W 0 m (upd H1 D (.lst []))) ∧ ∀ i m H, W i m H →
      ((Itl K a).stop i H ∧ Qd H) ∨ ((Itl K a).go i H ∧ ∃ Nx : Hp → Prop, (∀ H', Nx H' → ∃ m', m' < m ∧ W (i + 1) m' H') ∧ ∀ x H', (Itl K a).yld i H x H' → gName j x (wipe σ vs) H' fun σ2 H2 => wipe σ2 vs = wipe σ vs ∧ tYes σ2 H2 fun b H3 =>
        if b = true then te σ2 H3 fun y H4 => ∃ acc, H4 D = some (.lst acc) ∧ acc.length < sizeLine ∧ Nx (upd H4 D (.lst (acc ++ [y]))) else Nx H3) :=
  lc_list (fun i H => H = upd H1 D (.lst ((xs.take i).map g))) (by rw [List.take_zero]; rfl) (fun i H hi e => by rw [e]; exact ex_l (Ex.new hD) hx)
    (fun i x H hi e => ⟨hw _, by
      refine iteT (B := H = upd H1 D (.lst ((xs.take (i + 1)).map g))) ?_
      refine he i x H hi e _ ?_
      subst e
      refine ⟨_, upd_same, sz_lt ?_, ?_⟩
      · rw [List.length_map, List.length_take]; have := (List.getElem?_eq_some_iff.mp hi).1; omega
      · rw [upd_upd, List.take_add_one, hi, List.map_append]; rfl⟩) (fun H e => by rw [e, List.take_length]; exact q)
theorem lcTm (g : V → V) (hx : SqT K H1 a xs) (hD : H1 D = none) (hn : xs.length ≤ 100000) (hw : ∀ x, wipe ((wipe σ vs).set j (some x)) vs = wipe σ vs)
    (he : ∀ (i : Nat) (x : V) (H : Hp), xs[i]? = some x → H = upd H1 D (.lst ((xs.take i).map g)) → Val te ((wipe σ vs).set j (some x)) H (g x)) (q : Qd (upd H1 D (.lst (xs.map g)))) :
    ∃ W : Nat → Nat → Hp → Prop, (∃ m, W 0 m (upd H1 D (.lst []))) ∧ ∀ i m H, W i m H →
      ((Itt K a).stop i H ∧ Qd H) ∨ ((Itt K a).go i H ∧ ∃ Nx : Hp → Prop, (∀ H', Nx H' → ∃ m', m' < m ∧ W (i + 1) m' H') ∧ ∀ x H', (Itt K a).yld i H x H' → gName j x (wipe σ vs) H' fun σ2 H2 => wipe σ2 vs = wipe σ vs ∧ tYes σ2 H2 fun b H3 =>
        if b = true then te σ2 H3 fun y H4 => ∃ acc, H4 D = some (.lst acc) ∧ acc.length < sizeLine ∧ Nx (upd H4 D (.lst (acc ++ [y]))) else Nx H3) :=
  lc_tup (fun i H => H = upd H1 D (.lst ((xs.take i).map g))) (by rw [List.take_zero]; rfl) (fun i H hi e => by rw [e]; exact ex_t (Ex.new hD) hx)
    (fun i x H hi e => ⟨hw _, by
      refine iteT (B := H = upd H1 D (.lst ((xs.take (i + 1)).map g))) ?_
      refine he i x H hi e _ ?_
      subst e
      refine ⟨_, upd_same, sz_lt ?_, ?_⟩
      · rw [List.length_map, List.length_take]; have := (List.getElem?_eq_some_iff.mp hi).1; omega
      · rw [upd_upd, List.take_add_one, hi, List.map_append]; rfl⟩) (fun H e => by rw [e, List.take_length]; exact q)
end
end G
namespace G
open PySem PySem.Spec PyProof.Rows L2 Evl
/-! ## rules within a comprehension's block: the written part by its letter -/
section
variable {X : Cx} {K : PySem.W.Frag}
theorem kIxT (h : X.K = K) : IxR X (rIxT K) := by subst h; exact ix_tup
theorem kIxL (h : X.K = K) : IxR X (rIxL K) := by subst h; exact ix_list
theorem kIx (h : X.K = K) : IxR X (rIx K) := by subst h; exact ix_seq
theorem kIn (h : X.K = K) : OpR X (compareOp .In) (rIn K false) := by subst h; exact op_in_seq
theorem kNotIn (h : X.K = K) : OpR X (compareOp .NotIn) (rIn K true) := by subst h; exact op_notIn_seq
theorem kLen (h : X.K = K) : CallR X (.builtin "len") (rLenS K) := by subst h; exact call_len_seq
theorem gStr {x s : Str} {t : Tok} {pos : Pos} (hg : Gl X x) (h : X.mg x = some (.str s t)) (hd : (x == ("__debug__" : Str)) = false := by decide) : PE X (.Name x pos) (tC (.str s)) := pe_glob (v := .str s) hg h ⟨t, rfl⟩ hd
theorem gInt {x : Str} {i : Int} {t : Tok} {pos : Pos} (hg : Gl X x) (h : X.mg x = some (.int i t)) (hd : (x == ("__debug__" : Str)) = false := by decide) : PE X (.Name x pos) (tC (.int i)) := pe_glob (v := .int i) hg h ⟨t, rfl⟩ hd
theorem gRef {x : Str} {a : Addr} {pos : Pos} (hg : Gl X x) (h : X.mg x = some (.ref a)) (hd : (x == ("__debug__" : Str)) = false := by decide) : PE X (.Name x pos) (tC (.ref a)) := pe_glob (v := .ref a) hg h rfl hd
theorem kSlL (h : X.K = K) : SlR X (rSlL K) := by subst h; exact sl_list
theorem kCatA (h : X.K = K) : OpR X (binaryOp .Add) (rCatA K) := by subst h; exact op_catA
theorem kAny (h : X.K = K) (hc : X.calm = true) : CallR X (.builtin "any") (rAny K) := by subst h; exact cr_any hc
theorem kAll (h : X.K = K) (hc : X.calm = true) : CallR X (.builtin "all") (rAll K) := by subst h; exact cr_all hc
theorem kLtT (h : X.K = K) (hu : X.A.units < cLine) : OpR X (compareOp .Lt) (rLtT K) := by subst h; exact op_ltT hu
theorem kPiT {e tg : Expr} {te : TE} (h : X.K = K) (he : PE X e te) : PI X tg e (iTup K te) := by subst h; exact pi_tup he
theorem kPiL {e tg : Expr} {te : TE} (h : X.K = K) (he : PE X e te) : PI X tg e (iList K te) := by subst h; exact pi_list he
theorem kSlA (h : X.K = K) : SlR X (rSlA K) := by subst h; exact sl_tupA
end
end G
namespace G
open PySem PySem.Spec PyProof.Rows L2 Evl
theorem dpAll_map {α : Type} {K : PySem.W.Frag} {H : Hp} {f : α → V} {g : α → PyData} (h : ∀ x, Dp K H (f x) (g x)) : ∀ l : List α, DpAll K H (l.map f) (l.map g)
  | [] => .nil
  | x :: r => .cons (h x) (dpAll_map h r)
theorem dp_ints {K : PySem.W.Frag} {H : Hp} {a : Addr} {ns : List Int} (h : SqL K H a (ns.map V.int)) : Dp K H (.ref a) (.list (ns.map PyData.int)) := .lst h (dpAll_map (fun i => .int i) ns)
theorem dp_nil {K : PySem.W.Frag} {H : Hp} {a : Addr} (h : SqL K H a []) : Dp K H (.ref a) (.list []) := .lst h .nil
theorem eqv_nil (l : List PyData) : PyData.eqv (.list l) (.list []) = l.isEmpty := by cases l <;> rfl
theorem shaped_nil : SeqAt.shaped (.list []) = true := by decide +kernel
end G
/-! enumerate over a tuple -/
namespace PySem
section
variable {prog : Program} {w : World} {A : Around} {E : Value → Shared → Prop} {s : Shared}
theorem G_tupOf {h : Heap} {a : Addr} {xs : Array Value} (p : PyProof.Rows.IsTup h a xs) : h.IsTuple a xs := p
set_option maxHeartbeats 2000000 in
theorem G_enumNew {v : Value} {o : Obj} {Hh : Heap → Prop} (B : Begins v o Hh) :
    Meets (Builtin.«enumerate.__new__» ⟨[.type "enumerate", v], []⟩) (fun _ R s => Hh s.heap ∧
      R (.ok (.ret (.ref (s.heap.push o).objs.size))) { s with heap := (s.heap.push o).push { cls := .type "enumerate", data := .fields #[.none, .bool false, .ref s.heap.objs.size, rawInt 0, .none, .none] } }) :=
  .of_wp fun pr wo ar rr sh hh => by
    obtain ⟨hp, gg, dd, tk, os⟩ := sh; obtain ⟨h1, h2⟩ := hh
    have sub0 := sub_enumerate
    have qq : ∀ {A' : Around} {E : Value → Shared → Prop} {Q : Value → Shared → Prop}, Q (.ref hp.objs.size) ⟨hp.push o, gg, dd, tk, os⟩ → wpAny (model pr wo) A' (pyIter v) Q E ⟨hp, gg, dd, tk, os⟩ :=
      fun z => B.iter pr wo _ _ ⟨hp, gg, dd, tk, os⟩ _ h1 z
    wp_walk using qq
    refine wpAny_stack_any fun _ => wpAny_pure ?_
    split
    · rename_i cc _ _ _ _ _
      cases (cc == Value.type "enumerate") <;> (wp_walk using qq; exact ⟨_, rfl, h2⟩)
    · wp_walk using qq
      exact ⟨_, rfl, h2⟩
theorem G_enumCall {v : Value} {o : Obj} {Hh : Heap → Prop} {Q : Value → Shared → Prop} (B : Begins v o Hh) (h1 : Hh s.heap)
    (k : ∀ h', IsEnum h' (s.heap.objs.size + 1) s.heap.objs.size 0 .none → h'.get? s.heap.objs.size = some o → (∀ b u, s.heap.get? b = some u → h'.get? b = some u) → Q (.ref (s.heap.objs.size + 1)) { s with heap := h' }) :
    wpAny (model prog w) A (call (.type "enumerate") [v]) Q E s := by
  refine callType_new F.called_enumerate (by decide) (F.typeCall_enumerate_1 _) (F.newCall_enumerate_1 _) (fun y => F.args_object_init_2 y _) F.entry_enumerate_new (G_enumNew B) ⟨h1, ?_⟩
  have hz : (s.heap.push o).objs.size = s.heap.objs.size + 1 := Heap.size_push ..
  show _ ∧ _
  rw [hz]
  have he : IsEnum ((s.heap.push o).push { cls := .type "enumerate", data := .fields #[.none, .bool false, .ref s.heap.objs.size, rawInt 0, .none, .none] }) (s.heap.objs.size + 1) s.heap.objs.size 0 .none := by
    have hs := Heap.get?_push_size (s.heap.push o) (o := { cls := .type "enumerate", data := .fields #[.none, .bool false, .ref s.heap.objs.size, rawInt 0, .none, .none] }) rfl
    rw [hz] at hs; exact hs
  exact ⟨⟨_, he, rfl⟩, k _ he (Heap.get?_push_of_some _ (Heap.get?_push_size _ B.free)) fun b u x => Heap.get?_push_of_some _ (Heap.get?_push_of_some _ x)⟩
end
end PySem
namespace G
open PySem PySem.Spec PyProof.Rows L2 Evl
/-- the tuple at a at each turn, each item in a new pair -/
def IteT (K : PySem.W.Frag) (a : Addr) : It :=
  ⟨fun i H => ∃ (xs : List V) (x : V), SqT K H a xs ∧ xs[i]? = some x,
   fun i H v H' => ∃ T x, v = .ref T ∧ H T = none ∧ H' = upd H T (.tup [.int (i : Nat), x]) ∧ ∀ xs, SqT K H a xs → xs[i]? = some x,
   fun i H => ∃ xs : List V, SqT K H a xs ∧ xs.length = i⟩
theorem turn_enumT {P : Program} {w : World} {K : PySem.W.Frag} {elts : List Expr} {kk : Nat} {tpos : Pos} (a e it : Addr) :
    Turn P w K (.Tuple elts kk tpos) (IteT K a) [e, it] e (fun i h => (∃ old, IsEnum h e it ((i : Nat) : Int) old) ∧ h.IsTupleIter it a i ∧ e ≠ it ∧ a ≠ it ∧ a ≠ e) where
  mem := by simp
  obj := fun i h st b hb => by
    obtain ⟨⟨old, he⟩, ⟨o, ho, hc, hd⟩, _⟩ := st
    have hb' : b = e ∨ b = it := by simpa using hb
    rcases hb' with z | z
    · rw [z]; exact ⟨_, he, fun v q => nomatch q⟩
    · rw [z]; exact ⟨o, ho, fun v q => by rw [hd] at q; cases q⟩
  keep := fun i h h' st k => by
    obtain ⟨⟨old, he⟩, hi, hne⟩ := st
    exact ⟨⟨old, k e (by simp) _ he⟩, hi.at fun o q => k it (by simp) o q, hne⟩
  item := by
    intro X hP hw hK hc i pins s σ H E I hf st hg
    subst hP hw hK
    obtain ⟨⟨old, he⟩, hit, hne, hai, hae⟩ := st
    obtain ⟨xs, x, hq, hx⟩ := hg
    obtain ⟨its, rv, p, hz⟩ := I.tuple hq
    obtain ⟨u, hu, ru⟩ := rv.get hx
    have hel : e < s.heap.objs.size := Heap.lt_size he
    have hil : it < s.heap.objs.size := by obtain ⟨_, q, _⟩ := hit; exact Heap.lt_size q
    have hh : X.A.handled = none := I.ok.hd hc
    refine wpAny_pyNext_enum_itemD (Draws.tuple (A := X.A.in1) hh it a hai its.toArray) he ⟨hit, p⟩ ?_ hne ?_ fun y h' tk hy ho hst hT hsz hk => ?_
    · have := (List.getElem?_eq_some_iff.mp hu).1
      simpa using this
    · intro hm
      have hm' : e = it ∨ e = a := by simpa using hm
      rcases hm' with z | z
      · exact hne z
      · exact hae z.symm
    · have ey : y = u := by
        have hy' : its[i]? = some y := by simpa using hy
        exact Option.some.inj (hy'.symm.trans hu)
      subst ey
      refine ⟨_, rfl, wpAny_letOwnedTupleGo_enum (s := { s with heap := h', toks := tk + 1 }) ho fun h'' he' sb => ?_⟩
      have hT2 : h''.get? s.heap.objs.size = some { cls := .type "tuple", data := .seq #[.int i tk, y] } := (sb.2 _ (Nat.ne_of_gt hel)).trans hT
      have new : ObjOk X.prog X.w (upd H s.heap.objs.size (.tup [.int (i : Nat), x])) h'' s.heap.objs.size (.tup [.int (i : Nat), x]) :=
        ⟨by show 2 ≤ sizeLine; decide, [.int i tk, y], .cons ⟨_, rfl⟩ (.cons ru .nil), ⟨_, hT2, rfl, _, rfl⟩⟩
      have I1 : Inv X pins σ (upd H s.heap.objs.size (.tup [.int (i : Nat), x])) { s with heap := h'', toks := tk + 1 } :=
        I.turnedNew (ch := [e, it]) (fun b ob hb q => (sb.2 b (fun z => hb (by simp [z]))).trans (hk b ob (fun z => hb (by simp [z])) (fun z => hb (by simp [z])) q)) hf (Nat.le_refl _) new
      refine ⟨.ref s.heap.objs.size, _, I1, rfl, ⟨_, x, rfl, I.hok.fresh (Nat.le_refl _), rfl, fun ys hy => by rw [I.tuple_inj hy hq]; exact hx⟩, ⟨⟨y, ?_⟩, hst.1.at fun o q => (sb.2 it (Ne.symm hne)).trans q, hne, hai, hae⟩, fun b hb => ?_⟩
      · have e1 : ((i + 1 : Nat) : Int) = (i : Int) + 1 := by omega
        rw [e1]; exact he'
      · have hb' : b < s.heap.objs.size := by
          have hb2 : b = e ∨ b = it := by simpa using hb
          rcases hb2 with z | z
          · rw [z]; exact hel
          · rw [z]; exact hil
        rw [upd_ne (Nat.ne_of_lt hb')]
        exact (hf b hb).1
  done := by
    intro X hP hw hK hc i pins s σ H E I hf st hg
    subst hP hw hK
    obtain ⟨⟨old, he⟩, hit, hne, hai, hae⟩ := st
    obtain ⟨xs, hq, hx⟩ := hg
    obtain ⟨its, rv, p, hz⟩ := I.tuple hq
    obtain ⟨f0, f1, f2, f3, f4, f5⟩ := hf it (by simp)
    have hl := rv.length
    have hh : X.A.handled = none := I.ok.hd hc
    have ei : its.toArray.size = i := by rw [List.size_toArray, ← hl]; exact hx
    have st2 : s.heap.IsTupleIter it a its.toArray.size ∧ s.heap.IsTuple a its.toArray := by rw [ei]; exact ⟨hit, p⟩
    exact wpAny_pyNext_enum_endD (Draws.tuple (A := X.A.in1) hh it a hai its.toArray) he st2 fun h' eb => ⟨rfl, I.turned (t' := s.toks) (fun b o hb q => eb b o hb q) f0 f1 f3 f4 f5⟩
  self := fun A i s Q E st h => by
    obtain ⟨⟨_, he⟩, _⟩ := st
    exact wpAny_pyIter_enum he h
def iEnumT (K : PySem.W.Frag) (ta : TA) : TI := fun σ H R => ta σ H fun vs H1 => ∃ a xs, vs = [.ref a] ∧ SqT K H1 a xs ∧ R (IteT K a) H1
theorem pi_enumT {X : Cx} {e : Expr} {ta : TA} {p pos tpos : Pos} {elts : List Expr} {kk : Nat} (hg : Gl X "enumerate") (hm : X.mg "enumerate" = none) (ha : PA X [e] ta) (hs : starEach [e] X.env = [(false, eval e X.env)] := by rfl) :
    PI X (.Tuple elts kk tpos) (.Call (.Name "enumerate" p) [e] [] pos) (iEnumT X.K ta) := by
  refine ⟨fun pins s σ H R I h => Call_ (ld_blt I hg hm boot_enumerate (PyProof.Rows.callWith_type1 (thn (ha.run pos pins s σ H _ I h) fun us s1 ⟨vs, H1, I1, r1, q1⟩ => ?_) hs rfl))⟩
  obtain ⟨a, xs, rfl, hq, q⟩ := q1
  cases r1 with
  | cons r rr =>
    cases rr
    cases r
    obtain ⟨its, rv, p', hz⟩ := I1.tuple hq
    have hal : a < s1.heap.objs.size := by obtain ⟨o, ho, _⟩ := p'; exact Heap.lt_size ho
    refine G_enumCall (begins_tuple a its.toArray) p' fun h' he hit hk => wpAny_pyIter_enum he ?_
    have I2 : Inv X pins σ H1 { s1 with heap := h' } := I1.kept (t' := s1.toks) hk
    refine ⟨s1.heap.objs.size + 1, [s1.heap.objs.size + 1, s1.heap.objs.size], _, _, H1, rfl, I2, turn_enumT a (s1.heap.objs.size + 1) s1.heap.objs.size,
      ⟨⟨.none, he⟩, ⟨_, hit, rfl, rfl⟩, Nat.succ_ne_self _, Nat.ne_of_lt hal, Nat.ne_of_lt (Nat.lt_succ_of_lt hal)⟩, fun b hb => ?_, q⟩
    have hb' : b = s1.heap.objs.size + 1 ∨ b = s1.heap.objs.size := by simpa using hb
    have hle : s1.heap.objs.size ≤ b := by
      rcases hb' with z | z
      · rw [z]; exact Nat.le_add_right _ _
      · rw [z]; exact Nat.le_refl _
    exact I1.fpOk hle (I1.hok.fresh hle)
theorem walk_enumT {K : PySem.W.Frag} {a : Addr} {xs : List V} : Walk (IteT K a) xs.length (fun H => SqT K H a xs) (YPair (fun i => some (.int (i : Nat))) (fun i => xs[i]?)) := by
  refine ⟨fun i _ hi q => ⟨xs, xs[i], q, by simp [hi]⟩, fun _ q => ⟨xs, q, rfl⟩, fun i H v H' _ q y => ?_⟩
  obtain ⟨T, x, h1, h2, h3, h4⟩ := y
  exact ⟨T, .int (i : Nat), x, h1, h2, h3, rfl, h4 xs q⟩
theorem kPiEnumT {X : Cx} {K : PySem.W.Frag} {e : Expr} {ta : TA} {p pos tpos : Pos} {elts : List Expr} {kk : Nat} (h : X.K = K) (hg : Gl X "enumerate") (hm : X.mg "enumerate" = none) (ha : PA X [e] ta) (hs : starEach [e] X.env = [(false, eval e X.env)] := by rfl) :
    PI X (.Tuple elts kk tpos) (.Call (.Name "enumerate" p) [e] [] pos) (iEnumT K ta) := by subst h; exact pi_enumT hg hm ha hs
end G
/-! t[a::2], t a tuple -/
namespace HT
open PySem PySem.Spec PyProof.Rows L2
section
variable {prog : Program} {w : World} {A : Around} {E : Value → Shared → Prop} {s : Shared}
theorem g_applied {sl : Addr} {vl vu vs : Value} {lo hi : Option Int} {st : Int} {n : Nat} {Q : Int × Int × Nat → Shared → Prop} (hs : s.heap.IsSliceOf sl vl vu vs) (pl : IsPart vl lo) (pu : IsPart vu hi) (ps : IsPart vs (some st)) (h0 : st ≠ 0)
    (h : Q ((Builtin.Slice.sliceAdjust lo hi st (n : Int)).1, st, Builtin.Slice.slicePlaces (Builtin.Slice.sliceAdjust lo hi st (n : Int)).1 (Builtin.Slice.sliceAdjust lo hi st (n : Int)).2 st) s) :
    wpAny (model prog w) A (Builtin.Slice.sliceApplied (.ref sl) (pure (n : Int))) Q E s := by
  obtain ⟨ob, hob, _, hd⟩ := id hs
  unfold Builtin.Slice.sliceApplied Builtin.Slice.sliceFields
  refine wpAny_bind (wpAny_bind (wpAny_field hob hd (x := vl) rfl (wpAny_bind (wpAny_field hob hd (x := vu) rfl (wpAny_bind (wpAny_field hob hd (x := vs) rfl (wpAny_pure ?_)))))))
  refine wpAny_bind (slicePart_ ps ?_)
  show wpAny _ _ (if (st == 0) = true then _ else _) _ _ s
  rw [if_neg (by intro q; exact h0 (eq_of_beq q))]
  exact wpAny_bind (slicePart_ pl (wpAny_bind (slicePart_ pu (wpAny_bind (wpAny_pure (wpAny_pure h))))))
def stepped (xs : List Value) (lo st : Int) (n : Nat) : List Value := (List.range n).filterMap fun (k : Nat) => xs.toArray[(lo + (k : Int) * st).toNat]?
theorem g_getStep {t sl : Addr} {its : List Value} {vl vu vs : Value} {lo hi : Option Int} {st : Int} {Q : Value → Shared → Prop} (ht : IsTup s.heap t its.toArray) (hs : s.heap.IsSliceOf sl vl vu vs) (pl : IsPart vl lo) (pu : IsPart vu hi) (ps : IsPart vs (some st)) (h0 : st ≠ 0) (h1 : st ≠ 1)
    (hz : (stepped its (Builtin.Slice.sliceAdjust lo hi st (its.toArray.size : Int)).1 st (Builtin.Slice.slicePlaces (Builtin.Slice.sliceAdjust lo hi st (its.toArray.size : Int)).1 (Builtin.Slice.sliceAdjust lo hi st (its.toArray.size : Int)).2 st)).length ≤ sizeLine)
    (h : Q (.ref s.heap.objs.size) { s with heap := s.heap.push { cls := .type "tuple", data := .seq (stepped its (Builtin.Slice.sliceAdjust lo hi st (its.toArray.size : Int)).1 st (Builtin.Slice.slicePlaces (Builtin.Slice.sliceAdjust lo hi st (its.toArray.size : Int)).1 (Builtin.Slice.sliceAdjust lo hi st (its.toArray.size : Int)).2 st)).toArray } }) :
    wpAny (model prog w) A (getItem (.ref t) (.ref sl)) Q E s := by
  have ok : sizeOk (.seq (stepped its (Builtin.Slice.sliceAdjust lo hi st (its.toArray.size : Int)).1 st (Builtin.Slice.slicePlaces (Builtin.Slice.sliceAdjust lo hi st (its.toArray.size : Int)).1 (Builtin.Slice.sliceAdjust lo hi st (its.toArray.size : Int)).2 st)).toArray) := by
    show (stepped its _ st _).toArray.size ≤ sizeLine
    rw [List.size_toArray]; exact hz
  obtain ⟨ob, hob, hc, hd⟩ := id hs
  have hTs : s.TypeIs (.ref sl) "slice" := ⟨ob, hob, hc⟩
  unfold getItem
  try with_reducible refine wpAny_holding ?_
  first | refine wpAny_bind (wpAny_pure ?_) | skip
  refine wpAny_bind (wpAny_sequenceKey ht.typeIs (by decide) ?_)
  refine wpAny_bind (wpAny_callSpecial?_slot (name := Str.ofString "__getitem__") ht.typeIs slot_tuple_getitem (wpAny_call_entry slot_tuple_getitem ht.typeIs entry_tuple_getitem ?_ (args_tuple_getitem _ _)))
  show wpAny _ _ (Builtin.Tuple.tupleItemsOf (.ref t) >>= _) _ _ s
  refine wpAny_bind (tupleItemsOf_ ht (wpAny_bind (wpAny_typeOf hTs ?_)))
  rw [if_pos (by decide)]
  refine wpAny_bind (g_applied hs pl pu ps h0 ?_)
  generalize (Builtin.Slice.sliceAdjust lo hi st (its.toArray.size : Int)).1 = l0 at *
  generalize Builtin.Slice.slicePlaces l0 (Builtin.Slice.sliceAdjust lo hi st (its.toArray.size : Int)).2 st = n0 at *
  have hno : ¬ ((l0 == 0 && st == 1 && n0 == its.toArray.size) = true) := by
    intro q
    rw [Bool.and_eq_true, Bool.and_eq_true] at q
    exact h1 (eq_of_beq q.1.2)
  show wpAny _ _ (if (l0 == 0 && st == 1 && n0 == its.toArray.size) = true then _ else _) _ _ s
  rw [if_neg hno]
  first
    | exact wpAny_bind (m := Builtin.Tuple.tupleExact _) (wpAny_newObj_type (wpAny_pure ⟨_, rfl, wpAny_pure h⟩) ok)
    | exact wpAny_bind (m := Builtin.Tuple.tupleExact _) (wpAny_newObj_type (wpAny_bind (wpAny_pure (wpAny_pure ⟨_, rfl, wpAny_pure h⟩))) ok)
    | exact wpAny_bind (wpAny_bind (m := Builtin.Tuple.tupleExact _) (wpAny_newObj_type (wpAny_pure (wpAny_pure ⟨_, rfl, wpAny_pure h⟩)) ok))
    | exact wpAny_bind (wpAny_bind (m := Builtin.Tuple.tupleExact _) (wpAny_newObj_type (wpAny_pure ⟨_, rfl, wpAny_pure h⟩) ok))
end
end HT
namespace G
open PySem PySem.Spec PyProof.Rows L2 Evl
/-- every second item from a on -/
def halfL {α : Type} (a : Nat) (xs : List α) : List α := (List.range ((xs.length - a + 1) / 2)).filterMap fun k => xs[a + 2 * k]?
theorem halfL_len {α : Type} (a : Nat) (xs : List α) : (halfL a xs).length ≤ xs.length + 1 := by
  unfold halfL
  refine Nat.le_trans (List.length_filterMap_le _ _) ?_
  rw [List.length_range]; omega
theorem vals_filterMap {f : Nat → Option V} {g : Nat → Option Value} : ∀ {l : List Nat}, (∀ k, k ∈ l → RelO (f k) (g k)) → Vals (l.filterMap f) (l.filterMap g)
  | [], _ => .nil
  | k :: r, h => by
    have hk := h k (List.mem_cons_self ..)
    have ih := vals_filterMap (l := r) fun j hj => h j (List.mem_cons_of_mem _ hj)
    rw [List.filterMap_cons, List.filterMap_cons]
    cases e : f k with
    | none =>
      cases e2 : g k with
      | none => exact ih
      | some u => rw [e, e2] at hk; exact hk.elim
    | some v =>
      cases e2 : g k with
      | none => rw [e, e2] at hk; exact hk.elim
      | some u => rw [e, e2] at hk; exact .cons hk ih
def tHalf (K : PySem.W.Frag) (a : Nat) (te : TE) : TE := fun σ H Q => te σ H fun x H1 => ∃ t xs, x = .ref t ∧ SqT K H1 t xs ∧ xs.length ≤ 100000 ∧ ∀ p, H1 p = none → Q (.ref p) (upd H1 p (.tup (halfL a xs)))
theorem half_places {a n : Nat} (h : a ≤ 1) : (Builtin.Slice.sliceAdjust (some (a : Int)) none 2 (n : Int)).1 = ((min a n : Nat) : Int) ∧
    Builtin.Slice.slicePlaces (Builtin.Slice.sliceAdjust (some (a : Int)) none 2 (n : Int)).1 (Builtin.Slice.sliceAdjust (some (a : Int)) none 2 (n : Int)).2 2 = (n - a + 1) / 2 := by
  have h2 : ¬ ((2 : Int) < 0) := by omega
  have h3 : (2 : Int) > 0 := by omega
  have ha : ¬ ((a : Int) < 0) := by omega
  have e : Builtin.Slice.sliceAdjust (some (a : Int)) none 2 (n : Int) = (((min a n : Nat) : Int), (n : Int)) := by
    unfold Builtin.Slice.sliceAdjust
    simp only [h2, if_false, ha]
    refine Prod.ext ?_ rfl
    show min (a : Int) (n : Int) = ((min a n : Nat) : Int)
    omega
  rw [e]
  refine ⟨rfl, ?_⟩
  show Builtin.Slice.slicePlaces ((min a n : Nat) : Int) (n : Int) 2 = (n - a + 1) / 2
  unfold Builtin.Slice.slicePlaces
  simp only [h3, if_true]
  split <;> omega
section
variable {X : Cx}
theorem pe_half {e : Expr} {te : TE} {a : Nat} {k1 k2 : Nat} {p1 p2 p3 pos : Pos} (ha : a ≤ 1) (he : PE X e te) : PE X (.Subscript e (.Slice (some (.Constant (.int (a : Int)) k1 p1)) none (some (.Constant (.int 2) k2 p2)) p3) pos) (tHalf X.K a te) := by
  refine ⟨fun pins s σ H Q I h => Subscript_ (thn (he.run pins s σ H _ I h) fun v s1 ⟨x, H1, I1, r1, q1⟩ => ?_)⟩
  obtain ⟨t, xs, rfl, hx, hlen, q⟩ := q1
  cases r1
  have hlo : PO X (some (.Constant (.int (a : Int)) k1 p1)) (tPart (tC (.int (a : Int)))) := po_some pe_int
  have hst : PO X (some (.Constant (.int 2) k2 p2)) (tPart (tC (.int 2))) := po_some pe_int
  refine wpAny_Slice (thn (hlo.run pins s1 σ H1 (fun o H2 => o = some (a : Int) ∧ H2 = H1) I1 ⟨_, rfl, rfl, rfl⟩) fun vl s2 ⟨l, H2, I2, pl, el, e2⟩ => ?_)
  subst el e2
  refine thn (po_none.run pins s2 σ H2 (fun o H3 => o = none ∧ H3 = H2) I2 ⟨rfl, rfl⟩) fun vu s3 ⟨u, H3, I3, pu, eu, e3⟩ => ?_
  subst eu e3
  refine thn (hst.run pins s3 σ H3 (fun o H4 => o = some 2 ∧ H4 = H3) I3 ⟨_, rfl, rfl, rfl⟩) fun vs s4 ⟨o, H4, I4, ps, eo, e4⟩ => ?_
  subst eo e4
  have I5 : Inv X pins σ H4 { s4 with heap := s4.heap.push { cls := .type "slice", data := .fields #[vl, vu, vs] } } := I4.kept (t' := s4.toks) fun b ob q => Heap.get?_push_of_some _ q
  obtain ⟨its, r, ht, hz⟩ := I5.tuple hx
  have hl : its.toArray.size = xs.length := by rw [List.size_toArray]; exact r.length.symm
  obtain ⟨hp1, hp2⟩ := half_places (n := xs.length) ha
  have hrel : Vals (halfL a xs) (HT.stepped its ((min a xs.length : Nat) : Int) 2 ((xs.length - a + 1) / 2)) := by
    unfold halfL HT.stepped
    refine vals_filterMap fun k hk => ?_
    have hk' := List.mem_range.mp hk
    have hi : a + 2 * k < xs.length := by omega
    have en : (((min a xs.length : Nat) : Int) + (k : Int) * 2).toNat = a + 2 * k := by omega
    rw [en, List.getElem?_eq_getElem hi]
    obtain ⟨u, hu, ru⟩ := r.get (List.getElem?_eq_getElem hi)
    rw [List.getElem?_toArray, hu]
    exact ru
  have hsz : (halfL a xs).length ≤ sizeLine := sz_of (by
    unfold halfL
    refine Nat.le_trans (List.length_filterMap_le _ _) ?_
    rw [List.length_range]
    omega)
  show wpAny (model X.prog X.w) X.A (subscriptTail e (.Slice (some (.Constant (.int (a : Int)) k1 p1)) none (some (.Constant (.int 2) k2 p2)) p3) (.ref t) (.ref s4.heap.objs.size)) (EP X pins σ Q) X.xe { s4 with heap := s4.heap.push { cls := .type "slice", data := .fields #[vl, vu, vs] } }
  refine tail_any (ops := [.ref t, .ref s4.heap.objs.size]) ht.typeIs PyProof.Rows.slot_tuple_getitem.lookup ?_ (by with_unfolding_all rfl)
  refine HT.g_getStep ht (Heap.IsSliceOf.new _ vl vu vs) pl pu ps (by decide) (by decide) ?_ ?_
  · rw [hl, hp2, hp1, ← hrel.length]; exact hsz
  · rw [hl, hp2, hp1]
    refine ⟨.ref _, _, I5.laid (t' := s4.toks) (o := .tup (halfL a xs)) (fun b ob q => Heap.get?_push_of_some _ q) (Nat.le_refl _) ?_, rfl, q _ (I5.hok.fresh (Nat.le_refl _))⟩
    exact ⟨hsz, _, hrel, ⟨_, Heap.get?_push_size _ rfl, rfl, _, rfl⟩⟩
end
end G
namespace ZN
open PySem PySem.Spec PyProof.Rows L2
open PySem.Sem (wp)
/-! ## zip(*rows) of any number of tuples -/
abbrev IsZ (h : Heap) (z TI TO : Addr) (f0 f1 : Value) : Prop := h.get? z = some { cls := .type "zip", data := .fields #[f0, f1, .bool false, .ref TI, .ref TO] }
abbrev IsTu (h : Heap) (T : Addr) (vs : List Value) : Prop := h.get? T = some { cls := .type "tuple", data := .seq vs.toArray }
/-- the iterators laid behind h -/
def pushI : Heap → List Addr → Heap
  | h, [] => h
  | h, l :: ls => pushI (h.push { cls := .type "tuple_iterator", data := .fields #[.ref l, .int 0 0] }) ls
def itA (n : Nat) (ls : List Addr) : List Addr := (List.range ls.length).map fun j => n + j
theorem itA_get {n j : Nat} {ls : List Addr} (h : j < ls.length) : (itA n ls)[j]? = some (n + j) := by
  unfold itA
  rw [List.getElem?_map, List.getElem?_range h]
  rfl
theorem itA_len {n : Nat} {ls : List Addr} : (itA n ls).length = ls.length := by unfold itA; rw [List.length_map, List.length_range]
theorem itA_cons {n : Nat} {l : Addr} {ls : List Addr} : itA n (l :: ls) = n :: itA (n + 1) ls := by
  unfold itA
  rw [List.length_cons, List.range_succ_eq_map, List.map_cons, List.map_map]
  congr 1
  exact List.map_congr_left fun j _ => by show n + (j + 1) = n + 1 + j; omega
theorem pushI_size : ∀ {ls : List Addr} {h : Heap}, (pushI h ls).objs.size = h.objs.size + ls.length
  | [], _ => rfl
  | l :: ls, h => by
    show (pushI _ ls).objs.size = _
    rw [pushI_size, Heap.size_push, List.length_cons]
    omega
theorem pushI_old : ∀ {ls : List Addr} {h : Heap} {b : Addr} {o : Obj}, h.get? b = some o → (pushI h ls).get? b = some o
  | [], _, _, _, e => e
  | l :: ls, h, _, _, e => pushI_old (ls := ls) (Heap.get?_push_of_some _ e)
theorem pushI_at : ∀ {ls : List Addr} {h : Heap} {j : Nat} {l : Addr}, ls[j]? = some l → (pushI h ls).IsTupleIter (h.objs.size + j) l 0
  | [], _, _, _, e => by cases e
  | l :: ls, h, 0, l', e => by
    cases e
    exact ⟨_, pushI_old (ls := ls) (Heap.get?_push_size _ rfl), rfl, rfl⟩
  | l :: ls, h, j + 1, l', e => by
    have := pushI_at (ls := ls) (h := h.push { cls := .type "tuple_iterator", data := .fields #[.ref l, .int 0 0] }) (j := j) (l := l') e
    rw [Heap.size_push] at this
    rw [show h.objs.size + (j + 1) = h.objs.size + 1 + j by omega]
    exact this
section
variable {prog : Program} {w : World} {A : Around} {E : Value → Shared → Prop}
theorem iterAll_tuples {ls : List Addr} {s : Shared} {Q : List Value → Shared → Prop} (hl : ∀ l ∈ ls, ∃ items, s.heap.IsTuple l items) (hQ : Q ((itA s.heap.objs.size ls).map Value.ref) { s with heap := pushI s.heap ls }) :
    wpAny (model prog w) A (Builtin.SmallTypes.iterAll (ls.map Value.ref)) Q E s := by
  unfold Builtin.SmallTypes.iterAll
  refine wpAny_bind (wpAny_forIn_list _ (fun rest (b : Array Value) s' => ∃ (todo : List Addr) (done : List Value) (h : Heap), rest = todo.map Value.ref ∧ b = done.toArray ∧ s' = { s with heap := h } ∧ (∀ l ∈ todo, ∃ items, h.IsTuple l items) ∧ (itA s.heap.objs.size ls).map Value.ref = done ++ (itA h.objs.size todo).map Value.ref ∧ pushI s.heap ls = pushI h todo)
    (fun b s' => wpAny (model prog w) A (pure b.toList) Q E s') ?_ ?_ _ _ ⟨ls, [], s.heap, rfl, rfl, rfl, hl, rfl, rfl⟩)
  · rintro x rest b s' ⟨todo, done, h, e, rfl, rfl, ht, e1, e2⟩
    cases todo with
    | nil => cases e
    | cons l todo =>
      cases e
      obtain ⟨items, hi⟩ := ht l List.mem_cons_self
      refine wpAny_bind (wpAny_holding (wpAny_pyIter_tuple hi (wpAny_pure ⟨todo, done ++ [.ref h.objs.size], _, rfl, by simp, rfl, fun l' hl' => ?_, ?_, e2⟩)))
      · obtain ⟨it2, h2⟩ := ht l' (List.mem_cons_of_mem _ hl')
        exact ⟨it2, h2.push _⟩
      · rw [e1, itA_cons, List.map_cons, List.append_assoc]
        show _ = done ++ ([Value.ref h.objs.size] ++ List.map Value.ref (itA (h.push _).objs.size todo))
        rw [Heap.size_push]
        rfl
  · rintro b s' ⟨todo, done, h, e, rfl, rfl, _, e1, e2⟩
    cases todo with
    | cons l todo => cases e
    | nil =>
      refine wpAny_pure ?_
      rw [e1, e2] at hQ
      simpa [itA, pushI] using hQ
abbrev zH1 (h : Heap) (ls : List Addr) : Heap := (pushI h ls).push { cls := .type "tuple", data := .seq ((itA h.objs.size ls).map Value.ref).toArray }
abbrev zH2 (h : Heap) (ls : List Addr) : Heap := (zH1 h ls).push { cls := .type "tuple", data := .seq (((itA h.objs.size ls).map Value.ref).map fun _ => Value.none).toArray }
abbrev zH3 (h : Heap) (ls : List Addr) : Heap := (zH2 h ls).push { cls := .type "zip", data := .fields #[.none, .bool false, .bool false, .ref (pushI h ls).objs.size, .ref (zH1 h ls).objs.size] }
theorem meets_new (ls : List Addr) (hn : ls.length ≤ 1000) : Meets (Builtin.«zip.__new__» ⟨.type "zip" :: ls.map Value.ref, []⟩) (fun _ R s => (∀ l ∈ ls, ∃ items, s.heap.IsTuple l items) ∧ R (.ok (.ret (.ref (zH2 s.heap ls).objs.size))) { s with heap := zH3 s.heap ls }) :=
  .of_wp fun prog w A R s h => by
    obtain ⟨hp, g, d, tk, os⟩ := s
    obtain ⟨hl, h⟩ := h
    have hsub := sub_zip
    have big : ((itA hp.objs.size ls).map Value.ref).length ≤ sizeLine := by rw [List.length_map, itA_len, sizeLine_eq]; omega
    have big2 : (((itA hp.objs.size ls).map Value.ref).map fun _ => Value.none).length ≤ sizeLine := by rw [List.length_map]; exact big
    have q : ∀ {A' : Around} {E : Value → Shared → Prop} {Q : List Value → Shared → Prop}, Q ((itA hp.objs.size ls).map Value.ref) ⟨pushI hp ls, g, d, tk, os⟩ → wpAny (model prog w) A' (Builtin.SmallTypes.iterAll (ls.map Value.ref)) Q E ⟨hp, g, d, tk, os⟩ :=
      fun q => iterAll_tuples (s := ⟨hp, g, d, tk, os⟩) hl q
    have t1 : ∀ {A' : Around} {E : Value → Shared → Prop} {Q : Value → Shared → Prop}, Q (.ref (pushI hp ls).objs.size) ⟨zH1 hp ls, g, d, tk, os⟩ → wpAny (model prog w) A' (newTuple ((itA hp.objs.size ls).map Value.ref)) Q E ⟨pushI hp ls, g, d, tk, os⟩ :=
      fun q => wpAny_newTuple (s := ⟨pushI hp ls, g, d, tk, os⟩) q big
    have t2 : ∀ {A' : Around} {E : Value → Shared → Prop} {Q : Value → Shared → Prop}, Q (.ref (zH1 hp ls).objs.size) ⟨zH2 hp ls, g, d, tk, os⟩ → wpAny (model prog w) A' (newTuple (((itA hp.objs.size ls).map Value.ref).map fun _ => Value.none)) Q E ⟨zH1 hp ls, g, d, tk, os⟩ :=
      fun q => wpAny_newTuple (s := ⟨zH1 hp ls, g, d, tk, os⟩) q big2
    wp_walk using q, t1, t2
    exact ⟨_, rfl, h⟩
/-- the arguments pass -/
structure ArgsOk (us : List Value) : Prop where
  call : checkTypeCall "zip" ⟨us, []⟩ = pure ()
  new : checkBuiltinCall "zip.__new__" ⟨.type "zip" :: us, []⟩ = pure ()
  ini : ∀ obj, argsOk "object.__init__" ⟨obj :: us, []⟩
theorem args_few {us : List Value} (h : 0 < us.length) (h4 : us.length ≤ 4) : ArgsOk us := by
  match us, h, h4 with
  | [a], _, _ => exact ⟨by kernel_rfl, by kernel_rfl, fun obj => by unfold argsOk; kernel_rfl⟩
  | [a, b], _, _ => exact ⟨by kernel_rfl, by kernel_rfl, fun obj => by unfold argsOk; kernel_rfl⟩
  | [a, b, c], _, _ => exact ⟨by kernel_rfl, by kernel_rfl, fun obj => by unfold argsOk; kernel_rfl⟩
  | [a, b, c, d], _, _ => exact ⟨by kernel_rfl, by kernel_rfl, fun obj => by unfold argsOk; kernel_rfl⟩
/-- zip(l, ..): its new cells -/
theorem call_zipN {s : Shared} {ls : List Addr} {Q : Value → Shared → Prop} (ok : ArgsOk (ls.map Value.ref)) (hn : ls.length ≤ 1000) (hl : ∀ l ∈ ls, ∃ items, s.heap.IsTuple l items)
    (h : ∀ h', IsZ h' (s.heap.objs.size + ls.length + 2) (s.heap.objs.size + ls.length) (s.heap.objs.size + ls.length + 1) .none (.bool false) → IsTu h' (s.heap.objs.size + ls.length) ((itA s.heap.objs.size ls).map Value.ref) →
      IsTu h' (s.heap.objs.size + ls.length + 1) (ls.map fun _ => Value.none) → (∀ j l, ls[j]? = some l → h'.IsTupleIter (s.heap.objs.size + j) l 0) → h'.objs.size = s.heap.objs.size + ls.length + 3 →
      (∀ c o, s.heap.get? c = some o → h'.get? c = some o) → Q (.ref (s.heap.objs.size + ls.length + 2)) { s with heap := h' }) :
    wpAny (model prog w) A (call (.type "zip") (ls.map Value.ref)) Q E s := by
  refine callType_new F.called_zip (by decide) ok.call ok.new ok.ini F.entry_zip_new (meets_new ls hn) ⟨hl, ?_⟩
  have z0 : (pushI s.heap ls).objs.size = s.heap.objs.size + ls.length := pushI_size
  have z1 : (zH1 s.heap ls).objs.size = s.heap.objs.size + ls.length + 1 := by rw [Heap.size_push, z0]
  have z2 : (zH2 s.heap ls).objs.size = s.heap.objs.size + ls.length + 2 := by rw [Heap.size_push, z1]
  have z3 : (zH3 s.heap ls).objs.size = s.heap.objs.size + ls.length + 3 := by rw [Heap.size_push, z2]
  have gZ : IsZ (zH3 s.heap ls) (zH2 s.heap ls).objs.size (pushI s.heap ls).objs.size (zH1 s.heap ls).objs.size .none (.bool false) := Heap.get?_push_size _ rfl
  have gO : IsTu (zH3 s.heap ls) (zH1 s.heap ls).objs.size (((itA s.heap.objs.size ls).map Value.ref).map fun _ => Value.none) := Heap.get?_push_of_some _ (Heap.get?_push_size _ rfl)
  have gT : IsTu (zH3 s.heap ls) (pushI s.heap ls).objs.size ((itA s.heap.objs.size ls).map Value.ref) := Heap.get?_push_of_some _ (Heap.get?_push_of_some _ (Heap.get?_push_size _ rfl))
  have eN : (((itA s.heap.objs.size ls).map Value.ref).map fun _ => Value.none) = ls.map fun _ => Value.none := by
    refine List.ext_getElem (by simp [itA_len]) fun j _ _ => by simp
  rw [z2, z0, z1] at gZ
  rw [z1, eN] at gO
  rw [z0] at gT
  show _ ∧ _
  rw [z2]
  exact ⟨⟨_, gZ, rfl⟩, h _ gZ gT gO (fun j l e => (pushI_at e).at fun o q => Heap.get?_push_of_some _ (Heap.get?_push_of_some _ (Heap.get?_push_of_some _ q))) z3
    fun c o e => Heap.get?_push_of_some _ (Heap.get?_push_of_some _ (Heap.get?_push_of_some _ (pushI_old e)))⟩
/-- a zip over tuples, each at its i-th item -/
structure ZSt (h : Heap) (z TI TO : Addr) (its ls : List Addr) (i : Nat) : Prop where
  z : ∃ f0 f1, IsZ h z TI TO f0 f1 ∧ (f0 = .none ∨ ∃ a : Addr, f0 = rawInt a) ∧ ∃ b, f1 = .bool b
  ti : IsTu h TI (its.map Value.ref)
  to : ∃ vs : List Value, vs.length = its.length ∧ IsTu h TO vs
  it : ∀ (j : Nat) (it l : Addr), its[j]? = some it → ls[j]? = some l → h.IsTupleIter it l i
structure Apart (z TI TO : Addr) (its ls : List Addr) : Prop where
  TIz : TI ≠ z
  TOz : TO ≠ z
  TITO : TI ≠ TO
  zi : z ∉ its
  TIi : TI ∉ its
  TOi : TO ∉ its
  nd : its.Nodup
  zl : z ∉ ls
  TOl : TO ∉ ls
  il : ∀ it ∈ its, it ∉ ls
  len : its.length = ls.length
  ne : 0 < its.length
  few : its.length ≤ 1000
section
variable {s : Shared} {z TI TO : Addr} {its ls : List Addr} {i : Nat}
/-- what is drawn -/
structure Got (hp : Heap) (z TO : Addr) (its : List Addr) (h' : Heap) (xs : List Value) : Prop where
  res : IsTu h' hp.objs.size xs
  size : h'.objs.size = hp.objs.size + 1
  old : ∀ c o, c ≠ z → c ≠ TO → c ∉ its → hp.get? c = some o → h'.get? c = some o
/-- the first k iterators are one further -/
structure Mid (hp : Heap) (z TI TO : Addr) (its ls : List Addr) (i k : Nat) (h : Heap) : Prop where
  ti : IsTu h TI (its.map Value.ref)
  it : ∀ (j : Nat) (it l : Addr), its[j]? = some it → ls[j]? = some l → h.IsTupleIter it l (if j < k then i + 1 else i)
  size : h.objs.size = hp.objs.size
  old : ∀ c o, c ≠ z → c ≠ TO → c ∉ its → hp.get? c = some o → h.get? c = some o
theorem Mid.one {hp h h2 : Heap} {k : Nat} {it l : Addr} (D : Apart z TI TO its ls) (M : Mid hp z TI TO its ls i k h) (e : its[k]? = some it) (el : ls[k]? = some l) (sb : Heap.SameBut it h h2) (st : h2.IsTupleIter it l (i + 1)) : Mid hp z TI TO its ls i (k + 1) h2 := by
  have mem := List.mem_of_getElem? e
  refine ⟨sb.extBut _ _ (fun q => D.TIi (q ▸ mem)) M.ti, fun j it' l' e1 e2 => ?_, sb.1.trans M.size, fun c o c1 c2 c3 q => sb.extBut _ _ (fun q' => c3 (q' ▸ mem)) (M.old c o c1 c2 c3 q)⟩
  by_cases hj : j = k
  · subst hj
    rw [e] at e1
    rw [el] at e2
    cases e1
    cases e2
    rw [if_pos (Nat.lt_succ_self _)]
    exact st
  · have hne : it' ≠ it := fun q => by
      subst q
      obtain ⟨l1, x1⟩ := List.getElem?_eq_some_iff.mp e1
      obtain ⟨l2, x2⟩ := List.getElem?_eq_some_iff.mp e
      exact hj ((List.getElem_inj D.nd).mp (x1.trans x2.symm))
    have := M.it j it' l' e1 e2
    have e5 : (if j < k + 1 then i + 1 else i) = (if j < k then i + 1 else i) := by
      by_cases q : j < k
      · rw [if_pos q, if_pos (by omega)]
      · rw [if_neg q, if_neg (by omega)]
    rw [e5]
    exact this.at fun o q => sb.extBut _ _ hne q
theorem Mid.side {hp h h2 : Heap} {k : Nat} {c : Addr} (M : Mid hp z TI TO its ls i k h) (hc : c ∉ its) (hc2 : c = z ∨ c = TO) (hT : TI ≠ c) (sb : Heap.SameBut c h h2) : Mid hp z TI TO its ls i k h2 :=
  ⟨sb.extBut _ _ hT M.ti, fun j it l e1 e2 => (M.it j it l e1 e2).at fun o q => sb.extBut _ _ (fun q' => hc (q' ▸ List.mem_of_getElem? e1)) q, sb.1.trans M.size,
    fun b o c1 c2 c3 q => sb.extBut _ _ (fun q' => by rcases hc2 with x | x; exact c1 (q'.trans x); exact c2 (q'.trans x)) (M.old b o c1 c2 c3 q)⟩
theorem Mid.row {hp h : Heap} {k : Nat} {l : Addr} {items : Array Value} (D : Apart z TI TO its ls) (M : Mid hp z TI TO its ls i k h) (hl : l ∈ ls) (t : hp.IsTuple l items) : h.IsTuple l items :=
  t.at fun o q => M.old l o (fun e => D.zl (e ▸ hl)) (fun e => D.TOl (e ▸ hl)) (fun e => D.il l e hl) q
theorem Mid.all {hp h : Heap} (M : Mid hp z TI TO its ls i its.length h) (j : Nat) (it l : Addr) (e1 : its[j]? = some it) (e2 : ls[j]? = some l) : h.IsTupleIter it l (i + 1) := by
  have := M.it j it l e1 e2
  rw [if_pos (List.getElem?_eq_some_iff.mp e1).1] at this
  exact this
theorem wpAny_alive {M : Model} {a : Addr} {Q : Option Obj → Shared → Prop} (h : Q (s.heap.get? a) s) : wpAny M A (loadIfAlive a) Q E s := fun _ _ _ => h
/-- may the tuple be used again -/
theorem free_or {Q : Bool → Shared → Prop} (D : Apart z TI TO its ls) (S : ZSt s.heap z TI TO its ls i)
    (hQ : ∀ b h1, ZSt h1 z TI TO its ls i → Heap.SameBut z s.heap h1 → Q b { s with heap := h1 }) : wpAny (model prog w) A (Builtin.SmallTypes.ownedTupleIsFree (.ref z)) Q E s := by
  obtain ⟨f0, f1, hz, hf0, b1, rfl⟩ := id S.z
  unfold Builtin.SmallTypes.ownedTupleIsFree
  refine wpAny_bind (wpAny_field hz rfl (x := f0) rfl ?_)
  have same : ∀ b, Q b s := fun b => hQ b s.heap S (Heap.SameBut.refl _ _)
  rcases hf0 with rfl | ⟨a0, rfl⟩
  · exact wpAny_pure (same true)
  · show wpAny _ _ (loadIfAlive _ >>= _) _ _ _
    refine wpAny_bind (wpAny_alive ?_)
    cases s.heap.get? (((a0 : Int)).toNat) with
    | none => exact wpAny_pure (same true)
    | some o =>
      show wpAny _ _ (field (.ref z) 1 >>= _) _ _ _
      refine wpAny_bind (wpAny_field hz rfl (x := .bool b1) rfl ?_)
      cases b1 with
      | true => exact wpAny_pure (same false)
      | false =>
        show wpAny _ _ (setField (.ref z) 1 (.bool true) >>= _) _ _ _
        refine wpAny_bind (wpAny_setField_rec hz (by simp) fun h1 hz1 hs1 => wpAny_pure (hQ false h1 ⟨⟨_, _, hz1, .inr ⟨a0, rfl⟩, true, rfl⟩, hs1.extBut _ _ D.TIz S.ti, ?_, fun j it l e1 e2 => ?_⟩ hs1))
        · obtain ⟨vs, e, t⟩ := S.to
          exact ⟨vs, e, hs1.extBut _ _ D.TOz t⟩
        · exact (S.it j it l e1 e2).at fun o q => hs1.extBut _ _ (fun q' => D.zi (q' ▸ List.mem_of_getElem? e1)) q
theorem next_item {Q : Value → Shared → Prop} (D : Apart z TI TO its ls) (S : ZSt s.heap z TI TO its ls i) (rows : ∀ l ∈ ls, ∃ items, s.heap.IsTuple l items ∧ i < items.size)
    (hQ : ∀ h' xs, ZSt h' z TI TO its ls (i + 1) → Got s.heap z TO its h' xs → xs.length = ls.length → (∀ (j : Nat) (l : Addr) (items : Array Value), ls[j]? = some l → s.heap.IsTuple l items → xs[j]? = items[i]?) → Q (.ref s.heap.objs.size) { s with heap := h' }) :
    wpAny (model prog w) A (Builtin.«zip.__next__» ⟨[.ref z], []⟩) (fun fin s' => ∃ v, fin = .done (.ret v) ∧ Q v s') E s := by
  obtain ⟨f0, f1, hz, hf0, b1, rfl⟩ := id S.z
  show wpAny _ _ (field (.ref z) 2 >>= _) _ _ _
  refine wpAny_bind (wpAny_field hz rfl (x := .bool false) rfl ?_)
  show wpAny _ _ (field (.ref z) 3 >>= _) _ _ _
  refine wpAny_bind (wpAny_field hz rfl (x := .ref TI) rfl ?_)
  refine wpAny_bind (wpAny_seqItems S.ti rfl ?_)
  have hne : ¬ (its.map Value.ref).toArray.isEmpty = true := by
    have := D.ne
    cases its with
    | nil => cases this
    | cons a r => exact fun z => by cases z
  show wpAny _ _ (if (its.map Value.ref).toArray.isEmpty = true then _ else _) _ _ _
  rw [if_neg hne]
  show wpAny _ _ (Builtin.SmallTypes.ownedTupleIsFree (.ref z) >>= _) _ _ _
  refine wpAny_bind (free_or D S fun b h1 S1 sb1 => ?_)
  obtain ⟨hp, g, d, tk, os⟩ := s
  have M1 : Mid hp z TI TO its ls i 0 h1 := ⟨S1.ti, fun j it l e1 e2 => by rw [if_neg (Nat.not_lt_zero _)]; exact S1.it j it l e1 e2, sb1.1, fun c o c1 _ _ q => sb1.extBut _ _ c1 q⟩
  obtain ⟨f0, f1, hz1, hf0, b1, rfl⟩ := S1.z
  have memI : ∀ {k : Nat}, k < its.length → ∃ it l items x, its[k]? = some it ∧ ls[k]? = some l ∧ l ∈ ls ∧ Heap.IsTuple hp l items ∧ items[i]? = some x := fun {k} hk => by
    have hk2 : k < ls.length := by rw [← D.len]; exact hk
    have ml : ls[k] ∈ ls := List.getElem_mem hk2
    obtain ⟨items, t, hi⟩ := rows _ ml
    exact ⟨its[k], ls[k], items, items[i], List.getElem?_eq_getElem hk, List.getElem?_eq_getElem hk2, ml, t, Array.getElem?_eq_getElem hi⟩
  have tupEq : ∀ {l : Addr} {x1 x2 : Array Value}, Heap.IsTuple hp l x1 → Heap.IsTuple hp l x2 → x1 = x2 := fun t1 t2 => by
    obtain ⟨o1, e1, _, n1, d1⟩ := t1
    obtain ⟨o2, e2, _, n2, d2⟩ := t2
    rw [e1] at e2
    cases e2
    rw [d1] at d2
    cases d2
    rfl
  have hbig : its.length ≤ sizeLine := by have := D.few; rw [sizeLine_eq]; omega
  cases b with
  | true =>
    simp only [if_true]
    refine wpAny_bind (wpAny_rule ?_)
    refine wpAny_bind (wpAny_field hz1 rfl (x := .ref TO) rfl ?_)
    refine wpAny_bind (wpAny_setField_rec hz1 (by simp) fun h2 hz2 hs2 => ?_)
    obtain ⟨vs0, ev0, hto0⟩ := S1.to
    refine wpAny_bind (wpAny_forIn_list _ (fun rest b s' => ∃ (k : Nat) (h : Heap) (vs : List Value), b = (none, ()) ∧ s' = ⟨h, g, d, tk, os⟩ ∧ rest = ((its.map Value.ref).drop k).zipIdx k ∧ k ≤ its.length ∧ IsZ h z TI TO .ellipsis (.bool b1) ∧ Mid hp z TI TO its ls i k h ∧ vs.length = its.length ∧ IsTu h TO vs ∧
        ∀ (j : Nat) (l : Addr) (items : Array Value), j < k → ls[j]? = some l → Heap.IsTuple hp l items → vs[j]? = items[i]?) _ ?_ ?_ _ _ ⟨0, h2, vs0, rfl, rfl, by simp, Nat.zero_le _, hz2, M1.side D.zi (.inl rfl) D.TIz hs2, ev0, hs2.extBut _ _ D.TOz hto0, fun j l items q => absurd q (Nat.not_lt_zero _)⟩)
    · rintro x rest bb s' ⟨k, h, vs, rfl, rfl, er, hk, hzk, M, evs, hto, hgot⟩
      have hk1 : k < its.length := by
        by_cases q : k < its.length
        · exact q
        · rw [List.drop_eq_nil_of_le (by rw [List.length_map]; omega)] at er
          cases er
      obtain ⟨it, l, items, v, e1, e2, ml, t, ei⟩ := memI hk1
      have mi := List.mem_of_getElem? e1
      have hd : (its.map Value.ref).drop k = Value.ref it :: (its.map Value.ref).drop (k + 1) := by
        rw [List.drop_eq_getElem_cons (by rw [List.length_map]; exact hk1)]
        congr 1
        rw [List.getElem_map]
        exact congrArg Value.ref (List.getElem?_eq_some_iff.mp e1).2
      rw [hd, List.zipIdx_cons] at er
      cases er
      have st := M.it k it l e1 e2
      rw [if_neg (Nat.lt_irrefl _)] at st
      refine wpAny_bind (wpAny_onRaise ?_)
      show wpAny _ _ (Builtin.SmallTypes.nextOf (.ref it) >>= _) _ _ _
      refine wpAny_bind (RZ.nextOf_tuple_item st (M.row D ml t) ei fun h3 st3 hs3 => wpAny_pure ?_)
      have hto3 : IsTu h3 TO vs := hs3.extBut _ _ (fun q => D.TOi (q ▸ mi)) hto
      have M3 := M.one D e1 e2 hs3 st3
      refine wpAny_bind (wpAny_seqItems hto3 rfl ?_)
      refine wpAny_bind (wpAny_updateSeq hto3 rfl ?_ (by rw [List.size_toArray, evs]; exact hbig) (by rw [Array.size_setIfInBounds, List.size_toArray, evs]; omega))
      refine wpAny_bind (wpAny_letGo (wpAny_pure ⟨k + 1, _, vs.set k v, rfl, rfl, rfl, hk1, ?_, M3.side D.TOi (.inr rfl) D.TITO (Heap.SameBut.update ..), by rw [List.length_set]; exact evs, ?_, fun j l' items' hj q1 q2 => ?_⟩))
      · exact (Heap.SameBut.update h3 TO _).extBut _ _ (Ne.symm D.TOz) (hs3.extBut _ _ (fun q => D.zi (q ▸ mi)) hzk)
      · show (Heap.update h3 TO _).get? TO = _
        rw [Heap.get?_update_self _ hto3 rfl]
        simp [Obj.mapSeq]
      · by_cases ej : j = k
        · subst ej
          rw [e2] at q1
          cases q1
          rw [tupEq q2 t, ei, List.getElem?_set_self (by rw [evs]; exact hk1)]
        · rw [List.getElem?_set_ne (Ne.symm ej)]
          exact hgot j l' items' (by omega) q1 q2
    · rintro bb s' ⟨k, h, vs, rfl, rfl, er, hk, hzk, M, evs, hto, hgot⟩
      have hk1 : k = its.length := by
        by_cases q : k < its.length
        · rw [List.drop_eq_getElem_cons (by rw [List.length_map]; exact q), List.zipIdx_cons] at er
          cases er
        · omega
      subst hk1
      refine wpAny_bind (wpAny_seqItems hto rfl ?_)
      refine wpAny_bind (wpAny_newTuple ?_ (by simp only [List.toList_toArray]; rw [evs]; exact hbig))
      show wpAny _ _ (Builtin.SmallTypes.ownedTupleHandOut (.ref z) (.ref h.objs.size) >>= _) _ _ _
      refine wpAny_bind ?_
      unfold Builtin.SmallTypes.ownedTupleHandOut
      simp only [List.toList_toArray]
      have hz6 : IsZ (h.push { cls := .type "tuple", data := .seq vs.toArray }) z TI TO .ellipsis (.bool b1) := Heap.get?_push_of_some _ hzk
      refine wpAny_bind (wpAny_setField_rec hz6 (by simp) fun h7 hz7 hs7 => ?_)
      have hz7' : IsZ h7 z TI TO (rawInt h.objs.size) (.bool b1) := hz7
      refine wpAny_setField_rec hz7' (by simp) fun h8 hz8 hs8 => ?_
      have hz8' : IsZ h8 z TI TO (rawInt h.objs.size) (.bool false) := hz8
      have up : ∀ c o, c ≠ z → h.get? c = some o → h8.get? c = some o := fun c o c1 e => hs8.extBut _ _ c1 (hs7.extBut _ _ c1 (Heap.get?_push_of_some _ e))
      have hzlt : z < h.objs.size := Heap.lt_size hzk
      have hT8 : IsTu h8 h.objs.size vs := hs8.extBut _ _ (Nat.ne_of_gt hzlt) (hs7.extBut _ _ (Nat.ne_of_gt hzlt) (Heap.get?_push_size _ rfl))
      have hsz : h8.objs.size = h.objs.size + 1 := by rw [hs8.1, hs7.1, Heap.size_push]
      have eS : h.objs.size = hp.objs.size := M.size
      refine wpAny_pure ⟨_, rfl, ?_⟩
      rw [eS] at hz8' hT8 hsz ⊢
      refine hQ h8 vs ⟨⟨_, _, hz8', .inr ⟨_, rfl⟩, false, rfl⟩, up _ _ D.TIz M.ti, ⟨vs, evs, up _ _ D.TOz hto⟩, fun j it l e1 e2 => (M.all j it l e1 e2).at fun o q => up _ o (fun q' => D.zi (q' ▸ List.mem_of_getElem? e1)) q⟩
        ⟨hT8, hsz, fun c o c1 c2 c3 q => up c o c1 (M.old c o c1 c2 c3 q)⟩ (by rw [evs, D.len]) fun j l items e q => hgot j l items (by rw [D.len]; exact (List.getElem?_eq_some_iff.mp e).1) e q
  | false =>
    simp only [Bool.false_eq_true, if_false]
    refine wpAny_bind (wpAny_forIn_array' _ (fun rest b s' => ∃ (k : Nat) (h : Heap) (vs : List Value), b = (none, vs.toArray) ∧ s' = ⟨h, g, d, tk, os⟩ ∧ rest = (its.map Value.ref).drop k ∧ k ≤ its.length ∧ IsZ h z TI TO f0 (.bool b1) ∧ Mid hp z TI TO its ls i k h ∧ vs.length = k ∧ (∃ us : List Value, us.length = its.length ∧ IsTu h TO us) ∧
        ∀ (j : Nat) (l : Addr) (items : Array Value), j < k → ls[j]? = some l → Heap.IsTuple hp l items → vs[j]? = items[i]?) _ ?_ ?_ _ _ ⟨0, h1, [], rfl, rfl, by simp, Nat.zero_le _, hz1, M1, rfl, S1.to, fun j l items q => absurd q (Nat.not_lt_zero _)⟩)
    · rintro x rest bb s' ⟨k, h, vs, rfl, rfl, er, hk, hzk, M, evs, ⟨us, eus, hto⟩, hgot⟩
      have hk1 : k < its.length := by
        by_cases q : k < its.length
        · exact q
        · rw [List.drop_eq_nil_of_le (by rw [List.length_map]; omega)] at er
          cases er
      obtain ⟨it, l, items, v, e1, e2, ml, t, ei⟩ := memI hk1
      have mi := List.mem_of_getElem? e1
      have hd : (its.map Value.ref).drop k = Value.ref it :: (its.map Value.ref).drop (k + 1) := by
        rw [List.drop_eq_getElem_cons (by rw [List.length_map]; exact hk1)]
        congr 1
        rw [List.getElem_map]
        exact congrArg Value.ref (List.getElem?_eq_some_iff.mp e1).2
      rw [hd] at er
      cases er
      have st := M.it k it l e1 e2
      rw [if_neg (Nat.lt_irrefl _)] at st
      refine wpAny_bind (wpAny_holding ?_)
      show wpAny _ _ (Builtin.SmallTypes.nextOf (.ref it) >>= _) _ _ _
      refine wpAny_bind (RZ.nextOf_tuple_item st (M.row D ml t) ei fun h3 st3 hs3 => wpAny_pure (wpAny_pure ⟨k + 1, h3, vs ++ [v], by simp, rfl, rfl, hk1, hs3.extBut _ _ (fun q => D.zi (q ▸ mi)) hzk, M.one D e1 e2 hs3 st3, by rw [List.length_append, evs]; rfl,
        ⟨us, eus, hs3.extBut _ _ (fun q => D.TOi (q ▸ mi)) hto⟩, fun j l' items' hj q1 q2 => ?_⟩))
      by_cases ej : j = k
      · subst ej
        rw [e2] at q1
        cases q1
        rw [tupEq q2 t, ei, List.getElem?_append_right (by omega), evs, Nat.sub_self]
        rfl
      · rw [List.getElem?_append_left (by omega)]
        exact hgot j l' items' (by omega) q1 q2
    · rintro bb s' ⟨k, h, vs, rfl, rfl, er, hk, hzk, M, evs, ⟨us, eus, hto⟩, hgot⟩
      have hk1 : k = its.length := by
        by_cases q : k < its.length
        · rw [List.drop_eq_getElem_cons (by rw [List.length_map]; exact q)] at er
          cases er
        · omega
      subst hk1
      refine wpAny_bind (wpAny_newTuple ?_ (by simp only [List.toList_toArray]; rw [evs]; exact hbig))
      simp only [List.toList_toArray]
      have up : ∀ c o, h.get? c = some o → (h.push { cls := .type "tuple", data := .seq vs.toArray }).get? c = some o := fun c o e => Heap.get?_push_of_some _ e
      have hT8 : IsTu (h.push { cls := .type "tuple", data := .seq vs.toArray }) h.objs.size vs := Heap.get?_push_size _ rfl
      have hsz : (h.push { cls := .type "tuple", data := .seq vs.toArray }).objs.size = h.objs.size + 1 := Heap.size_push ..
      have eS : h.objs.size = hp.objs.size := M.size
      refine wpAny_pure ⟨_, rfl, ?_⟩
      rw [eS] at hT8 hsz ⊢
      refine hQ _ vs ⟨⟨_, _, up _ _ hzk, hf0, b1, rfl⟩, up _ _ M.ti, ⟨us, eus, up _ _ hto⟩, fun j it l e1 e2 => (M.all j it l e1 e2).at fun o q => up _ o q⟩
        ⟨hT8, hsz, fun c o c1 c2 c3 q => up c o (M.old c o c1 c2 c3 q)⟩ (by rw [evs, D.len]) fun j l items e q => hgot j l items (by rw [D.len]; exact (List.getElem?_eq_some_iff.mp e).1) e q
theorem next_end {Q : Fin → Shared → Prop} (hh : A.handled = none) (D : Apart z TI TO its ls) (S : ZSt s.heap z TI TO its ls i) {l0 : Addr} {items : Array Value} (h0 : ls[0]? = some l0) (t0 : s.heap.IsTuple l0 items) (hi : items[i]? = none)
    (hE : ∀ h' e, (∀ c o, c ≠ z → c ≠ TO → c ∉ its → s.heap.get? c = some o → h'.get? c = some o) → (∃ o, h'.get? e = some o ∧ o.cls = .type "StopIteration") → E (.ref e) { s with heap := h' }) :
    wpAny (model prog w) A (Builtin.«zip.__next__» ⟨[.ref z], []⟩) Q E s := by
  obtain ⟨f0, f1, hz, hf0, b1, rfl⟩ := id S.z
  show wpAny _ _ (field (.ref z) 2 >>= _) _ _ _
  refine wpAny_bind (wpAny_field hz rfl (x := .bool false) rfl ?_)
  show wpAny _ _ (field (.ref z) 3 >>= _) _ _ _
  refine wpAny_bind (wpAny_field hz rfl (x := .ref TI) rfl ?_)
  refine wpAny_bind (wpAny_seqItems S.ti rfl ?_)
  obtain ⟨i0, its', ei⟩ : ∃ a r, its = a :: r := by
    have := D.ne
    cases its with
    | nil => cases this
    | cons a r => exact ⟨a, r, rfl⟩
  subst ei
  show wpAny _ _ (Builtin.SmallTypes.ownedTupleIsFree (.ref z) >>= _) _ _ _
  refine wpAny_bind (free_or D S fun b h1 S1 sb1 => ?_)
  obtain ⟨hp, g, d, tk, os⟩ := s
  have m0 : i0 ∈ i0 :: its' := List.mem_cons_self
  have ml := List.mem_of_getElem? h0
  have zi0 : z ≠ i0 := fun q => D.zi (q ▸ m0)
  have st1 : h1.IsTupleIter i0 l0 i := S1.it 0 i0 l0 rfl h0
  have t1 : h1.IsTuple l0 items := Heap.IsTuple.at (h := hp) t0 fun o q => sb1.extBut _ _ (fun q' => D.zl (q' ▸ ml)) q
  obtain ⟨f0, f1, hz1, hf0, b1, rfl⟩ := S1.z
  cases b with
  | true =>
    simp only [if_true]
    refine wpAny_bind (wpAny_rule ?_)
    refine wpAny_bind (wpAny_field hz1 rfl (x := .ref TO) rfl ?_)
    refine wpAny_bind (wpAny_setField_rec hz1 (by simp) fun h2 hz2 hs2 => ?_)
    refine wpAny_bind ?_
    simp only [List.map_cons, List.zipIdx_cons, List.forIn_cons]
    refine wpAny_bind (wpAny_bind (wpAny_onRaise ?_))
    show wpAny _ _ (Builtin.SmallTypes.nextOf (.ref i0) >>= _) _ _ _
    refine wpAny_bind (RZ.nextOf_tuple_end hh (st1.at fun o q => hs2.extBut _ _ (Ne.symm zi0) q) (t1.at fun o q => hs2.extBut _ _ (fun q' => D.zl (q' ▸ ml)) q) hi fun h3 e hs3 he => ?_)
    obtain ⟨oe, hoe, hce⟩ := he
    have hz3 : IsZ h3 z TI TO .ellipsis (.bool b1) := hs3 _ _ zi0 hz2
    have hez : e ≠ z := fun x => by
      subst x
      rw [hz3] at hoe
      cases hoe
      simp at hce
    refine wpAny_setField_rec hz3 (by simp) fun h4 _ hs4 => hE h4 e (fun c o c1 c2 c3 x => hs4.extBut _ _ c1 (hs3 _ _ (fun q => c3 (q ▸ m0)) (hs2.extBut _ _ c1 (sb1.extBut _ _ c1 x)))) ⟨oe, hs4.extBut _ _ hez hoe, hce⟩
  | false =>
    simp only [Bool.false_eq_true, if_false]
    refine wpAny_bind ?_
    rw [← Array.forIn_toList]
    simp only [List.map_cons, List.toList_toArray, List.forIn_cons]
    refine wpAny_bind (wpAny_bind (wpAny_holding ?_))
    show wpAny _ _ (Builtin.SmallTypes.nextOf (.ref i0) >>= _) _ _ _
    exact wpAny_bind (RZ.nextOf_tuple_end hh st1 t1 hi fun h3 e hs3 he => hE h3 e (fun c o c1 c2 c3 x => hs3 _ _ (fun q => c3 (q ▸ m0)) (sb1.extBut _ _ c1 x)) he)
end
end
/-- the tuples at ls side by side, each turn a new tuple -/
def ItN (K : PySem.W.Frag) (ls : List Addr) : It :=
  ⟨fun i H => ∀ l ∈ ls, ∃ xs : List V, SqT K H l xs ∧ i < xs.length,
    fun i H v H' => ∃ (T : Addr) (ys : List V), v = .ref T ∧ H T = none ∧ H' = upd H T (.tup ys) ∧ ys.length = ls.length ∧ ∀ (j : Nat) (l : Addr) (xs : List V), ls[j]? = some l → SqT K H l xs → ys[j]? = xs[i]?,
    fun i H => ∃ (l0 : Addr) (xs : List V), ls[0]? = some l0 ∧ SqT K H l0 xs ∧ xs.length ≤ i⟩
theorem vals_pick : ∀ {us : List Value} {P : Nat → V → Prop}, (∀ (j : Nat) (u : Value), us[j]? = some u → ∃ y, RelV y u ∧ P j y) → ∃ ys, Vals ys us ∧ ∀ (j : Nat) (y : V), ys[j]? = some y → P j y
  | [], _, _ => ⟨[], .nil, fun j y e => by cases e⟩
  | u :: us, P, h => by
    obtain ⟨y, r, p⟩ := h 0 u rfl
    obtain ⟨ys, rs, ps⟩ := vals_pick (us := us) (P := fun j => P (j + 1)) fun j v e => h (j + 1) v e
    refine ⟨y :: ys, .cons r rs, fun j v e => ?_⟩
    cases j with
    | zero => cases e; exact p
    | succ j => exact ps j v e
theorem iter_self {prog : Program} {w : World} {A : Around} {E : Value → Shared → Prop} {s : Shared} {z TI TO : Addr} {f0 f1 : Value} {Q : Value → Shared → Prop} (hz : IsZ s.heap z TI TO f0 f1) (h : Q (.ref z) s) : wpAny (model prog w) A (pyIter (.ref z)) Q E s := by
  have hT : s.TypeIs (.ref z) "zip" := ⟨_, hz, rfl⟩
  refine wpAny_pyIter_slot hT F.slot_zip_iter (wpAny_call_entry F.slot_zip_iter hT F.entry_zip_iter ?_ (F.args_zip_iter_1 _))
  show wpAny _ _ (ret (.ref z)) _ _ s
  exact wpAny_pure ⟨_, rfl, "zip", _, hT, F.slot_zip_next.lookup, h⟩
theorem turn_zipN {P : Program} {w : World} {K : PySem.W.Frag} {x : Str} {tp : Pos} {z TI TO : Addr} {its ls : List Addr} (D : Apart z TI TO its ls) : Turn P w K (.Name x tp) (ItN K ls) (z :: TI :: TO :: its) z (fun i h => ZSt h z TI TO its ls i) := by
  have inFp : ∀ {c : Addr}, c ∈ z :: TI :: TO :: its → c = z ∨ c = TI ∨ c = TO ∨ c ∈ its := fun {c} h => by simpa using h
  have there : ∀ {i : Nat} {h : Heap}, ZSt h z TI TO its ls i → ∀ b ∈ z :: TI :: TO :: its, ∃ o, h.get? b = some o ∧ ∀ v, o.data ≠ .cell v := fun {i h} S b hb => by
    rcases inFp hb with q | q | q | q
    · obtain ⟨f0, f1, hz, _⟩ := S.z
      rw [q]; exact ⟨_, hz, fun v q => nomatch q⟩
    · rw [q]; exact ⟨_, S.ti, fun v q => nomatch q⟩
    · obtain ⟨vs, _, t⟩ := S.to
      rw [q]; exact ⟨_, t, fun v q => nomatch q⟩
    · obtain ⟨j, hj, e⟩ := List.getElem_of_mem q
      obtain ⟨o, e1, _, d1⟩ := S.it j b (ls[j]'(by rw [← D.len]; exact hj)) (by rw [List.getElem?_eq_getElem hj, e]) (List.getElem?_eq_getElem _)
      exact ⟨o, e1, fun v q => by rw [d1] at q; cases q⟩
  refine ⟨List.mem_cons_self, fun i h S => there S, fun i h h' S k => ?_, fun X hP hw hK hc i pins s σ H E I hf S hg => ?_, fun X hP hw hK hc i pins s σ H E I hf S hg => ?_, fun A i s Q E S h => ?_⟩
  · obtain ⟨f0, f1, hz, r⟩ := S.z
    obtain ⟨vs, ev, t⟩ := S.to
    exact ⟨⟨f0, f1, k _ (by simp) _ hz, r⟩, k _ (by simp) _ S.ti, ⟨vs, ev, k _ (by simp) _ t⟩, fun j it l e1 e2 => (S.it j it l e1 e2).at fun o q => k it (by simp [List.mem_of_getElem? e1]) o q⟩
  · subst hP hw hK
    have rowOf : ∀ {l : Addr}, l ∈ ls → ∃ (xs : List V) (us : List Value), SqT X.K H l xs ∧ Vals xs us ∧ s.heap.IsTuple l us.toArray ∧ i < xs.length := fun {l} ml => by
      obtain ⟨xs, hq, hi⟩ := hg l ml
      obtain ⟨us, rv, p, _⟩ := I.tuple hq
      exact ⟨xs, us, hq, rv, p, hi⟩
    obtain ⟨f0, f1, hz, _⟩ := S.z
    have hT : s.TypeIs (.ref z) "zip" := ⟨_, hz, rfl⟩
    have zlt : ∀ c ∈ z :: TI :: TO :: its, c < s.heap.objs.size := fun c hcm => by
      obtain ⟨o, e, _⟩ := there S c hcm
      exact Heap.lt_size e
    unfold pyNext
    refine wpAny_bind (wpAny_attempt (wpAny_callSpecial?_slot (name := Str.ofString "__next__") hT F.slot_zip_next (wpAny_call_entry F.slot_zip_next hT F.entry_zip_next
      (next_item D S (fun l ml => by
        obtain ⟨xs, us, _, rv, p, hi⟩ := rowOf ml
        exact ⟨_, p, by rw [List.size_toArray, ← rv.length]; exact hi⟩) fun h' vs S' G hl hv => wpAny_pure ?_) (F.args_zip_next_1 _))))
    obtain ⟨ys, rys, pys⟩ := vals_pick (us := vs) (P := fun j y => ∀ (l : Addr) (xs : List V), ls[j]? = some l → SqT X.K H l xs → xs[i]? = some y) fun j u e => by
      have hj : j < ls.length := by rw [← hl]; exact (List.getElem?_eq_some_iff.mp e).1
      have ml : ls[j] ∈ ls := List.getElem_mem hj
      obtain ⟨xs, us, hq, rv, p, hi⟩ := rowOf ml
      have eu := hv j ls[j] _ (List.getElem?_eq_getElem hj) p
      obtain ⟨u', hu', ru⟩ := rv.get (List.getElem?_eq_getElem hi)
      rw [e] at eu
      have eu2 : us[i]? = some u := by rw [eu]; simp
      rw [hu'] at eu2
      cases eu2
      refine ⟨xs[i], ru, fun l xs' e1 q => ?_⟩
      rw [List.getElem?_eq_getElem hj] at e1
      cases e1
      rw [I.tuple_inj q hq]
      exact List.getElem?_eq_getElem hi
    have hyl : ys.length = ls.length := by rw [rys.length, hl]
    have few := D.few
    have new : ObjOk X.prog X.w (upd H s.heap.objs.size (.tup ys)) h' s.heap.objs.size (.tup ys) :=
      ⟨by show ys.length ≤ sizeLine; rw [hyl, ← D.len, sizeLine_eq]; omega, vs, rys, ⟨_, G.res, rfl, _, rfl⟩⟩
    have I1 : Inv X pins σ (upd H s.heap.objs.size (.tup ys)) { s with heap := h' } :=
      I.turnedNew (t' := s.toks) (ch := z :: TI :: TO :: its) (fun c o hb q => G.old c o (fun q' => hb (by simp [q'])) (fun q' => hb (by simp [q'])) (fun q' => hb (by simp [q'])) q) hf (Nat.le_refl _) new
    refine ⟨_, rfl, wpAny_pure ⟨.ref s.heap.objs.size, _, I1, rfl, ⟨_, ys, rfl, I.hok.fresh (Nat.le_refl _), rfl, hyl, fun j l xs e q => ?_⟩, S', fun c hcm => ?_⟩⟩
    · have hj : j < ys.length := by rw [hyl]; exact (List.getElem?_eq_some_iff.mp e).1
      rw [List.getElem?_eq_getElem hj]
      exact (pys j _ (List.getElem?_eq_getElem hj) l xs e q).symm
    · rw [upd_ne (Nat.ne_of_lt (zlt c hcm))]
      exact (hf c hcm).1
  · subst hP hw hK
    obtain ⟨l0, xs, h0, hq, hi⟩ := hg
    obtain ⟨us, rv, p, _⟩ := I.tuple hq
    have e := rv.length
    obtain ⟨f0, f1, hz, _⟩ := S.z
    have hT : s.TypeIs (.ref z) "zip" := ⟨_, hz, rfl⟩
    unfold pyNext
    refine wpAny_bind (wpAny_attempt (wpAny_callSpecial?_slot (name := Str.ofString "__next__") hT F.slot_zip_next (wpAny_call_entry F.slot_zip_next hT F.entry_zip_next
      (next_end (I.ok.hd hc) D S h0 p (by simp; omega) fun h' e hk he => ?_) (F.args_zip_next_1 _))))
    obtain ⟨o, ho, hce⟩ := he
    refine wpAny_bind (wpAny_isInstance (T := "StopIteration") (b := true) ⟨o, ho, hce⟩ isSubtype_stop ?_)
    exact wpAny_pure ⟨rfl, I.turnedL (t' := s.toks) (ch := z :: TI :: TO :: its) (fun c o hb q => hk c o (fun q' => hb (by simp [q'])) (fun q' => hb (by simp [q'])) (fun q' => hb (by simp [q'])) q) hf⟩
  · obtain ⟨f0, f1, hz, _⟩ := S.z
    exact iter_self hz h
theorem itA_mem {n c : Nat} {ls : List Addr} (h : c ∈ itA n ls) : n ≤ c ∧ c < n + ls.length := by
  unfold itA at h
  obtain ⟨j, hj, rfl⟩ := List.mem_map.mp h
  have := List.mem_range.mp hj
  exact ⟨Nat.le_add_right _ _, Nat.add_lt_add_left this _⟩
theorem apart_new {n : Nat} {ls : List Addr} (hpos : 0 < ls.length) (h4 : ls.length ≤ 4) (lt : ∀ l ∈ ls, l < n) : Apart (n + ls.length + 2) (n + ls.length) (n + ls.length + 1) (itA n ls) ls := by
  have A : ∀ n m : Nat, n + m ≠ n + m + 2 ∧ n + m + 1 ≠ n + m + 2 ∧ n + m ≠ n + m + 1 := fun n m => ⟨by omega, by omega, by omega⟩
  have B : ∀ n m : Nat, ¬ (n + m < n + m) ∧ ¬ (n + m + 1 < n + m) ∧ ¬ (n + m + 2 < n + m) ∧ ¬ (n + m + 2 < n) ∧ ¬ (n + m + 1 < n) := fun n m => ⟨by omega, by omega, by omega, by omega, by omega⟩
  refine ⟨(A _ _).1, (A _ _).2.1, (A _ _).2.2, fun q => (B _ _).2.2.1 (itA_mem q).2, fun q => (B _ _).1 (itA_mem q).2, fun q => (B _ _).2.1 (itA_mem q).2, ?_, fun q => (B _ _).2.2.2.1 (lt _ q), fun q => (B _ _).2.2.2.2 (lt _ q), fun it q q2 => ?_, itA_len, by rw [itA_len]; exact hpos, by rw [itA_len]; omega⟩
  · unfold itA
    refine List.pairwise_map.mpr (List.nodup_range.imp fun h e => h (Nat.add_left_cancel e))
  · exact absurd (lt _ q2) (Nat.not_lt.mpr (itA_mem q).1)
theorem vals_refs : ∀ {bs : List Addr} {us : List Value}, Vals (bs.map V.ref) us → us = bs.map Value.ref
  | [], _, .nil => rfl
  | _ :: _, _, .cons h t => by
    rw [List.map_cons, ← vals_refs t]
    exact congrArg (· :: _) h
/-- zip( *rows ), rows a list of one to four tuples -/
def iZipS (K : PySem.W.Frag) (te : TE) : TI := fun σ H R => te σ H fun x H1 => ∃ (a : Addr) (ls : List Addr), x = .ref a ∧ SqL K H1 a (ls.map V.ref) ∧ 0 < ls.length ∧ ls.length ≤ 4 ∧ (∀ l ∈ ls, ∃ xs : List V, SqT K H1 l xs) ∧ R (ItN K ls) H1
theorem pi_zipS {X : Cx} {K : PySem.W.Frag} {e : Expr} {te : TE} {x : Str} {p sp pos tp : Pos} (hK : X.K = K) (hg : Gl X "zip") (hm : X.mg "zip" = none) (he : PE X e te) (hs : starEach [.Starred e sp] X.env = [(true, eval e X.env)] := by rfl) :
    PI X (.Name x tp) (.Call (.Name "zip" p) [.Starred e sp] [] pos) (iZipS K te) := by
  subst hK
  refine ⟨fun pins s σ H R I h => ?_⟩
  refine Call_ (ld_blt I hg hm PyProof.Rows.boot_zip ?_)
  rw [hs]
  refine PySem.W.ks_call (P := fun _ => True) rfl (fun h _ => ⟨.machine, .inr (.inl rfl), fun A Q E s k q => wpAny_pure q⟩) (PySem.W.ks_lone (thn (he.run pins s σ H _ I h) fun v s1 ⟨y, H1, I1, ry, a, ls, ey, hl, hpos, h4, hrows, q⟩ => ?_))
  subst ey
  obtain rfl : v = Value.ref a := ry
  refine StX.star_lst I1 hl fun us s2 I2 rv => ⟨trivial, ?_⟩
  obtain rfl := vals_refs rv
  show wpAny _ _ (call (.type "zip") (ls.map Value.ref)) _ _ _
  have tup : ∀ l ∈ ls, ∃ items, s2.heap.IsTuple l items := fun l ml => by
    obtain ⟨xs, hq⟩ := hrows l ml
    obtain ⟨us, _, p, _⟩ := I2.tuple hq
    exact ⟨_, p⟩
  have lt : ∀ l ∈ ls, l < s2.heap.objs.size := fun l ml => by
    obtain ⟨items, o, e, _⟩ := tup l ml
    exact Heap.lt_size e
  refine call_zipN (args_few (by rw [List.length_map]; exact hpos) (by rw [List.length_map]; exact h4)) (by omega) tup fun h' hz hti hto hit hsz hk => ?_
  have D := apart_new hpos h4 lt
  have I3 : Inv X pins σ H1 { s2 with heap := h' } := I2.kept (t' := s2.toks) hk
  refine iter_self hz ⟨_, _ :: _ :: _ :: itA s2.heap.objs.size ls, _, _, H1, rfl, I3, turn_zipN D, ⟨⟨_, _, hz, .inl rfl, false, rfl⟩, hti, ⟨_, by rw [List.length_map, itA_len], hto⟩, fun j it l e1 e2 => ?_⟩, fun c hcm => ?_, q⟩
  · have hj : j < ls.length := (List.getElem?_eq_some_iff.mp e2).1
    rw [itA_get hj] at e1
    cases e1
    exact hit j l e2
  · have hle : s2.heap.objs.size ≤ c := by
      rcases List.mem_cons.mp hcm with z | z
      · rw [z]; exact Nat.le_trans (Nat.le_add_right _ _) (Nat.le_add_right _ _)
      rcases List.mem_cons.mp z with z | z
      · rw [z]; exact Nat.le_add_right _ _
      rcases List.mem_cons.mp z with z | z
      · rw [z]; exact Nat.le_trans (Nat.le_add_right _ _) (Nat.le_add_right _ _)
      · exact (itA_mem z).1
    exact I2.fpOk hle (I2.hok.fresh hle)
end ZN
namespace G
open PySem PySem.Spec PyProof.Rows L2 Evl
/-! ## two lists side by side -/
def All2 {α β : Type} (R : α → β → Prop) (as : List α) (bs : List β) : Prop := as.length = bs.length ∧ ∀ (i : Nat) (a : α) (b : β), as[i]? = some a → bs[i]? = some b → R a b
theorem All2.nil {α β : Type} {R : α → β → Prop} : All2 R [] [] := ⟨rfl, fun _ _ _ h => nomatch h⟩
theorem All2.imp {α β : Type} {R S : α → β → Prop} {as : List α} {bs : List β} (h : All2 R as bs) (f : ∀ a b, R a b → S a b) : All2 S as bs := ⟨h.1, fun i a b h1 h2 => f _ _ (h.2 i a b h1 h2)⟩
theorem All2.snoc {α β : Type} {R : α → β → Prop} {as : List α} {bs : List β} {a : α} {b : β} (h : All2 R as bs) (r : R a b) : All2 R (as ++ [a]) (bs ++ [b]) := by
  refine ⟨by rw [List.length_append, List.length_append, h.1]; rfl, fun i x y h1 h2 => ?_⟩
  by_cases hi : i < as.length
  · rw [List.getElem?_append_left hi] at h1
    rw [List.getElem?_append_left (h.1 ▸ hi)] at h2
    exact h.2 i x y h1 h2
  · rw [List.getElem?_append_right (by omega)] at h1
    rw [List.getElem?_append_right (by rw [← h.1]; omega), ← h.1] at h2
    cases e : i - as.length with
    | zero =>
      rw [e] at h1 h2
      cases h1; cases h2; exact r
    | succ n => rw [e] at h1; exact nomatch h1
theorem All2.at_ {α β : Type} {R : α → β → Prop} {as : List α} {bs : List β} (h : All2 R as bs) {i : Nat} {a : α} (e : as[i]? = some a) : ∃ b, bs[i]? = some b ∧ R a b := by
  have hi : i < bs.length := by rw [← h.1]; exact (List.getElem?_eq_some_iff.mp e).1
  exact ⟨bs[i], List.getElem?_eq_getElem hi, h.2 i a _ e (List.getElem?_eq_getElem hi)⟩
theorem All2.of {α β : Type} {R : α → β → Prop} {as : List α} {bs : List β} (h : All2 R as bs) {i : Nat} {b : β} (e : bs[i]? = some b) : ∃ a, as[i]? = some a ∧ R a b := by
  have hi : i < as.length := by rw [h.1]; exact (List.getElem?_eq_some_iff.mp e).1
  exact ⟨as[i], List.getElem?_eq_getElem hi, h.2 i _ b (List.getElem?_eq_getElem hi) e⟩
theorem All2.cons {α β : Type} {R : α → β → Prop} {as : List α} {bs : List β} {a : α} {b : β} (r : R a b) (h : All2 R as bs) : All2 R (a :: as) (b :: bs) := by
  refine ⟨by rw [List.length_cons, List.length_cons, h.1], fun i x y h1 h2 => ?_⟩
  cases i with
  | zero => cases h1; cases h2; exact r
  | succ i => exact h.2 i x y h1 h2
theorem take_snoc1 {α : Type} {l : List α} {j : Nat} {x : α} (h : l[j]? = some x) : l.take (j + 1) = l.take j ++ [x] := by rw [List.take_add_one, h]; rfl
theorem refs_get {as : List Addr} {k : Nat} {x : V} (hx : (as.map V.ref)[k]? = some x) : ∃ a, as[k]? = some a ∧ x = .ref a := by
  rw [List.getElem?_map] at hx
  cases e : as[k]? with
  | none => rw [e] at hx; cases hx
  | some a => rw [e] at hx; cases hx; exact ⟨a, rfl, rfl⟩
/-! ## walks: any body -/
theorem wk_list {K : PySem.W.Frag} {a : Addr} {xs : List V} {body : (Hp → Prop) → V → Hp → Prop} {H0 : Hp} {Qd : Hp → Prop} (Pv : Nat → Hp → Prop) (h0 : Pv 0 H0) (hl : ∀ i H, i ≤ xs.length → Pv i H → SqL K H a xs)
    (hs : ∀ i x H, xs[i]? = some x → Pv i H → body (Pv (i + 1)) x H) (hd : ∀ H, Pv xs.length H → Qd H) :
    ∃ W : Nat → Nat → Hp → Prop, (∃ m, W 0 m H0) ∧ ∀ i m H, W i m H → ((Itl K a).stop i H ∧ Qd H) ∨ ((Itl K a).go i H ∧ ∃ Nx : Hp → Prop, (∀ H', Nx H' → ∃ m', m' < m ∧ W (i + 1) m' H') ∧ ∀ x H', (Itl K a).yld i H x H' → body Nx x H') := by
  refine ⟨fun i m H => m = xs.length - i ∧ i ≤ xs.length ∧ Pv i H, ⟨xs.length, by simp, Nat.zero_le _, h0⟩, ?_⟩
  rintro i m H ⟨rfl, hi, p⟩
  have q := hl i H hi p
  rcases Nat.lt_or_ge i xs.length with lt | ge
  · have e : xs[i]? = some xs[i] := List.getElem?_eq_getElem lt
    refine .inr ⟨⟨xs, xs[i], q, e⟩, Pv (i + 1), fun H' p' => ⟨xs.length - (i + 1), by omega, rfl, lt, p'⟩, fun x H' y => ?_⟩
    obtain ⟨rfl, y⟩ := y
    exact hs i x _ (y xs q) p
  · have e : i = xs.length := by omega
    subst e
    exact .inl ⟨⟨xs, q, Nat.le_refl _⟩, hd H p⟩
theorem wk_tup {K : PySem.W.Frag} {a : Addr} {xs : List V} {body : (Hp → Prop) → V → Hp → Prop} {H0 : Hp} {Qd : Hp → Prop} (Pv : Nat → Hp → Prop) (h0 : Pv 0 H0) (hl : ∀ i H, i ≤ xs.length → Pv i H → SqT K H a xs)
    (hs : ∀ i x H, xs[i]? = some x → Pv i H → body (Pv (i + 1)) x H) (hd : ∀ H, Pv xs.length H → Qd H) :
    ∃ W : Nat → Nat → Hp → Prop, (∃ m, W 0 m H0) ∧ ∀ i m H, W i m H → ((Itt K a).stop i H ∧ Qd H) ∨ ((Itt K a).go i H ∧ ∃ Nx : Hp → Prop, (∀ H', Nx H' → ∃ m', m' < m ∧ W (i + 1) m' H') ∧ ∀ x H', (Itt K a).yld i H x H' → body Nx x H') := by
  refine ⟨fun i m H => m = xs.length - i ∧ i ≤ xs.length ∧ Pv i H, ⟨xs.length, by simp, Nat.zero_le _, h0⟩, ?_⟩
  rintro i m H ⟨rfl, hi, p⟩
  have q := hl i H hi p
  rcases Nat.lt_or_ge i xs.length with lt | ge
  · have e : xs[i]? = some xs[i] := List.getElem?_eq_getElem lt
    refine .inr ⟨⟨xs, xs[i], q, e⟩, Pv (i + 1), fun H' p' => ⟨xs.length - (i + 1), by omega, rfl, lt, p'⟩, fun x H' y => ?_⟩
    obtain ⟨rfl, y⟩ := y
    exact hs i x _ (y xs q) p
  · have e : i = xs.length := by omega
    subst e
    exact .inl ⟨⟨xs, q, Nat.le_refl _⟩, hd H p⟩
theorem wk_it {J : It} {n : Nat} {Gd : Hp → Prop} {Y : Nat → Hp → V → Hp → Prop} (w : Walk J n Gd Y) {body : (Hp → Prop) → V → Hp → Prop} {H0 : Hp} {Qd : Hp → Prop} (Pv : Nat → Hp → Prop) (h0 : Pv 0 H0) (hG : ∀ i H, i ≤ n → Pv i H → Gd H)
    (hs : ∀ i x H H', i < n → Pv i H → Y i H x H' → body (Pv (i + 1)) x H') (hd : ∀ H, Pv n H → Qd H) :
    ∃ W : Nat → Nat → Hp → Prop, (∃ m, W 0 m H0) ∧ ∀ i m H, W i m H → (J.stop i H ∧ Qd H) ∨ (J.go i H ∧ ∃ Nx : Hp → Prop, (∀ H', Nx H' → ∃ m', m' < m ∧ W (i + 1) m' H') ∧ ∀ x H', J.yld i H x H' → body Nx x H') := by
  refine ⟨fun i m H => m = n - i ∧ i ≤ n ∧ Pv i H, ⟨n, by simp, Nat.zero_le _, h0⟩, ?_⟩
  rintro i m H ⟨rfl, hi, p⟩
  rcases Nat.lt_or_ge i n with lt | ge
  · exact .inr ⟨w.goes i H lt (hG i H hi p), Pv (i + 1), fun H' p' => ⟨n - (i + 1), by omega, rfl, lt, p'⟩, fun x H' y => hs i x H H' lt p (w.yields i H x H' lt (hG i H hi p) y)⟩
  · have e : i = n := by omega
    subst e
    exact .inl ⟨w.stops H (hG i H hi p), hd H p⟩
/-! ## tuples joined and cut, whatever object that is -/
theorem cat_tup {K : PySem.W.Frag} {H : Hp} {a b : Addr} {xs ys : List V} {Q : VK} (ha : H a = some (.tup xs)) (hb : H b = some (.tup ys)) (hl : xs.length + ys.length ≤ sizeLine) (q : ∀ c H', Ex H H' → H' c = some (.tup (xs ++ ys)) → Q (.ref c) H') : rCatA K (.ref a) (.ref b) H Q := by
  refine ⟨a, b, xs, ys, rfl, rfl, SqT.of ha, SqT.of hb, hl, fun e => ?_, fun _ e => ?_, fun _ _ p np => ?_⟩
  · subst e; exact q b H (Ex.refl _) hb
  · subst e; exact q a H (Ex.refl _) (by rw [List.append_nil]; exact ha)
  · exact q p _ (Ex.new np) upd_same
theorem cut_tup {K : PySem.W.Frag} {H : Hp} {a : Addr} {xs : List V} {lo hi : Option Int} {Q : VK} (ha : H a = some (.tup xs)) (q : ∀ c H', Ex H H' → H' c = some (.tup (cutV xs lo hi)) → Q (.ref c) H') : rSlA K (.ref a) lo hi H Q := by
  refine ⟨a, xs, rfl, SqT.of ha, fun e => ?_, fun _ p np => q p _ (Ex.new np) upd_same⟩
  refine q a H (Ex.refl _) ?_
  rw [ha]
  unfold cutV
  rw [e.1, e.2, List.drop_zero, Nat.sub_zero, List.take_length]
theorem cutV_head {xs : List V} {k : Nat} (h : k ≤ xs.length) : cutV xs none (some (k : Int)) = xs.take k := by
  unfold cutV
  rw [HT.sIx_none, HT.sIx_nat, List.drop_zero, Nat.sub_zero, Nat.min_eq_left h]
theorem cutV_tail {xs : List V} {k : Nat} (h : k ≤ xs.length) : cutV xs (some (k : Int)) none = xs.drop k := by
  unfold cutV
  rw [HT.sIx_none, HT.sIx_nat, Nat.min_eq_left h, List.take_of_length_le]
  rw [List.length_drop]; exact Nat.le_refl _
end G
namespace G
open PySem PySem.Spec PyProof.Rows L2 Evl
theorem tYes_in {σ : L2.St} {H : Hp} {A B : Hp → Prop} (h : A H) : tYes σ H (fun b H3 => if b = true then A H3 else B H3) := by
  show if true = true then A H else B H
  exact iteT h
def tabV (bs : List Bool) : HO := .tup (bs.map V.bl)
theorem inV_ints {k : Int} {l : List Int} : inV (.int k) (l.map V.int) = l.contains k := by
  unfold inV
  rw [List.any_map, List.contains_eq_any_beq]
  congr 1
  funext y
  show (y == k) = (k == y)
  rw [Bool.eq_iff_iff]; simp; exact eq_comm
theorem inV_bls {k : Bool} {l : List Bool} : inV (.bl k) (l.map V.bl) = l.contains k := by
  unfold inV
  rw [List.any_map, List.contains_eq_any_beq]
  congr 1
  funext y
  show (y == k) = (k == y)
  cases y <;> cases k <;> rfl
theorem flat_map {α : Type} {f : α → V} (h : ∀ x, flatV (f x) = true) (l : List α) : (l.map f).all flatV = true := by
  rw [List.all_map]
  exact List.all_eq_true.mpr fun x _ => h x
theorem tif_by {tt : TE} {σ : L2.St} {H : Hp} {Q : VK} (R : V → Hp → Prop) (h : ∀ Q' : VK, (∀ v H', R v H' → Q' v H') → tt σ H Q') (rest : ∀ v H', R v H' → Q v H') : tt σ H Q := h Q rest
theorem bl_eq (a b : Bool) : decide (V.bl a = V.bl b) = decide (a = b) := by cases a <;> cases b <;> rfl
end G
namespace G
open PySem PySem.Spec PyProof.Rows L2
def topS (i : Nat) : Stmt := PySem.Challenge.pw_signoff_k32_merged_circuits.main.body.getD i (.Pass ⟨0, 0, 0, 0⟩)
abbrev s_with_ranges : Stmt := topS 4
abbrev s_merged : Stmt := topS 6
abbrev s_within : Stmt := topS 7
abbrev s_joined_ranges : Stmt := topS 8
abbrev s_alike : Stmt := topS 9
abbrev s_without_ranges : Stmt := topS 10
abbrev s_law_pool : Stmt := topS 12
abbrev s_law_spread : Stmt := topS 13
abbrev s_law_draw : Stmt := topS 14
abbrev s_law_same : Stmt := topS 15
abbrev s_law_bits : Stmt := topS 16
abbrev s_law_table : Stmt := topS 17
abbrev s_law_register : Stmt := topS 18
abbrev s_law_shuffled : Stmt := topS 19
abbrev s_law_circuit : Stmt := topS 20
abbrev s_law_refused : Stmt := topS 21
abbrev s_law_ranged : Stmt := topS 22
abbrev s_law_inside : Stmt := topS 23
abbrev s_law_other : Stmt := topS 24
abbrev s_law : Stmt := topS 25
end G
namespace G
open PySem PySem.Spec PyProof.Rows L2 Evl
structure TxtL (mg : Str → Option Value) : Prop where
  int : mg "int" = none
  len : mg "len" = none
  list : mg "list" = none
  range : mg "range" = none
section
variable {P : Program} {w : World} {K : PySem.W.Frag} {mg : Str → Option Value} {base : Heap}
def spSpread : Sp := fun vs H Q _ => ∃ (c : Int), vs = [.int c] ∧ ∀ v : Int, Q (.int v) H
theorem sc_law_spread : FnScope ["cell", "mixed", "total", "k"] ["cell"] (defScope s_law_spread) := ⟨rfl, rfl, rfl, by decide +kernel, rfl, by decide +kernel, by decide +kernel⟩
theorem ok_law_spread (D : Dfd K mg "_law_spread" s_law_spread ["cell"]) (T : TxtL mg) : Has P w K mg base 1 "_law_spread" ["cell"] spSpread := by
  refine D.has fun f fd F => F.ok sc_law_spread (fun vs H Q E h => ?_) (fun cdv A outer s H vs Q E hr h => ?_)
  · obtain ⟨c, rfl, _⟩ := h
    rfl
  · obtain ⟨c, rfl, q⟩ := h
    refine ⟨_, (pss_cons (ps_set (i := 1) sc_law_spread.nd rfl (.inl rfl) (pe_op op_mod (pe_callTy call_int1 (by rfl) T.int (by decide +kernel) (pa_cons (pv 0) pa_nil)) pe_int))
      (pss_cons (ps_set (i := 2) sc_law_spread.nd rfl (.inl rfl) pe_int)
      (pss_cons (ps_for PassesOwn.never rfl (pi_range1 rfl T.range (pa_cons pe_int pa_nil)) (pg_name (i := 3) sc_law_spread.nd rfl (.inl rfl))
        (pss_cons (ps_set (i := 1) sc_law_spread.nd rfl (.inl rfl) (pe_op op_mod (pe_callTy call_int1 (by rfl) T.int (by decide +kernel) (pa_cons (pe_op op_add (pe_op op_add (pe_op op_mul (pv 1) pe_int) pe_int) (pv 3)) pa_nil)) pe_int))
        (pss_one (ps_set (i := 2) sc_law_spread.nd rfl (.inl rfl) (pe_op op_add (pe_op op_mul (pv 2) pe_int) (pv 1))))))
      (pss_one (ps_ret (pv 2)))))), ?_⟩
    refine ⟨_, rfl, .inl ⟨_, rfl, _, _, rfl, rfl, (by show (0 : Int) < 2147483647; decide), 4, rfl, by decide, by decide, for_range (n := 4) (fun _ σ H' => H' = H ∧ ∃ (x y : Int) (z : Option V), σ = [some (.int c), some (.int x), some (.int y), z]) ⟨rfl, _, _, _, rfl⟩ ?_ ?_⟩⟩
    · rintro i σ H' hi ⟨rfl, x, y, z, rfl⟩
      refine ⟨_, rfl, _, _, rfl, rfl, .inr ⟨by decide, by decide⟩, _, _, rfl, rfl, _, rfl, _, _, rfl, rfl, .inl ⟨_, rfl, _, _, rfl, rfl, (by show (0 : Int) < 2147483647; decide), _, rfl, _, _, rfl, rfl, .inr ⟨by decide, by decide⟩, _, rfl, _, _, rfl, rfl, rfl, _, _, _, rfl⟩⟩
    · rintro σ H' ⟨rfl, x, y, z, rfl⟩
      exact ⟨_, rfl, q y⟩
/-- a draw below n -/
def spDraw : Sp := fun vs H Q _ => ∃ (p a : Addr) (n : Int), vs = [.ref p, .int n] ∧ 0 < n ∧ n.natAbs.log2 < 9000 ∧ PoolOk p a H ∧ ∀ (v : Int) (o : HO), 0 ≤ v → v < n → PoolOk p a (upd H p o) → Q (.int v) (upd H p o)
theorem sc_law_draw : FnScope ["pool", "many", "cell", "mixed", "value"] ["pool", "many"] (defScope s_law_draw) := ⟨rfl, rfl, rfl, by decide +kernel, rfl, by decide +kernel, by decide +kernel⟩
theorem ok_law_draw (D : Dfd K mg "_law_draw" s_law_draw ["pool", "many"]) (T : TxtL mg) (C : Has P w K mg base 1 "_law_spread" ["cell"] spSpread) : Has P w K mg base 2 "_law_draw" ["pool", "many"] spDraw := by
  obtain ⟨f_law_spread, d_law_spread, G_law_spread, g_law_spread, k_law_spread, b_law_spread⟩ := C
  refine D.has fun f fd F => F.ok sc_law_draw (fun vs H Q E h => ?_) (fun cdv A outer s H vs Q E hr h => ?_)
  · obtain ⟨p, a, n, rfl, _⟩ := h
    rfl
  · obtain ⟨p, a, n, rfl, n0, n9, hp, q⟩ := h
    refine ⟨_, (pss_cut (ps_if (PW.pt (pw_and (pt_cmpR op_le (pe_ix ix_list (pv 0) pe_int (fun _ _ => rfl)) pe_int (nomark _)) (pw_and1 (pt_cmpR op_lt (pe_ix ix_list (pv 0) pe_int (fun _ _ => rfl)) (pe_callB call_len_seq (by rfl) T.len (by decide +kernel) (pa_cons (pe_ix ix_list (pv 0) pe_int (fun _ _ => rfl)) pa_nil)) (nomark _)))))
      (pss_cons (ps_set (i := 2) sc_law_draw.nd rfl (.inl rfl) (pe_ix ix_list (pe_ix ix_list (pv 0) pe_int (fun _ _ => rfl)) (pe_ix ix_list (pv 0) pe_int (fun _ _ => rfl)) (fun _ _ => rfl)))
      (pss_cons (ps_asg (pe_op op_add (pe_ix ix_list (pv 0) pe_int (fun _ _ => rfl)) pe_int) (pg_sub (pv 0) pe_int set_list))
      (pss_cons (ps_asg (pv 2) (pg_sub (pv 0) pe_int set_list))
      (pss_one (ps_if (pt_cmpR op_lt (pv 2) pe_int (nomark _))
        (pss_one (ps_asg (pe_call G_law_spread hr (by rfl) g_law_spread k_law_spread b_law_spread .nil pass0 (pa_cons (pv 2) pa_nil)) (pg_sub (pv 0) pe_int set_list)))
        pss_nil)))))
      pss_nil)
    (pss_cons (ps_asg (pe_op op_add (pe_ix ix_list (pv 0) pe_int (fun _ _ => rfl)) pe_int) (pg_sub (pv 0) pe_int set_list))
    (pss_cons (ps_if (pt_cmpR op_le (pe_ix ix_list (pv 0) pe_int (fun _ _ => rfl)) pe_int (nomark _))
      (pss_cons (ps_set (i := 3) sc_law_draw.nd rfl (.inl rfl) (pe_op op_mod (pe_callTy call_int1 (by rfl) T.int (by decide +kernel) (pa_cons (pe_op op_add (pe_op op_add (pe_op op_mul (pe_ix ix_list (pv 0) pe_int (fun _ _ => rfl)) pe_int) (pe_op op_mul (pe_ix ix_list (pv 0) pe_int (fun _ _ => rfl)) pe_int)) pe_int) pa_nil)) pe_int))
      (pss_cons (ps_set (i := 3) sc_law_draw.nd rfl (.inl rfl) (pe_op op_mod (pe_callTy call_int1 (by rfl) T.int (by decide +kernel) (pa_cons (pe_op op_add (pe_op op_mul (pv 3) pe_int) (pe_ix ix_list (pv 0) pe_int (fun _ _ => rfl))) pa_nil)) pe_int))
      (pss_one (ps_ret (pe_op op_mod (pe_op op_fdiv (pv 3) pe_int) (pv 1))))))
      pss_nil)
    (pss_cons (ps_set (i := 4) sc_law_draw.nd rfl (.inl rfl) (pe_op op_mod (pe_callTy call_int1 (by rfl) T.int (by decide +kernel) (pa_cons (pe_ix ix_list (pv 0) pe_int (fun _ _ => rfl)) pa_nil)) (pv 1)))
    (pss_cons (ps_asg (pe_op op_fdivW (pe_ix ix_list (pv 0) pe_int (fun _ _ => rfl)) (pv 1)) (pg_sub (pv 0) pe_int set_list))
    (pss_one (ps_ret (pv 4)))))))), ?_⟩
    obtain ⟨ns, i, c, k, s5, hl, ha, hn⟩ := hp
    have hap : a ≠ p := hid_neq ha
    have haH := hid_get ha
    -- the pool as it stands after writes
    have pk : ∀ (i' : Nat) (c' k' s' : Int), PoolOk p a (upd H p (.lst [.ref a, .int i', .int c', .int k', .int s'])) := fun i' c' k' s' =>
      ⟨ns, i', c', k', s', upd_same, by rw [hid_upd]; exact ha, hn⟩
    refine ⟨fun σ H' => ∃ (i' : Nat) (c' k' s' : Int) (o1 : Option V), σ = [some (.ref p), some (.int n), o1, none, none] ∧ H' p = some (.lst [.ref a, .int i', .int c', .int k', .int s']) ∧ (∀ o, upd H' p o = upd H p o), ?_, ?_⟩
    · refine ⟨_, rfl, _, _, _, _, rfl, rfl, SqL.of hl, atI_nat (j := 2) rfl, _, _, rfl, rfl, _, rfl, ite2 (fun e1 => ?_) (fun e1 => ?_)⟩
      · refine ⟨_, rfl, _, _, _, _, rfl, rfl, SqL.of hl, atI_nat (j := 1) rfl, _, rfl, _, _, _, _, rfl, rfl, SqL.of hl, atI_nat (j := 0) rfl, _, _, rfl, .inl (SqL.of haH), _, _, rfl, rfl, _, rfl, ite2 (fun e2 => ?_) (fun e2 => ?_)⟩
        · have hi : i < (ns.map V.int).length := by have := of_decide_eq_true e2; omega
          have hi' : i < ns.length := by rw [List.length_map] at hi; exact hi
          have gi : (ns.map V.int)[i]? = some (.int ns[i]) := by rw [List.getElem?_map, List.getElem?_eq_getElem hi']; rfl
          refine ⟨_, rfl, _, _, _, _, rfl, rfl, SqL.of hl, atI_nat (j := 0) rfl, _, rfl, _, _, _, _, rfl, rfl, SqL.of hl, atI_nat (j := 1) rfl, _, _, _, _, rfl, rfl, SqL.of haH, atI_nat gi, ?_⟩
          refine ⟨_, rfl, _, _, _, _, rfl, rfl, SqL.of hl, atI_nat (j := 1) rfl, _, _, rfl, rfl, _, rfl, _, _, _, 1, rfl, rfl, hl, rfl, ?_⟩
          refine ⟨_, rfl, _, rfl, _, _, _, 2, rfl, rfl, upd_same, rfl, ?_⟩
          refine ⟨_, rfl, _, _, rfl, rfl, _, rfl, ite2 (fun e3 => ?_) (fun e3 => ?_)⟩
          · refine ⟨_, rfl, _, rfl, fun v => ⟨_, rfl, _, _, _, 2, rfl, rfl, upd_same, rfl, ?_⟩⟩
            exact ⟨i + 1, v, k, s5, _, rfl, upd_same, fun o => by rw [upd_upd, upd_upd, upd_upd]⟩
          · exact ⟨i + 1, ns[i], k, s5, _, rfl, upd_same, fun o => by rw [upd_upd, upd_upd]⟩
        · exact ⟨i, c, k, s5, _, rfl, hl, fun _ => rfl⟩
      · exact iteF ⟨i, c, k, s5, _, rfl, hl, fun _ => rfl⟩
    · rintro σ H' ⟨i, c, k, s5, o1, rfl, hl', hu⟩
      refine ⟨_, rfl, _, _, _, _, rfl, rfl, SqL.of hl', atI_nat (j := 3) rfl, _, _, rfl, rfl, _, rfl, _, _, _, 3, rfl, rfl, hl', rfl, ?_⟩
      refine ⟨_, rfl, _, _, _, _, rfl, rfl, SqL.of upd_same, atI_nat (j := 2) rfl, _, _, rfl, rfl, _, rfl, ite2 (fun e1 => ?_) (fun e1 => ?_)⟩
      · refine ⟨_, rfl, _, _, _, _, rfl, rfl, SqL.of upd_same, atI_nat (j := 4) rfl, _, _, rfl, rfl, .inr ⟨by decide, by decide⟩, _, rfl, _, _, _, _, rfl, rfl, SqL.of upd_same, atI_nat (j := 3) rfl, _, _, rfl, rfl, .inr ⟨by decide, by decide⟩, _, _, rfl, rfl, _, _, rfl, rfl, .inl ⟨_, rfl, _, _, rfl, rfl, (by show (0 : Int) < 2147483647; decide), ?_⟩⟩
        refine ⟨_, rfl, _, _, rfl, rfl, .inr ⟨by decide, by decide⟩, _, rfl, _, _, _, _, rfl, rfl, SqL.of upd_same, atI_nat (j := 3) rfl, _, _, rfl, rfl, .inl ⟨_, rfl, _, _, rfl, rfl, (by show (0 : Int) < 2147483629; decide), ?_⟩⟩
        refine ⟨_, rfl, _, _, rfl, rfl, ⟨by decide, by decide⟩, _, rfl, _, _, rfl, rfl, n0, ?_⟩
        show Q _ _
        rw [hu]
        exact q _ _ (Int.emod_nonneg _ (by omega)) (Int.emod_lt_of_pos _ n0) (pk i c (k + 1) s5)
      · refine ⟨_, rfl, _, _, _, _, rfl, rfl, SqL.of upd_same, atI_nat (j := 2) rfl, .inl ⟨_, rfl, _, rfl, _, _, rfl, rfl, n0, ?_⟩⟩
        refine ⟨_, rfl, _, _, _, _, rfl, rfl, SqL.of upd_same, atI_nat (j := 2) rfl, _, rfl, _, _, rfl, rfl, ⟨n0, n9⟩, _, rfl, _, _, _, 2, rfl, rfl, upd_same, rfl, _, rfl, ?_⟩
        show Q _ _
        rw [upd_upd, hu]
        exact q _ _ (Int.emod_nonneg _ (by omega)) (Int.emod_lt_of_pos _ n0) (pk i (c / n) (k + 1) s5)
/-- the same, the heap behind it a letter -/
def spDrawX : Sp := fun vs H Q _ => ∃ (p a : Addr) (n : Int), vs = [.ref p, .int n] ∧ 0 < n ∧ n ≤ 2 ^ 70 ∧ PoolOk p a H ∧ ∀ (v : Nat) (H' : Hp), (v : Int) < n → Px p a H H' → (∀ b, b ≠ p → H' b = H b) → Q (.int v) H'
theorem log2_small {n : Int} (h0 : 0 < n) (h : n ≤ 2 ^ 70) : n.natAbs.log2 < 9000 := by
  have h1 : n.natAbs < 2 ^ 71 := by omega
  have := PySem.Flt.log2_lt_of (by decide : 0 < 71) h1
  omega
theorem drawX (C : Has P w K mg base 2 "_law_draw" ["pool", "many"] spDraw) : Has P w K mg base 2 "_law_draw" ["pool", "many"] spDrawX :=
  C.imp fun vs H Q E h => by
    obtain ⟨p, a, n, rfl, h0, h1, hp, q⟩ := h
    refine ⟨p, a, n, rfl, h0, log2_small h0 h1, hp, fun v o v0 v1 hq => ?_⟩
    have e : v = ((v.toNat : Nat) : Int) := by omega
    rw [e]
    exact q v.toNat _ (by omega) (Px.draw hp hq) fun b hb => upd_ne hb
end
end G
namespace G
open PySem PySem.Spec PyProof.Rows L2 Evl
/-! ## data -/
inductive D where
  | non | bl (b : Bool) | int (i : Int) | str (s : Str) | tup (l : List D) | lst (l : List D)
def okD : Nat → D → Prop
  | 0, .tup _ => False
  | 0, .lst _ => False
  | n + 1, .tup l => l.length < 2 ^ 61 ∧ ∀ d ∈ l, okD n d
  | n + 1, .lst l => l.length < 2 ^ 61 ∧ ∀ d ∈ l, okD n d
  | _, _ => True
inductive Rep (H : Hp) : V → D → Prop where
  | non : Rep H .non .non
  | bl (b : Bool) : Rep H (.bl b) (.bl b)
  | int (i : Int) : Rep H (.int i) (.int i)
  | str (s : Str) : Rep H (.str s) (.str s)
  | tup {a : Addr} {xs : List V} {ds : List D} (h : H a = some (.tup xs)) (hl : xs.length = ds.length) (hr : ∀ (i : Nat) (x : V) (d : D), xs[i]? = some x → ds[i]? = some d → Rep H x d) : Rep H (.ref a) (.tup ds)
  | lst {a : Addr} {xs : List V} {ds : List D} (h : H a = some (.lst xs)) (hl : xs.length = ds.length) (hr : ∀ (i : Nat) (x : V) (d : D), xs[i]? = some x → ds[i]? = some d → Rep H x d) : Rep H (.ref a) (.lst ds)
theorem Rep.ex {H H' : Hp} (e : Ex H H') {x : V} {d : D} (r : Rep H x d) : Rep H' x d := by
  induction r with
  | non => exact .non
  | bl b => exact .bl b
  | int i => exact .int i
  | str s => exact .str s
  | tup h hl _ ih => exact .tup (e _ _ h) hl ih
  | lst h hl _ ih => exact .lst (e _ _ h) hl ih
theorem okD.mono : ∀ {n m : Nat} {d : D}, n ≤ m → okD n d → okD m d
  | 0, 0, d, _, h => h
  | 0, m + 1, .non, _, _ => trivial
  | 0, m + 1, .bl _, _, _ => trivial
  | 0, m + 1, .int _, _, _ => trivial
  | 0, m + 1, .str _, _, _ => trivial
  | 0, m + 1, .tup _, _, h => h.elim
  | 0, m + 1, .lst _, _, h => h.elim
  | n + 1, m + 1, .non, _, _ => trivial
  | n + 1, m + 1, .bl _, _, _ => trivial
  | n + 1, m + 1, .int _, _, _ => trivial
  | n + 1, m + 1, .str _, _, _ => trivial
  | n + 1, m + 1, .tup l, le, h => ⟨h.1, fun d hd => okD.mono (Nat.le_of_succ_le_succ le) (h.2 d hd)⟩
  | n + 1, m + 1, .lst l, le, h => ⟨h.1, fun d hd => okD.mono (Nat.le_of_succ_le_succ le) (h.2 d hd)⟩
structure TxtS (mg : Str → Option Value) : Prop where
  isinstance : mg "isinstance" = none
  tuple : mg "tuple" = none
  list : mg "list" = none
  len : mg "len" = none
  range : mg "range" = none
  bool : mg "bool" = none
  int : mg "int" = none
  str : mg "str" = none
section
variable {P : Program} {w : World} {K : PySem.W.Frag} {mg : Str → Option Value} {base : Heap}
/-- equal data: the answer is True -/
def spSame : Nat → Sp
  | 0 => fun _ _ _ _ => False
  | n + 1 => fun vs H Q _ => ∃ (x y : V) (d : D), vs = [x, y] ∧ Rep H x d ∧ Rep H y d ∧ okD n d ∧ Q (.bl true) H
theorem sc_law_same : FnScope ["actual", "due", "k"] ["actual", "due"] (defScope s_law_same) := ⟨rfl, rfl, rfl, by decide +kernel, rfl, by decide +kernel, by decide +kernel⟩
theorem fn_law_same {f : Addr} {fd : FuncData} (F : Fun K "_law_same" "_law_same" s_law_same f fd) (g_law_same : mg "_law_same" = some (.ref f)) (b_law_same : Binds K fd ["actual", "due"] []) (T : TxtS mg) : ∀ n, FnOk P w K mg base CX0 n f fd ["actual", "due"] (spSame n)
  | 0 => ⟨fun _ _ _ _ h => h.elim, fun _ _ _ _ _ _ _ _ _ _ _ _ _ h => h.elim⟩
  | n + 1 => by
    have G_law_same := fn_law_same F g_law_same b_law_same T n
    have k_law_same := F.kp
    refine F.ok sc_law_same (fun vs H Q E h => ?_) (fun cdv A outer s H vs Q E hr h => ?_)
    · obtain ⟨x, y, d, rfl, _⟩ := h
      rfl
    · obtain ⟨x, y, d, rfl, rx, ry, hd, q⟩ := h
      refine ⟨_, (pss_cons (ps_if (PW.pt (pw_or (pt_val (pe_callB call_isi (by rfl) T.isinstance (by decide +kernel) (pa_cons (pv 1) (pa_cons (pe_bltn (v := .ty "tuple") (by rfl) T.tuple (by decide +kernel) rfl) pa_nil)))) (pw_or1 (pt_val (pe_callB call_isi (by rfl) T.isinstance (by decide +kernel) (pa_cons (pv 1) (pa_cons (pe_bltn (v := .ty "list") (by rfl) T.list (by decide +kernel) rfl) pa_nil)))))))
      (pss_cons (ps_if (PW.pt (pw_or (pt_cmpR op_ne (pe_callB call_isi (by rfl) T.isinstance (by decide +kernel) (pa_cons (pv 1) (pa_cons (pe_bltn (v := .ty "tuple") (by rfl) T.tuple (by decide +kernel) rfl) pa_nil))) (pe_callB call_isi (by rfl) T.isinstance (by decide +kernel) (pa_cons (pv 0) (pa_cons (pe_bltn (v := .ty "tuple") (by rfl) T.tuple (by decide +kernel) rfl) pa_nil))) (nomark _)) (pw_or1 (pt_cmpR op_ne (pe_callB call_isi (by rfl) T.isinstance (by decide +kernel) (pa_cons (pv 1) (pa_cons (pe_bltn (v := .ty "list") (by rfl) T.list (by decide +kernel) rfl) pa_nil))) (pe_callB call_isi (by rfl) T.isinstance (by decide +kernel) (pa_cons (pv 0) (pa_cons (pe_bltn (v := .ty "list") (by rfl) T.list (by decide +kernel) rfl) pa_nil))) (nomark _)))))
        (pss_one (ps_ret pe_bl))
        pss_nil)
      (pss_cons (ps_if (pt_cmpR op_ne (pe_callB call_len_seq (by rfl) T.len (by decide +kernel) (pa_cons (pv 0) pa_nil)) (pe_callB call_len_seq (by rfl) T.len (by decide +kernel) (pa_cons (pv 1) pa_nil)) (nomark _))
        (pss_one (ps_ret pe_bl))
        pss_nil)
      (pss_cons (ps_for PassesOwn.never rfl (pi_range1 rfl T.range (pa_cons (pe_callB call_len_seq (by rfl) T.len (by decide +kernel) (pa_cons (pv 1) pa_nil)) pa_nil)) (pg_name (i := 2) sc_law_same.nd rfl (.inl rfl))
        (pss_one (ps_if (pt_not (pt_val (pe_call G_law_same hr (by rfl) g_law_same k_law_same b_law_same .nil pass0 (pa_cons (pe_ix ix_seq (pv 0) (pv 2) (fun _ _ => rfl)) (pa_cons (pe_ix ix_seq (pv 1) (pv 2) (fun _ _ => rfl)) pa_nil)))))
          (pss_one (ps_ret pe_bl))
          pss_nil)))
      (pss_one (ps_ret pe_bl)))))
      pss_nil)
    (pss_cons (ps_if (pt_cmpR op_isN (pv 1) pe_non (nomark _))
      (pss_one (ps_ret (pe_cmpR op_isN (pv 0) pe_non (nomark _))))
      pss_nil)
    (pss_cons (ps_if (pt_val (pe_callB call_isi (by rfl) T.isinstance (by decide +kernel) (pa_cons (pv 1) (pa_cons (pe_bltn (v := .ty "bool") (by rfl) T.bool (by decide +kernel) rfl) pa_nil))))
      (pss_one (ps_ret (pe_and (pe_callB call_isi (by rfl) T.isinstance (by decide +kernel) (pa_cons (pv 0) (pa_cons (pe_bltn (v := .ty "bool") (by rfl) T.bool (by decide +kernel) rfl) pa_nil))) (pe_one (pe_cmpR op_eq (pv 0) (pv 1) (nomark _))))))
      pss_nil)
    (pss_cons (ps_if (pt_val (pe_callB call_isi (by rfl) T.isinstance (by decide +kernel) (pa_cons (pv 1) (pa_cons (pe_bltn (v := .ty "int") (by rfl) T.int (by decide +kernel) rfl) pa_nil))))
      (pss_one (ps_ret (pe_and (pe_callB call_isi (by rfl) T.isinstance (by decide +kernel) (pa_cons (pv 0) (pa_cons (pe_bltn (v := .ty "int") (by rfl) T.int (by decide +kernel) rfl) pa_nil))) (pe_and (pe_not (pe_callB call_isi (by rfl) T.isinstance (by decide +kernel) (pa_cons (pv 0) (pa_cons (pe_bltn (v := .ty "bool") (by rfl) T.bool (by decide +kernel) rfl) pa_nil)))) (pe_one (pe_cmpR op_eq (pv 0) (pv 1) (nomark _)))))))
      pss_nil)
    (pss_one (ps_ret (pe_and (pe_callB call_isi (by rfl) T.isinstance (by decide +kernel) (pa_cons (pv 0) (pa_cons (pe_bltn (v := .ty "str") (by rfl) T.str (by decide +kernel) rfl) pa_nil))) (pe_one (pe_cmpR op_eq (pv 0) (pv 1) (nomark _)))))))))), ?_⟩
      cases rx with
      | non =>
        cases ry
        refine ⟨_, rfl, _, _, _, _, _, rfl, .ty "tuple", .base .non, kit_ty (a := "NoneType") (r := false) (by decide +kernel), _, rfl, iteF ⟨_, rfl, _, _, _, _, _, rfl, .ty "list", .base .non, kit_ty (a := "NoneType") (r := false) (by decide +kernel), _, rfl, iteF ⟨_, rfl, rfl, _, rfl, iteT ⟨_, rfl, rfl, ?_⟩⟩⟩⟩
        exact q
      | bl b =>
        cases ry
        refine ⟨_, rfl, _, _, _, _, _, rfl, .ty "tuple", .base (.bl _), kit_ty (a := "bool") (r := false) (by decide +kernel), _, rfl, iteF ⟨_, rfl, _, _, _, _, _, rfl, .ty "list", .base (.bl _), kit_ty (a := "bool") (r := false) (by decide +kernel), _, rfl, iteF ⟨_, rfl, rfl, _, rfl, iteF ⟨_, rfl, _, _, _, _, _, rfl, .ty "bool", .base (.bl _), kit_ty (a := "bool") (r := true) (by decide +kernel), _, rfl, iteT ⟨_, rfl, _, _, _, _, _, rfl, .ty "bool", .base (.bl _), kit_ty (a := "bool") (r := true) (by decide +kernel), _, rfl, iteT ⟨_, rfl, _, rfl, rfl, ?_⟩⟩⟩⟩⟩⟩
        rw [decide_eq_true rfl]
        exact q
      | int b =>
        cases ry
        refine ⟨_, rfl, _, _, _, _, _, rfl, .ty "tuple", .base (.int _), kit_ty (a := "int") (r := false) (by decide +kernel), _, rfl, iteF ⟨_, rfl, _, _, _, _, _, rfl, .ty "list", .base (.int _), kit_ty (a := "int") (r := false) (by decide +kernel), _, rfl, iteF ⟨_, rfl, rfl, _, rfl, iteF ⟨_, rfl, _, _, _, _, _, rfl, .ty "bool", .base (.int _), kit_ty (a := "int") (r := false) (by decide +kernel), _, rfl, iteF ⟨_, rfl, _, _, _, _, _, rfl, .ty "int", .base (.int _), kit_ty (a := "int") (r := true) (by decide +kernel), _, rfl, iteT ⟨_, rfl, _, _, _, _, _, rfl, .ty "int", .base (.int _), kit_ty (a := "int") (r := true) (by decide +kernel), _, rfl, iteT ⟨_, rfl, _, _, _, _, _, rfl, .ty "bool", .base (.int _), kit_ty (a := "int") (r := false) (by decide +kernel), _, rfl, _, rfl, iteT ⟨_, rfl, _, rfl, rfl, ?_⟩⟩⟩⟩⟩⟩⟩⟩
        rw [decide_eq_true rfl]
        exact q
      | str b =>
        cases ry
        refine ⟨_, rfl, _, _, _, _, _, rfl, .ty "tuple", .base (.str _), kit_ty (a := "str") (r := false) (by decide +kernel), _, rfl, iteF ⟨_, rfl, _, _, _, _, _, rfl, .ty "list", .base (.str _), kit_ty (a := "str") (r := false) (by decide +kernel), _, rfl, iteF ⟨_, rfl, rfl, _, rfl, iteF ⟨_, rfl, _, _, _, _, _, rfl, .ty "bool", .base (.str _), kit_ty (a := "str") (r := false) (by decide +kernel), _, rfl, iteF ⟨_, rfl, _, _, _, _, _, rfl, .ty "int", .base (.str _), kit_ty (a := "str") (r := false) (by decide +kernel), _, rfl, iteF ⟨_, rfl, _, _, _, _, _, rfl, .ty "str", .base (.str _), kit_ty (a := "str") (r := true) (by decide +kernel), _, rfl, iteT ⟨_, rfl, _, rfl, rfl, ?_⟩⟩⟩⟩⟩⟩⟩
        rw [decide_eq_true rfl]
        exact q
      | @tup a xs ds hx lx rx =>
        cases ry with
        | @tup b ys _ hy ly ry =>
          cases n with
          | zero => exact hd.elim
          | succ m =>
            obtain ⟨hlen, hall⟩ := hd
            refine ⟨_, rfl, _, _, _, _, _, rfl, .ty "tuple", .base (.tup hy), kit_ty (a := "tuple") (r := true) (by decide +kernel), _, rfl, iteT (iteT ⟨_, rfl, _, _, _, _, _, rfl, .ty "tuple", .base (.tup hy), kit_ty (a := "tuple") (r := true) (by decide +kernel), _, rfl, _, _, _, _, _, rfl, .ty "tuple", .base (.tup hx), kit_ty (a := "tuple") (r := true) (by decide +kernel), rfl, _, rfl, iteF ⟨_, rfl, _, _, _, _, _, rfl, .ty "list", .base (.tup hy), kit_ty (a := "tuple") (r := false) (by decide +kernel), _, rfl, _, _, _, _, _, rfl, .ty "list", .base (.tup hx), kit_ty (a := "tuple") (r := false) (by decide +kernel), rfl, _, rfl, iteF ⟨_, rfl, _, _, rfl, .inr (SqT.of hx), _, rfl, _, _, rfl, .inr (SqT.of hy), rfl, _, rfl, ?_⟩⟩⟩)⟩
            have el : decide (V.int (xs.length : Int) = V.int (ys.length : Int)) = true := decide_eq_true (by rw [lx, ly])
            rw [el]
            refine ⟨_, rfl, _, _, rfl, .inr (SqT.of hy), _, rfl, by omega, by omega, for_range (n := (ys.length : Int).toNat) (fun _ σ H' => H' = H ∧ ∃ z : Option V, σ = [some (.ref a), some (.ref b), z]) ⟨rfl, _, rfl⟩ ?_ ?_⟩
            · rintro i σ H' hi ⟨rfl, z, rfl⟩
              have hi' : i < ds.length := by omega
              have e0 : (0 : Int) + (i : Int) = (i : Int) := Int.zero_add _
              have g1 : xs[i]? = some xs[i] := List.getElem?_eq_getElem (by omega)
              have g2 : ys[i]? = some ys[i] := List.getElem?_eq_getElem (by omega)
              have g3 : ds[i]? = some ds[i] := List.getElem?_eq_getElem hi'
              rw [e0]
              refine ⟨_, rfl, _, rfl, .inr (.inl ⟨_, _, _, _, rfl, rfl, SqT.of hx, atI_nat g1, _, rfl, _, rfl, .inr (.inl ⟨_, _, _, _, rfl, rfl, SqT.of hy, atI_nat g2, ?_⟩)⟩)⟩
              exact ⟨_, _, ds[i], rfl, rx i _ _ g1 g3, ry i _ _ g2 g3, hall _ (List.getElem_mem hi'), _, rfl, rfl, _, rfl⟩
            · rintro σ H' ⟨rfl, z, rfl⟩
              exact q
      | @lst a xs ds hx lx rx =>
        cases ry with
        | @lst b ys _ hy ly ry =>
          cases n with
          | zero => exact hd.elim
          | succ m =>
            obtain ⟨hlen, hall⟩ := hd
            refine ⟨_, rfl, _, _, _, _, _, rfl, .ty "tuple", .base (.lst hy), kit_ty (a := "list") (r := false) (by decide +kernel), _, rfl, iteF ⟨_, rfl, _, _, _, _, _, rfl, .ty "list", .base (.lst hy), kit_ty (a := "list") (r := true) (by decide +kernel), _, rfl, iteT ⟨_, rfl, _, _, _, _, _, rfl, .ty "tuple", .base (.lst hy), kit_ty (a := "list") (r := false) (by decide +kernel), _, rfl, _, _, _, _, _, rfl, .ty "tuple", .base (.lst hx), kit_ty (a := "list") (r := false) (by decide +kernel), rfl, _, rfl, iteF ⟨_, rfl, _, _, _, _, _, rfl, .ty "list", .base (.lst hy), kit_ty (a := "list") (r := true) (by decide +kernel), _, rfl, _, _, _, _, _, rfl, .ty "list", .base (.lst hx), kit_ty (a := "list") (r := true) (by decide +kernel), rfl, _, rfl, iteF ⟨_, rfl, _, _, rfl, .inl (SqL.of hx), _, rfl, _, _, rfl, .inl (SqL.of hy), rfl, _, rfl, ?_⟩⟩⟩⟩⟩
            have el : decide (V.int (xs.length : Int) = V.int (ys.length : Int)) = true := decide_eq_true (by rw [lx, ly])
            rw [el]
            refine ⟨_, rfl, _, _, rfl, .inl (SqL.of hy), _, rfl, by omega, by omega, for_range (n := (ys.length : Int).toNat) (fun _ σ H' => H' = H ∧ ∃ z : Option V, σ = [some (.ref a), some (.ref b), z]) ⟨rfl, _, rfl⟩ ?_ ?_⟩
            · rintro i σ H' hi ⟨rfl, z, rfl⟩
              have hi' : i < ds.length := by omega
              have e0 : (0 : Int) + (i : Int) = (i : Int) := Int.zero_add _
              have g1 : xs[i]? = some xs[i] := List.getElem?_eq_getElem (by omega)
              have g2 : ys[i]? = some ys[i] := List.getElem?_eq_getElem (by omega)
              have g3 : ds[i]? = some ds[i] := List.getElem?_eq_getElem hi'
              rw [e0]
              refine ⟨_, rfl, _, rfl, .inl ⟨_, _, _, _, rfl, rfl, SqL.of hx, atI_nat g1, _, rfl, _, rfl, .inl ⟨_, _, _, _, rfl, rfl, SqL.of hy, atI_nat g2, ?_⟩⟩⟩
              exact ⟨_, _, ds[i], rfl, rx i _ _ g1 g3, ry i _ _ g2 g3, hall _ (List.getElem_mem hi'), _, rfl, rfl, _, rfl⟩
            · rintro σ H' ⟨rfl, z, rfl⟩
              exact q
theorem ok_law_same (D : Dfd K mg "_law_same" s_law_same ["actual", "due"]) (T : TxtS mg) (n : Nat) : Has P w K mg base n "_law_same" ["actual", "due"] (spSame n) := by
  obtain ⟨f, fd, F, g, b⟩ := D
  exact ⟨f, fd, fn_law_same F g b T n, g, F.kp, b⟩
end
/-! ## data made of flat lists -/
theorem rep_map {H : Hp} {α : Type} {f : α → V} {g : α → D} {l : List α} (h : ∀ x, Rep H (f x) (g x)) : (l.map f).length = (l.map g).length ∧ ∀ (i : Nat) (x : V) (d : D), (l.map f)[i]? = some x → (l.map g)[i]? = some d → Rep H x d := by
  refine ⟨by rw [List.length_map, List.length_map], fun i x d hx hd => ?_⟩
  rw [List.getElem?_map] at hx hd
  cases e : l[i]? with
  | none => rw [e] at hx; cases hx
  | some y =>
    rw [e] at hx hd
    have e1 : f y = x := Option.some.inj hx
    have e2 : g y = d := Option.some.inj hd
    rw [← e1, ← e2]
    exact h y
theorem rep_ints {H : Hp} {a : Addr} {l : List Int} (h : H a = some (.lst (l.map V.int))) : Rep H (.ref a) (.lst (l.map D.int)) :=
  let r := rep_map (H := H) (f := V.int) (g := D.int) (l := l) fun i => .int i
  .lst h r.1 r.2
theorem rep_bls {H : Hp} {a : Addr} {l : List Bool} (h : H a = some (.tup (l.map V.bl))) : Rep H (.ref a) (.tup (l.map D.bl)) :=
  let r := rep_map (H := H) (f := V.bl) (g := D.bl) (l := l) fun i => .bl i
  .tup h r.1 r.2
theorem okD_ints {l : List Int} (h : l.length < 2 ^ 61) : okD 1 (.lst (l.map D.int)) := ⟨by rw [List.length_map]; exact h, fun d hd => by obtain ⟨_, _, rfl⟩ := List.mem_map.mp hd; trivial⟩
end G
namespace G
open PySem PySem.Spec PyProof.Rows L2 Evl
section
variable {P : Program} {w : World} {K : PySem.W.Frag} {mg : Str → Option Value} {base : Heap}
theorem cutV_mem {xs : List V} {lo hi : Option Int} {i : Nat} {x : V} (h : (cutV xs lo hi)[i]? = some x) : x ∈ xs := by
  unfold cutV at h
  exact List.mem_of_mem_drop (List.mem_of_mem_take (List.mem_of_getElem? h))
theorem int_of {ns : List Int} {x : V} (h : x ∈ ns.map V.int) : ∃ z, x = .int z := by
  obtain ⟨z, _, e⟩ := List.mem_map.mp h
  exact ⟨z, e.symm⟩
def spPool (K : PySem.W.Frag) : Sp := fun vs H Q _ => ∃ (s : Addr) (ns : List Int), vs = [.ref s] ∧ SqL K H s (ns.map V.int) ∧ ns.length ≤ 1000 ∧ ∀ (p a : Addr) (H' : Hp), PoolOk p a H' → Ex H H' → H p = none → Q (.ref p) H'
theorem sc_law_pool : FnScope ["script", "salt", "cell"] ["script"] (defScope s_law_pool) := ⟨rfl, rfl, rfl, by decide +kernel, rfl, by decide +kernel, by decide +kernel⟩
theorem ok_law_pool (D : Dfd K mg "_law_pool" s_law_pool ["script"]) (T : TxtL mg) : Has P w K mg base 1 "_law_pool" ["script"] (spPool K) := by
  refine D.has fun f fd F => F.ok sc_law_pool (fun vs H Q E h => ?_) (fun cdv A outer s H vs Q E hr h => ?_)
  · obtain ⟨c, _, rfl, _⟩ := h
    rfl
  · obtain ⟨sa, ns, rfl, hs, hn, q⟩ := h
    refine ⟨_, (pss_cons (ps_set (i := 1) sc_law_pool.nd rfl (.inl rfl) pe_int)
      (pss_cons (ps_for PassesOwn.never rfl (pi_list (pe_slice sl_list (pv 0) po_none (po_some pe_int))) (pg_name (i := 2) sc_law_pool.nd rfl (.inl rfl))
        (pss_one (ps_set (i := 1) sc_law_pool.nd rfl (.inl rfl) (pe_op op_mod (pe_callTy call_int1 (by rfl) T.int (by decide +kernel) (pa_cons (pe_op op_add (pe_op op_mul (pv 1) pe_int) (pv 2)) pa_nil)) pe_int))))
      (pss_one (ps_ret (pe_lst (pa_cons (pe_callTy call_list_of (by rfl) T.list (by decide +kernel) (pa_cons (pv 0) pa_nil)) (pa_cons pe_int (pa_cons pe_int (pa_cons pe_int (pa_cons (pv 1) pa_nil)))))))))), ?_⟩
    refine ⟨_, rfl, _, rfl, sa, _, rfl, hs, fun c nc => ⟨c, rfl, ⟨_, SqL.of upd_same⟩, for_list (K := K) (a := c) (xs := cutV (ns.map V.int) none (some 63)) (fun _ σ H' => H' = upd H c (.lst (cutV (ns.map V.int) none (some 63))) ∧ ∃ (x : Int) (z : Option V), σ = [some (.ref sa), some (.int x), z]) ⟨rfl, _, _, rfl⟩ ?_ ?_ ?_⟩⟩
    · rintro i σ H' _ ⟨rfl, _⟩
      exact SqL.of upd_same
    · rintro i x σ H' hi ⟨rfl, y, z, rfl⟩
      obtain ⟨m, rfl⟩ := int_of (cutV_mem hi)
      exact ⟨_, rfl, _, _, rfl, rfl, .inr ⟨by decide, by decide⟩, _, rfl, _, _, rfl, rfl, .inl ⟨_, rfl, _, _, rfl, rfl, (by show (0 : Int) < 1000003; decide), rfl, _, _, rfl⟩⟩
    · rintro σ H' ⟨rfl, y, z, rfl⟩
      have e1 : Ex H (upd H c (.lst (cutV (ns.map V.int) none (some 63)))) := Ex.new nc
      refine ⟨_, rfl, _, _, rfl, .inl (ex_l e1 hs), fun l nl => ⟨_, rfl, (by show 5 ≤ sizeLine; decide), fun p np => ?_⟩⟩
      have e2 := e1.trans (Ex.new (o := .lst (ns.map V.int)) nl)
      have npl : l ≠ p := ne_of_none upd_same np
      exact q p l _ ⟨ns, 0, 0, 0, y, upd_same, by rw [hid_ne npl, upd_ne npl]; exact upd_same, hn⟩ (e2.trans (Ex.new np)) (fresh_back e2 np)
end
end G
namespace G
open PySem PySem.Spec PyProof.Rows L2 Evl
def bitsOf (x m : Nat) : List Bool := (List.range m).map fun k => x.testBit k
theorem bitsOf_len (x m : Nat) : (bitsOf x m).length = m := by unfold bitsOf; rw [List.length_map, List.length_range]
theorem bitsOf_succ (x m : Nat) : bitsOf x (m + 1) = bitsOf x m ++ [x.testBit m] := by unfold bitsOf; rw [List.range_succ, List.map_append]; rfl
theorem bit_at (x i : Nat) : decide (V.int (((x / 2 ^ i : Nat) : Int) % 2) = V.int 1) = x.testBit i := by
  rw [Nat.testBit_eq_decide_div_mod_eq, Bool.eq_iff_iff, decide_eq_true_iff, decide_eq_true_iff, V.int.injEq]
  omega
theorem half_at (x i : Nat) : ((x / 2 ^ i : Nat) : Int) / 2 = ((x / 2 ^ (i + 1) : Nat) : Int) := by
  rw [Nat.pow_succ, ← Nat.div_div_eq_div_mul]
  omega
section
variable {P : Program} {w : World} {K : PySem.W.Frag} {mg : Str → Option Value} {base : Heap}
def spBits : Sp := fun vs H Q _ => ∃ (x m : Nat), vs = [.int x, .int m] ∧ m ≤ 1000 ∧ ∀ (t : Addr) (H' : Hp), H t = none → Ex H H' → H' t = some (.tup ((bitsOf x m).map V.bl)) → Q (.ref t) H'
theorem sc_law_bits : FnScope ["index", "many", "out", "k"] ["index", "many"] (defScope s_law_bits) := ⟨rfl, rfl, rfl, by decide +kernel, rfl, by decide +kernel, by decide +kernel⟩
theorem ok_law_bits (D : Dfd K mg "_law_bits" s_law_bits ["index", "many"]) (T : TxtS mg) : Has P w K mg base 1 "_law_bits" ["index", "many"] spBits := by
  refine D.has fun f fd F => F.ok sc_law_bits (fun vs H Q E h => ?_) (fun cdv A outer s H vs Q E hr h => ?_)
  · obtain ⟨c, _, rfl, _⟩ := h
    rfl
  · obtain ⟨x, m, rfl, hm, q⟩ := h
    refine ⟨_, (pss_cons (ps_set (i := 2) sc_law_bits.nd rfl (.inl rfl) (pe_lst pa_nil))
    (pss_cons (ps_for PassesOwn.never rfl (pi_range1 rfl T.range (pa_cons (pv 1) pa_nil)) (pg_name (i := 3) sc_law_bits.nd rfl (.inl rfl))
      (pss_cons (ps_expr (pe_bm PySem.F.plainAttrs_list PySem.F.slot_list_append PySem.F.type_list_append mt_append (pv 2) (pa_cons (pe_cmpR op_eq (pe_op op_mod (pe_callTy call_int1 (by rfl) T.int (by decide +kernel) (pa_cons (pv 0) pa_nil)) pe_int) pe_int (nomark _)) pa_nil)))
      (pss_one (ps_set (i := 0) sc_law_bits.nd rfl (.inl rfl) (pe_op op_fdiv (pv 0) pe_int)))))
    (pss_one (ps_ret (pe_callTy call_tuple_of (by rfl) T.tuple (by decide +kernel) (pa_cons (pv 2) pa_nil)))))), ?_⟩
    refine ⟨Nat.zero_le _, fun o no => ⟨_, rfl, _, rfl, by omega, by omega, for_range (n := ((m : Int)).toNat) (fun i σ H' => H' = upd H o (.lst ((bitsOf x i).map V.bl)) ∧ ∃ z : Option V, σ = [some (.int ((x / 2 ^ i : Nat) : Int)), some (.int m), some (.ref o), z]) ⟨rfl, _, by rw [Nat.pow_zero, Nat.div_one]; rfl⟩ ?_ ?_⟩⟩
    · rintro i σ H' hi ⟨rfl, z, rfl⟩
      refine ⟨_, rfl, .inl ⟨rfl, _, SqL.of upd_same⟩, _, rfl, .inl ⟨_, rfl, _, _, rfl, rfl, (by show (0 : Int) < 2; decide), rfl, o, _, _, rfl, rfl, upd_same, ?_, _, rfl, _, _, rfl, rfl, ⟨by decide, by decide⟩, ?_, some (.int (0 + (i : Int))), ?_⟩⟩
      · exact sz_lt (by rw [List.length_map, bitsOf_len]; omega)
      · rw [upd_upd, bit_at, bitsOf_succ, List.map_append]; rfl
      · rw [← half_at]; rfl
    · rintro σ H' ⟨rfl, z, rfl⟩
      refine ⟨_, rfl, _, _, rfl, .inl ⟨SqL.of upd_same, fun t nt => ?_⟩⟩
      have e1 : Ex H (upd H o (.lst ((bitsOf x ((m : Int)).toNat).map V.bl))) := Ex.new no
      exact q t _ (fresh_back e1 nt) (e1.trans (Ex.new nt)) upd_same
end
end G
namespace G
open PySem PySem.Spec PyProof.Rows L2 Evl
theorem pow7 : ∀ {m : Nat}, m ≤ 6 → ([.int 1, .int 2, .int 4, .int 8, .int 16, .int 32, .int 64] : List V)[m]? = some (.int ((2 ^ m : Nat) : Int))
  | 0, _ => rfl | 1, _ => rfl | 2, _ => rfl | 3, _ => rfl | 4, _ => rfl | 5, _ => rfl | 6, _ => rfl
  | n + 7, h => by omega
theorem pow6 : ∀ {m : Nat}, m ≤ 5 → ([.int 1, .int 2, .int 4, .int 8, .int 16, .int 32] : List V)[m]? = some (.int ((2 ^ m : Nat) : Int))
  | 0, _ => rfl | 1, _ => rfl | 2, _ => rfl | 3, _ => rfl | 4, _ => rfl | 5, _ => rfl
  | n + 6, h => by omega
theorem pow_le64 {m : Nat} (h : m ≤ 6) : 2 ^ m ≤ 64 := Nat.le_trans (Nat.pow_le_pow_right (by decide) h) (by decide)
theorem pow_pos2 (m : Nat) : 0 < 2 ^ m := Nat.pow_pos (by decide)
theorem divW_small {i : Int} {j : Nat} (h : 0 < j) (h9 : j ≤ 1000) : CDivW i (j : Int) := wide_div (b := 20) (by omega) (by
  rw [Int.natAbs_natCast]
  exact Nat.lt_of_le_of_lt h9 (by decide)) (by decide) (by decide)
section
variable {P : Program} {w : World} {K : PySem.W.Frag} {mg : Str → Option Value} {base : Heap}
/-- a table of m inputs -/
def spTable : Sp := fun vs H Q _ => ∃ (p a : Addr) (m : Nat), vs = [.ref p, .int m] ∧ m ≤ 6 ∧ PoolOk p a H ∧ ∀ (t : Addr) (bs : List Bool) (H' : Hp), bs.length = 2 ^ m → Px p a H H' → H t = none → H' t = some (.tup (bs.map V.bl)) → Q (.ref t) H'
theorem sc_law_table : FnScope ["pool", "many", "size", "kind", "value", "low", "place", "number", "bit", "k"] ["pool", "many"] (defScope s_law_table) := ⟨rfl, rfl, rfl, by decide +kernel, rfl, by decide +kernel, by decide +kernel⟩
theorem ok_law_table (D : Dfd K mg "_law_table" s_law_table ["pool", "many"]) (T : TxtS mg) (C : Has P w K mg base 2 "_law_draw" ["pool", "many"] spDrawX) (C2 : Has P w K mg base 1 "_law_bits" ["index", "many"] spBits) : Has P w K mg base 3 "_law_table" ["pool", "many"] spTable := by
  obtain ⟨f_law_draw, d_law_draw, G_law_draw, g_law_draw, k_law_draw, b_law_draw⟩ := C
  obtain ⟨f_law_bits, d_law_bits, G_law_bits, g_law_bits, k_law_bits, b_law_bits⟩ := C2
  refine D.has fun f fd F => F.ok sc_law_table (fun vs H Q E h => ?_) (fun cdv A outer s H vs Q E hr h => ?_)
  · obtain ⟨c, _, _, rfl, _⟩ := h
    rfl
  · obtain ⟨p, a, m, rfl, hm, hp, q⟩ := h
    have h64 := pow_le64 hm
    have hpos := pow_pos2 m
    refine ⟨_, (pss_cons (ps_set (i := 2) sc_law_table.nd rfl (.inl rfl) (pe_ix ix_list (pe_lst (pa_cons pe_int (pa_cons pe_int (pa_cons pe_int (pa_cons pe_int (pa_cons pe_int (pa_cons pe_int (pa_cons pe_int pa_nil)))))))) (pv 1) (fun _ _ => rfl)))
    (pss_cons (ps_set (i := 3) sc_law_table.nd rfl (.inl rfl) (pe_call G_law_draw hr (by rfl) g_law_draw k_law_draw b_law_draw .nil pass0 (pa_cons (pv 0) (pa_cons pe_int pa_nil))))
    (pss_cons (ps_if (pt_cmpR op_eq (pv 3) pe_int (nomark _))
      (pss_cons (ps_set (i := 4) sc_law_table.nd rfl (.inr rfl) (pe_cmpR op_eq (pe_call G_law_draw hr (by rfl) g_law_draw k_law_draw b_law_draw .nil pass0 (pa_cons (pv 0) (pa_cons pe_int pa_nil))) pe_int (nomark _)))
      (pss_one (ps_ret (pe_callTy call_tuple_of (by rfl) T.tuple (by decide +kernel) (pa_cons (pe_lc (own := [("k", 9)]) (g := gName 9) (tt := tYes) rfl sc_law_table.nd (pi_range1 rfl T.range (pa_cons (pv 2) pa_nil)) (blkOk_by (N := ["pool", "many", "size", "kind", "value", "low", "place", "number", "bit", "k"]) (sc := defScope s_law_table) (own := [("k", 9)]) (by decide +kernel)) (fun _ _ _ _ _ => (pg_name (i := 9) sc_law_table.nd rfl (.inl rfl))) (fun _ _ _ _ _ => pts_nil) (fun _ _ _ _ _ => (pv 4))) pa_nil)))))
      pss_nil)
    (pss_cut (ps_if (PW.pt (pw_and (pt_cmpR op_eq (pv 3) pe_int (nomark _)) (pw_and1 (pt_cmpR op_gt (pv 1) pe_int (nomark _)))))
      (pss_cons (ps_set (i := 5) sc_law_table.nd rfl (.inr rfl) (pe_ix ix_list (pe_lst (pa_cons pe_int (pa_cons pe_int (pa_cons pe_int (pa_cons pe_int (pa_cons pe_int (pa_cons pe_int pa_nil))))))) (pe_call G_law_draw hr (by rfl) g_law_draw k_law_draw b_law_draw .nil pass0 (pa_cons (pv 0) (pa_cons (pv 1) pa_nil))) (fun _ _ => rfl)))
      (pss_one (ps_ret (pe_callTy call_tuple_of (by rfl) T.tuple (by decide +kernel) (pa_cons (pe_lc (own := [("k", 9)]) (g := gName 9) (tt := tYes) rfl sc_law_table.nd (pi_range1 rfl T.range (pa_cons (pv 2) pa_nil)) (blkOk_by (N := ["pool", "many", "size", "kind", "value", "low", "place", "number", "bit", "k"]) (sc := defScope s_law_table) (own := [("k", 9)]) (by decide +kernel)) (fun _ _ _ _ _ => (pg_name (i := 9) sc_law_table.nd rfl (.inl rfl))) (fun _ _ _ _ _ => pts_nil) (fun _ _ _ _ _ => (pe_cmpR op_eq (pe_op op_mod (pe_callTy call_int1 (by rfl) T.int (by decide +kernel) (pa_cons (pe_op op_fdivW (pv 9) (pv 5)) pa_nil)) pe_int) pe_int (nomark _)))) pa_nil)))))
      pss_nil)
    (pss_cons (ps_if (pt_cmpR op_eq (pv 3) pe_int (nomark _))
      (pss_cons (ps_set (i := 6) sc_law_table.nd rfl (.inr rfl) (pe_call G_law_draw hr (by rfl) g_law_draw k_law_draw b_law_draw .nil pass0 (pa_cons (pv 0) (pa_cons (pv 2) pa_nil))))
      (pss_one (ps_ret (pe_callTy call_tuple_of (by rfl) T.tuple (by decide +kernel) (pa_cons (pe_lc (own := [("k", 9)]) (g := gName 9) (tt := tYes) rfl sc_law_table.nd (pi_range1 rfl T.range (pa_cons (pv 2) pa_nil)) (blkOk_by (N := ["pool", "many", "size", "kind", "value", "low", "place", "number", "bit", "k"]) (sc := defScope s_law_table) (own := [("k", 9)]) (by decide +kernel)) (fun _ _ _ _ _ => (pg_name (i := 9) sc_law_table.nd rfl (.inl rfl))) (fun _ _ _ _ _ => pts_nil) (fun _ _ _ _ _ => (pe_cmpR op_eq (pv 9) (pv 6) (nomark _)))) pa_nil)))))
      pss_nil)
    (pss_cons (ps_set (i := 7) sc_law_table.nd rfl (.inl rfl) (pe_call G_law_draw hr (by rfl) g_law_draw k_law_draw b_law_draw .nil pass0 (pa_cons (pv 0) (pa_cons (pe_op op_pow pe_int pe_int) pa_nil))))
    (pss_one (ps_ret (pe_callTy call_tuple_of (by rfl) T.tuple (by decide +kernel) (pa_cons (pe_lc (own := [("bit", 8)]) (g := gName 8) (tt := tYes) rfl sc_law_table.nd (pi_tup (pe_call G_law_bits (hr.mono (by decide)) (by rfl) g_law_bits k_law_bits b_law_bits .nil pass0 (pa_cons (pv 7) (pa_cons (pv 2) pa_nil)))) (blkOk_by (N := ["pool", "many", "size", "kind", "value", "low", "place", "number", "bit", "k"]) (sc := defScope s_law_table) (own := [("bit", 8)]) (by decide +kernel)) (fun _ _ _ _ _ => (pg_name (i := 8) sc_law_table.nd rfl (.inl rfl))) (fun _ _ _ _ _ => pts_nil) (fun _ _ _ _ _ => (pv 8))) pa_nil)))))))))), ?_⟩
    refine ⟨(by show 7 ≤ sizeLine; decide), fun l nl => ⟨_, rfl, _, _, _, _, rfl, rfl, SqL.of upd_same, atI_nat (pow7 hm), ?_⟩⟩
    have X1 : Px p a H (upd H l (.lst [.int 1, .int 2, .int 4, .int 8, .int 16, .int 32, .int 64])) := (Px.refl hp).new nl
    refine ⟨_, rfl, p, a, 6, rfl, by decide, by decide, X1.pool, fun kind H2 hk X2 _ => ?_⟩
    have Y2 := X1.trans X2
    refine ⟨_, rfl, rfl, _, rfl, ite2 (fun e => ?_) (fun e => ?_)⟩
    · refine ⟨_, rfl, p, a, 2, rfl, by decide, by decide, Y2.pool, fun v H3 hv X3 _ => ⟨rfl, ?_⟩⟩
      have Y3 := Y2.trans X3
      refine ⟨_, rfl, _, rfl, by omega, by omega, fun L nL => lcRv (fun _ => .bl (decide (V.int v = V.int 1))) (by omega) (fun _ => rfl) (fun i H4 _ _ Q q => ⟨_, rfl, q⟩) ⟨_, _, rfl, .inl ⟨SqL.of upd_same, fun t nt => ?_⟩⟩⟩
      exact q t ((List.range ((2 ^ m : Nat) : Int).toNat).map fun _ => decide (V.int v = V.int 1)) _ (by rw [List.length_map, List.length_range]; omega) ((Y3.new nL).new nt) ((Y3.new nL).free nt) (by rw [upd_same, List.map_map]; rfl)
    · refine ⟨fun σ H' => σ = [some (.ref p), some (.int m), some (.int ((2 ^ m : Nat) : Int)), some (.int kind), none, none, none, none, none, none] ∧ H' = H2, ?_, ?_⟩
      · refine ⟨_, rfl, rfl, _, rfl, ite2 (fun e1 => ?_) (fun e1 => iteF ⟨rfl, rfl⟩)⟩
        refine ⟨_, rfl, _, _, rfl, rfl, _, rfl, ite2 (fun e2 => ?_) (fun e2 => ⟨rfl, rfl⟩)⟩
        have hm0 : 0 < m := by have := of_decide_eq_true e2; omega
        refine ⟨(by show 6 ≤ sizeLine; decide), fun l2 nl2 => ⟨_, rfl, _, rfl, p, a, m, rfl, by omega, by omega, (Y2.new nl2).pool, fun v H3 hv X3 hk3 => ?_⟩⟩
        have Y3 := (Y2.new nl2).trans X3
        have h2 : H3 l2 = some (.lst [.int 1, .int 2, .int 4, .int 8, .int 16, .int 32]) := by rw [hk3 _ (Y2.pool.ne nl2)]; exact upd_same
        refine ⟨_, _, _, _, rfl, rfl, SqL.of h2, atI_nat (pow6 (by omega)), ?_⟩
        refine ⟨_, rfl, _, rfl, by omega, by omega, fun L nL => lcRv (fun (i : Nat) => .bl (decide (V.int ((0 + (i : Int)) / ((2 ^ v : Nat) : Int) % 2) = V.int 1))) (by omega) (fun _ => rfl) (fun i H4 _ _ Q q => ⟨_, rfl, _, rfl, _, _, rfl, rfl, divW_small (pow_pos2 v) (Nat.le_trans (pow_le64 (by omega)) (by decide)), .inl ⟨_, rfl, _, _, rfl, rfl, (by show (0 : Int) < 2; decide), rfl, q⟩⟩) ⟨_, _, rfl, .inl ⟨SqL.of upd_same, fun t nt => ?_⟩⟩⟩
        exact q t ((List.range ((2 ^ m : Nat) : Int).toNat).map fun (i : Nat) => decide (V.int ((0 + (i : Int)) / ((2 ^ v : Nat) : Int) % 2) = V.int 1)) _ (by rw [List.length_map, List.length_range]; omega) ((Y3.new nL).new nt) ((Y3.new nL).free nt) (by rw [upd_same, List.map_map]; rfl)
      · rintro σ H' ⟨rfl, rfl⟩
        refine ⟨_, rfl, rfl, _, rfl, ite2 (fun e1 => ?_) (fun e1 => ?_)⟩
        · refine ⟨_, rfl, _, rfl, p, a, ((2 ^ m : Nat) : Int), rfl, by omega, by omega, Y2.pool, fun v H3 hv X3 _ => ?_⟩
          have Y3 := Y2.trans X3
          refine ⟨_, rfl, _, rfl, by omega, by omega, fun L nL => lcRv (fun (i : Nat) => .bl (decide (V.int (0 + (i : Int)) = V.int v))) (by omega) (fun _ => rfl) (fun i H4 _ _ Q q => ⟨_, rfl, _, rfl, rfl, q⟩) ⟨_, _, rfl, .inl ⟨SqL.of upd_same, fun t nt => ?_⟩⟩⟩
          exact q t ((List.range ((2 ^ m : Nat) : Int).toNat).map fun (i : Nat) => decide (V.int (0 + (i : Int)) = V.int v)) _ (by rw [List.length_map, List.length_range]; omega) ((Y3.new nL).new nt) ((Y3.new nL).free nt) (by rw [upd_same, List.map_map]; rfl)
        · refine ⟨_, rfl, _, _, rfl, rfl, ⟨by decide, by decide, by decide⟩, p, a, _, rfl, by decide, by decide, Y2.pool, fun v H3 hv X3 _ => ?_⟩
          have Y3 := Y2.trans X3
          refine ⟨_, rfl, _, rfl, v, 2 ^ m, rfl, by omega, fun t1 H4 n1 E1 h1 => ⟨t1, rfl, ⟨_, SqT.of h1⟩, fun L nL => lcTm (xs := (bitsOf v (2 ^ m)).map V.bl) id (SqT.of h1) nL (by rw [List.length_map, bitsOf_len]; omega) (fun _ => rfl) (fun i x H4 _ _ Q q => ⟨_, rfl, q⟩) ⟨_, _, rfl, .inl ⟨SqL.of upd_same, fun t nt => ?_⟩⟩⟩⟩
          have Y4 := Y3.more E1
          exact q t (bitsOf v (2 ^ m)) _ (bitsOf_len _ _) ((Y4.new nL).new nt) ((Y4.new nL).free nt) (by rw [upd_same, List.map_id])
end
end G
namespace G
open PySem PySem.Spec PyProof.Rows L2 Evl
/-! ## tuples never change -/
def TEx (H H' : Hp) : Prop := ∀ (b : Addr) (xs : List V), H b = some (.tup xs) → H' b = some (.tup xs)
theorem TEx.refl (H : Hp) : TEx H H := fun _ _ h => h
theorem TEx.trans {H H1 H2 : Hp} (a : TEx H H1) (b : TEx H1 H2) : TEx H H2 := fun c xs h => b c xs (a c xs h)
theorem TEx.of {H H' : Hp} (e : Ex H H') : TEx H H' := fun b xs h => e b _ h
theorem TEx.px {p a : Addr} {H H' : Hp} (x : Px p a H H') : TEx H H' := fun b xs h => by
  obtain ⟨_, _, _, _, _, e, _⟩ := x.was
  exact x.at_ (b := b) (o := .tup xs) (by rw [hid_ne (ne_of h e (by intro z; cases z))]; exact h)
theorem TEx.new {H : Hp} {b : Addr} {o : HO} (n : H b = none) : TEx H (upd H b o) := .of (Ex.new n)
theorem TEx.mut {H : Hp} {b : Addr} {l : List V} {o : HO} (h : H b = some (.lst l)) : TEx H (upd H b o) := fun c xs hc => by
  rw [upd_ne (ne_of hc h (by intro z; cases z))]; exact hc
/-! ## circuits -/
structure GateD where
  name : Str
  tab : List Bool
  pins : List Str
  rng : List (Int × Int)
structure RegD where
  name : Str
  net : Str
  edge : Int × Int
  out : Int × Int
  setup : Int
  hold : Int
  start : Bool
structure CircD where
  ins : List Str
  gates : List GateD
  regs : List RegD
  outs : List (Str × Str)
def IntsAt (H : Hp) (a : Addr) (p : Int × Int) : Prop := H a = some (.tup [.int p.1, .int p.2])
def GateAt (H : Hp) (a : Addr) (g : GateD) : Prop := ∃ (t pt rt : Addr) (ra : List Addr), H a = some (.tup [.str g.name, .ref t, .ref pt, .ref rt]) ∧ H t = some (.tup (g.tab.map V.bl)) ∧ H pt = some (.tup (g.pins.map V.str)) ∧ H rt = some (.tup (ra.map V.ref)) ∧ All2 (IntsAt H) ra g.rng
def RegAt (H : Hp) (a : Addr) (r : RegD) : Prop := ∃ ea oa : Addr, H a = some (.tup [.str r.name, .str r.net, .ref ea, .ref oa, .int r.setup, .int r.hold, .bl r.start]) ∧ IntsAt H ea r.edge ∧ IntsAt H oa r.out
def OutAt (H : Hp) (a : Addr) (o : Str × Str) : Prop := H a = some (.tup [.str o.1, .str o.2])
structure CircAt (H : Hp) (c : Addr) (d : CircD) (it gt rt ot : Addr) (ga ra oa : List Addr) : Prop where
  top : H c = some (.tup [.ref it, .ref gt, .ref rt, .ref ot])
  ins : H it = some (.tup (d.ins.map V.str))
  gts : H gt = some (.tup (ga.map V.ref))
  rgs : H rt = some (.tup (ra.map V.ref))
  ots : H ot = some (.tup (oa.map V.ref))
  gates : All2 (GateAt H) ga d.gates
  regs : All2 (RegAt H) ra d.regs
  outs : All2 (OutAt H) oa d.outs
section
variable {H H' : Hp} {a c it gt rt ot : Addr} {g : GateD} {r : RegD} {d : CircD} {ga ra oa : List Addr}
theorem IntsAt.te {p : Int × Int} (e : TEx H H') (h : IntsAt H a p) : IntsAt H' a p := e _ _ h
theorem GateAt.te (e : TEx H H') (h : GateAt H a g) : GateAt H' a g := by
  obtain ⟨t, pt, rt, ra, h1, h2, h3, h4, h5⟩ := h
  exact ⟨t, pt, rt, ra, e _ _ h1, e _ _ h2, e _ _ h3, e _ _ h4, h5.imp fun _ _ z => z.te e⟩
theorem RegAt.te (e : TEx H H') (h : RegAt H a r) : RegAt H' a r := by
  obtain ⟨ea, oa, h1, h2, h3⟩ := h
  exact ⟨ea, oa, e _ _ h1, h2.te e, h3.te e⟩
theorem CircAt.te (e : TEx H H') (h : CircAt H c d it gt rt ot ga ra oa) : CircAt H' c d it gt rt ot ga ra oa :=
  ⟨e _ _ h.top, e _ _ h.ins, e _ _ h.gts, e _ _ h.rgs, e _ _ h.ots, h.gates.imp fun _ _ z => z.te e, h.regs.imp fun _ _ z => z.te e, h.outs.imp fun _ _ z => e _ _ z⟩
end
/-! ### the names that are given -/
def nm (c : Str) (k : Nat) : Str := c ++ Str.ofString (toString ((k : Nat) : Int))
structure RegWf (r : RegD) : Prop where
  e0 : 0 ≤ r.edge.1 ∧ r.edge.1 ≤ 2
  e1 : r.edge.1 ≤ r.edge.2 ∧ r.edge.2 ≤ r.edge.1 + 2
  o0 : 0 ≤ r.out.1 ∧ r.out.1 ≤ 3
  o1 : r.out.1 + 1 ≤ r.out.2 ∧ r.out.2 ≤ r.out.1 + 4
  su : 0 ≤ r.setup ∧ r.setup ≤ 3
  ho : 0 ≤ r.hold ∧ r.hold < r.out.2
structure GateWf (ns : List Str) (k : Nat) (g : GateD) : Prop where
  name : g.name = nm "g" k
  few : g.pins.length ≤ 3
  pins : ∀ x ∈ g.pins, x ∈ ns
  tab : g.tab.length = 2 ^ g.pins.length
  many : g.rng.length = g.pins.length
  rng : ∀ r ∈ g.rng, 0 ≤ r.1 ∧ r.1 ≤ 4 ∧ r.1 + 2 ≤ r.2 ∧ r.2 ≤ r.1 + 6
/-- the gates in the order of their making: each reads what stood before it -/
structure CircWf (most : Nat) (d : CircD) (G : List GateD) : Prop where
  ins : ∃ n, 1 ≤ n ∧ n ≤ 3 ∧ d.ins = (List.range n).map (nm "i")
  regs : ∃ n, n ≤ 3 ∧ d.regs.map (·.name) = (List.range n).map (nm "r")
  few : G.length ≤ most
  gates : ∀ k g, G[k]? = some g → GateWf (d.ins ++ d.regs.map (·.name) ++ (List.range k).map (nm "g")) k g
  perm : d.gates.Perm G
  rwf : ∀ r ∈ d.regs, RegWf r ∧ r.net ∈ d.ins ++ d.regs.map (·.name) ++ (List.range G.length).map (nm "g")
  outs : ∃ n, n ≤ 3 ∧ d.outs.map (·.1) = (List.range n).map (nm "p")
  onet : ∀ o ∈ d.outs, o.2 ∈ d.ins ++ d.regs.map (·.name) ++ (List.range G.length).map (nm "g")
section
variable {P : Program} {w : World} {K : PySem.W.Frag} {mg : Str → Option Value} {base : Heap}
def spReg : Sp := fun vs H Q _ => ∃ (p a : Addr) (n net : Str), vs = [.ref p, .str n, .str net] ∧ PoolOk p a H ∧ ∀ (x : Addr) (r : RegD) (H' : Hp), Px p a H H' → H x = none → RegAt H' x r → r.name = n → r.net = net → RegWf r → Q (.ref x) H'
theorem sc_law_register : FnScope ["pool", "name", "net", "edge", "out", "high", "wide"] ["pool", "name", "net"] (defScope s_law_register) := ⟨rfl, rfl, rfl, by decide +kernel, rfl, by decide +kernel, by decide +kernel⟩
theorem ok_law_register (D : Dfd K mg "_law_register" s_law_register ["pool", "name", "net"]) (C : Has P w K mg base 2 "_law_draw" ["pool", "many"] spDrawX) : Has P w K mg base 3 "_law_register" ["pool", "name", "net"] spReg := by
  obtain ⟨f_law_draw, d_law_draw, G_law_draw, g_law_draw, k_law_draw, b_law_draw⟩ := C
  refine D.has fun f fd F => F.ok sc_law_register (fun vs H Q E h => ?_) (fun cdv A outer s H vs Q E hr h => ?_)
  · obtain ⟨p, a, n, net, rfl, _⟩ := h
    rfl
  · obtain ⟨p, a, n, net, rfl, hp, q⟩ := h
    refine ⟨_, (pss_cons (ps_set (i := 3) sc_law_register.nd rfl (.inl rfl) (pe_call G_law_draw (hr.mono (by omega)) (by rfl) g_law_draw k_law_draw b_law_draw .nil pass0 (pa_cons (pv 0) (pa_cons pe_int pa_nil))))
    (pss_cons (ps_set (i := 4) sc_law_register.nd rfl (.inl rfl) (pe_call G_law_draw (hr.mono (by omega)) (by rfl) g_law_draw k_law_draw b_law_draw .nil pass0 (pa_cons (pv 0) (pa_cons pe_int pa_nil))))
    (pss_cons (ps_set (i := 5) sc_law_register.nd rfl (.inl rfl) (pe_op op_add (pe_op op_add (pv 4) pe_int) (pe_call G_law_draw (hr.mono (by omega)) (by rfl) g_law_draw k_law_draw b_law_draw .nil pass0 (pa_cons (pv 0) (pa_cons pe_int pa_nil)))))
    (pss_cons (ps_set (i := 6) sc_law_register.nd rfl (.inl rfl) (pe_op op_add (pv 3) (pe_call G_law_draw (hr.mono (by omega)) (by rfl) g_law_draw k_law_draw b_law_draw .nil pass0 (pa_cons (pv 0) (pa_cons pe_int pa_nil)))))
    (pss_one (ps_ret (pe_tup (pa_cons (pv 1) (pa_cons (pv 2) (pa_cons (pe_tup (pa_cons (pv 3) (pa_cons (pv 6) pa_nil))) (pa_cons (pe_tup (pa_cons (pv 4) (pa_cons (pv 5) pa_nil))) (pa_cons (pe_call G_law_draw (hr.mono (by omega)) (by rfl) g_law_draw k_law_draw b_law_draw .nil pass0 (pa_cons (pv 0) (pa_cons pe_int pa_nil))) (pa_cons (pe_call G_law_draw (hr.mono (by omega)) (by rfl) g_law_draw k_law_draw b_law_draw .nil pass0 (pa_cons (pv 0) (pa_cons (pv 5) pa_nil))) (pa_cons (pe_cmpR op_eq (pe_call G_law_draw (hr.mono (by omega)) (by rfl) g_law_draw k_law_draw b_law_draw .nil pass0 (pa_cons (pv 0) (pa_cons pe_int pa_nil))) pe_int (nomark _)) pa_nil)))))))))))))), ?_⟩
    refine ⟨_, rfl, p, a, 3, rfl, by decide, by decide, hp, fun v1 H1 h1 X1 _ => ?_⟩
    refine ⟨_, rfl, p, a, 4, rfl, by decide, by decide, X1.pool, fun v2 H2 h2 X2 _ => ?_⟩
    refine ⟨_, rfl, _, _, rfl, rfl, _, rfl, p, a, 4, rfl, by decide, by decide, X2.pool, fun v3 H3 h3 X3 _ => ⟨_, _, rfl, rfl, ?_⟩⟩
    refine ⟨_, rfl, _, rfl, p, a, 3, rfl, by decide, by decide, X3.pool, fun v4 H4 h4 X4 _ => ⟨_, _, rfl, rfl, ?_⟩⟩
    have Y4 := X1.trans (X2.trans (X3.trans X4))
    refine ⟨_, rfl, _, rfl, _, rfl, _, rfl, (by show 2 ≤ sizeLine; decide), fun e1 n1 => ⟨_, rfl, _, rfl, (by show 2 ≤ sizeLine; decide), fun e2 n2 => ?_⟩⟩
    have Y5 := (Y4.new (o := .tup [.int v1, .int ((v1 : Int) + v4)]) n1).new (o := .tup [.int v2, .int ((v2 : Int) + 1 + v3)]) n2
    have t1 : upd (upd H4 e1 (.tup [.int v1, .int ((v1 : Int) + v4)])) e2 (.tup [.int v2, .int ((v2 : Int) + 1 + v3)]) e1 = some (.tup [.int v1, .int ((v1 : Int) + v4)]) := by rw [upd_ne (ne_of_none upd_same n2)]; exact upd_same
    have t2 : upd (upd H4 e1 (.tup [.int v1, .int ((v1 : Int) + v4)])) e2 (.tup [.int v2, .int ((v2 : Int) + 1 + v3)]) e2 = some (.tup [.int v2, .int ((v2 : Int) + 1 + v3)]) := upd_same
    generalize upd (upd H4 e1 (.tup [.int v1, .int ((v1 : Int) + v4)])) e2 (.tup [.int v2, .int ((v2 : Int) + 1 + v3)]) = H5 at *
    refine ⟨_, rfl, p, a, 4, rfl, by decide, by decide, Y5.pool, fun v5 H6 h5 X6 _ => ?_⟩
    refine ⟨_, rfl, _, rfl, p, a, (v2 : Int) + 1 + v3, rfl, by omega, by omega, X6.pool, fun v6 H7 h6 X7 _ => ?_⟩
    refine ⟨_, rfl, p, a, 2, rfl, by decide, by decide, X7.pool, fun v7 H8 h7 X8 _ => ⟨rfl, (by show 7 ≤ sizeLine; decide), fun x nx => ?_⟩⟩
    have Y8 := X6.trans (X7.trans X8)
    have T8 := (TEx.px Y8).trans (TEx.new (o := .tup [.str n, .str net, .ref e1, .ref e2, .int v5, .int v6, .bl (decide (V.int v7 = V.int 1))]) nx)
    exact q x ⟨n, net, (v1, (v1 : Int) + v4), (v2, (v2 : Int) + 1 + v3), v5, v6, decide (V.int v7 = V.int 1)⟩ _ ((Y5.trans Y8).new nx) ((Y5.trans Y8).free nx) ⟨e1, e2, upd_same, T8 _ _ t1, T8 _ _ t2⟩ rfl rfl
      ⟨by constructor <;> simp <;> omega, by constructor <;> simp <;> omega, by constructor <;> simp <;> omega, by constructor <;> simp <;> omega, by constructor <;> simp <;> omega, by constructor <;> simp <;> omega⟩
theorem nm_small : ∀ c ∈ (["i", "r", "g", "p"] : List Str), ∀ k, k < 20 → c.length + (Str.ofString (toString ((k : Nat) : Int))).length ≤ 1000 ∧ ((k : Nat) : Int).natAbs.log2 < 1920 := by decide +kernel
/-- 'x' + str(k), read -/
theorem nm_read {c : Str} {k : Nat} (hc : c ∈ (["i", "r", "g", "p"] : List Str)) (hk : k < 20) : ((k : Nat) : Int).natAbs.log2 < 1920 ∧ c.length + (Str.ofString (toString ((k : Nat) : Int))).length ≤ sizeLine :=
  ⟨(nm_small c hc k hk).2, sz_of (Nat.le_trans (nm_small c hc k hk).1 (by decide))⟩
theorem keep1 {p M x : Addr} {H : Hp} {o o' : HO} (e : hid p H x = some o) (hx : x ≠ M) (hM : M ≠ p) : hid p (upd H M o') x = some o := by
  rw [hid_upd_ne hM, upd_ne hx]; exact e
theorem hid_new {p M : Addr} {H : Hp} {o : HO} (hM : M ≠ p) : hid p (upd H M o) M = some o := by
  rw [hid_ne hM]; exact upd_same
theorem erase_perm {α : Type} : ∀ (l : List α) (v : Nat) (h : v < l.length), (l[v] :: l.eraseIdx v).Perm l
  | [], v, h => absurd h (Nat.not_lt_zero _)
  | a :: r, 0, _ => .refl _
  | a :: r, v + 1, h => by
    have h' : v < r.length := Nat.lt_of_succ_lt_succ h
    have ih := erase_perm r v h'
    show (r[v] :: a :: r.eraseIdx v).Perm (a :: r)
    exact (List.Perm.swap ..).trans (ih.cons a)
def spShuf : Sp := fun vs H Q _ => ∃ (p a l : Addr) (xs : List V), vs = [.ref p, .ref l] ∧ PoolOk p a H ∧ hid p H l = some (.lst xs) ∧ xs.length ≤ 200 ∧ ∀ (o : Addr) (ys : List V) (H' : Hp), Px p a H H' → H o = none → H' o = some (.lst ys) → ys.Perm xs → Q (.ref o) H'
theorem sc_law_shuffled : FnScope ["pool", "rows", "left", "out", "k"] ["pool", "rows"] (defScope s_law_shuffled) := ⟨rfl, rfl, rfl, by decide +kernel, rfl, by decide +kernel, by decide +kernel⟩
theorem ok_law_shuffled (D : Dfd K mg "_law_shuffled" s_law_shuffled ["pool", "rows"]) (T : TxtS mg) (C : Has P w K mg base 2 "_law_draw" ["pool", "many"] spDrawX) : Has P w K mg base 3 "_law_shuffled" ["pool", "rows"] spShuf := by
  obtain ⟨f_law_draw, d_law_draw, G_law_draw, g_law_draw, k_law_draw, b_law_draw⟩ := C
  refine D.has fun f fd F => F.ok sc_law_shuffled (fun vs H Q E h => ?_) (fun cdv A outer s H vs Q E hr h => ?_)
  · obtain ⟨p, a, l, xs, rfl, _⟩ := h
    rfl
  · obtain ⟨p, a, l, xs, rfl, hp, hl, hn, q⟩ := h
    refine ⟨_, (pss_cons (ps_set (i := 2) sc_law_shuffled.nd rfl (.inl rfl) (pe_callTy call_list_of (by rfl) T.list (by decide +kernel) (pa_cons (pv 1) pa_nil)))
    (pss_cons (ps_set (i := 3) sc_law_shuffled.nd rfl (.inl rfl) (pe_lst pa_nil))
    (pss_cons (ps_for PassesOwn.never rfl (pi_range1 rfl T.range (pa_cons (pe_callB call_len_seq (by rfl) T.len (by decide +kernel) (pa_cons (pv 1) pa_nil)) pa_nil)) (pg_name (i := 4) sc_law_shuffled.nd rfl (.inl rfl))
      (pss_one (ps_expr (pe_bm PySem.F.plainAttrs_list PySem.F.slot_list_append PySem.F.type_list_append mt_append (pv 3) (pa_cons (pe_bm PySem.F.plainAttrs_list PySem.F.slot_list_pop PySem.F.type_list_pop mt_popAt (pv 2) (pa_cons (pe_call G_law_draw (hr.mono (by omega)) (by rfl) g_law_draw k_law_draw b_law_draw .nil pass0 (pa_cons (pv 0) (pa_cons (pe_callB call_len_seq (by rfl) T.len (by decide +kernel) (pa_cons (pv 2) pa_nil)) pa_nil))) pa_nil)) pa_nil)))))
    (pss_one (ps_ret (pv 3)))))), ?_⟩
    refine ⟨_, rfl, _, _, rfl, .inl (SqL.of (hid_get hl)), fun lf nlf => ⟨Nat.zero_le _, fun o no => ?_⟩⟩
    have X0 := ((Px.refl hp).new (o := .lst xs) nlf).new (o := .lst []) no
    have plf := hp.ne nlf
    have nlo : lf ≠ o := ne_of_none upd_same no
    have nHo : H o = none := by
      have z := no
      rw [upd_ne nlo.symm] at z; exact z
    have po := hp.ne nHo
    have h1 : hid p (upd (upd H lf (.lst xs)) o (.lst [])) lf = some (.lst xs) := keep1 (hid_new plf) nlo po
    have h2 : hid p (upd (upd H lf (.lst xs)) o (.lst [])) o = some (.lst []) := hid_new po
    generalize upd (upd H lf (.lst xs)) o (.lst []) = H0 at *
    refine ⟨_, rfl, _, _, rfl, .inl (SqL.of (X0.at_ hl)), _, rfl, by omega, by omega, for_range (n := ((xs.length : Nat) : Int).toNat)
      (fun i σ H' => Px p a H H' ∧ ∃ (ls os : List V) (z : Option V), hid p H' lf = some (.lst ls) ∧ hid p H' o = some (.lst os) ∧ (os ++ ls).Perm xs ∧ os.length = i ∧ σ = [some (.ref p), some (.ref l), some (.ref lf), some (.ref o), z])
      ⟨X0, xs, [], _, h1, h2, .refl _, rfl, rfl⟩ ?_ ?_⟩
    · rintro i σ H1 hi ⟨X1, ls, os, z, hls, hos, hperm, hoi, rfl⟩
      rw [Int.toNat_natCast] at hi
      have hlen := hperm.length_eq
      rw [List.length_append] at hlen
      have hpos : 0 < ls.length := by omega
      refine ⟨_, rfl, .inl ⟨rfl, _, SqL.of (hid_get hos)⟩, _, rfl, .inl ⟨rfl, _, SqL.of (hid_get hls)⟩, _, rfl, _, rfl, _, _, rfl, .inl (SqL.of (hid_get hls)), p, a, ls.length, rfl, by omega, by omega, X1.pool, fun v H2 hv X2 _ => ?_⟩
      have hv' : v < ls.length := by omega
      have hls2 := X2.get hls
      have hos2 := X2.get hos
      refine ⟨lf, ls, (v : Int), v, ls[v], rfl, rfl, hid_get hls2, by omega, by omega, ?_, List.getElem?_eq_getElem hv', ?_⟩
      · have := PyProof.Rows.seqIndex_at (i := (v : Int)) (n := ls.length) (by omega) (by omega)
        rw [Int.toNat_natCast] at this
        exact this
      · have hos3 : hid p (upd H2 lf (.lst (ls.eraseIdx v))) o = some (.lst os) := keep1 hos2 nlo.symm plf
        have X3 := (X1.trans X2).mut (o := .lst (ls.eraseIdx v)) nlf
        have hls3 : hid p (upd H2 lf (.lst (ls.eraseIdx v))) lf = some (.lst (ls.eraseIdx v)) := hid_new plf
        generalize upd H2 lf (.lst (ls.eraseIdx v)) = H3 at *
        refine ⟨o, os, ls[v], rfl, rfl, hid_get hos3, sz_lt (by omega), X3.mut nHo, ls.eraseIdx v, os ++ [ls[v]], _, keep1 hls3 nlo po, hid_new po, ?_, by rw [List.length_append, hoi]; rfl, rfl⟩
        refine List.Perm.trans ?_ hperm
        rw [List.append_assoc]
        exact List.Perm.append_left _ (erase_perm ls v hv')
    · rintro σ H1 ⟨X1, ls, os, z, hls, hos, hperm, hoi, rfl⟩
      rw [Int.toNat_natCast] at hoi
      have hlen := hperm.length_eq
      rw [List.length_append] at hlen
      have : ls = [] := List.length_eq_zero_iff.mp (by omega)
      rw [this, List.append_nil] at hperm
      exact ⟨_, rfl, q o os H1 X1 nHo (hid_get hos) hperm⟩
theorem nmi_str : ("i" : Str) ∈ (["i", "r", "g", "p"] : List Str) := by decide
theorem nmr_str : ("r" : Str) ∈ (["i", "r", "g", "p"] : List Str) := by decide
theorem nmg_str : ("g" : Str) ∈ (["i", "r", "g", "p"] : List Str) := by decide
theorem nmp_str : ("p" : Str) ∈ (["i", "r", "g", "p"] : List Str) := by decide
theorem strV_at {us : List Str} {i : Nat} (h : i < us.length) : (us.map V.str)[i]? = some (.str us[i]) := by rw [List.getElem?_map, List.getElem?_eq_getElem h]; rfl
theorem nms_snoc (c : Str) (k : Nat) : (List.range (k + 1)).map (nm c) = (List.range k).map (nm c) ++ [nm c k] := by rw [List.range_succ, List.map_append]; rfl
theorem All2.te {R : Hp → Addr → β → Prop} {as : List Addr} {bs : List β} {H H' : Hp} (f : ∀ a b, R H a b → R H' a b) (h : All2 (R H) as bs) : All2 (R H') as bs := h.imp f
/-- what a permutation of references refers to -/
theorem perm_refs {R : Addr → GateD → Prop} {as : List Addr} {G : List GateD} (h : All2 R as G) {vs : List V} (p : vs.Perm (as.map V.ref)) : ∃ (bs : List Addr) (F : List GateD), vs = bs.map V.ref ∧ All2 R bs F ∧ F.Perm G := by
  have z : ∀ {xs ys : List V}, xs.Perm ys → ∀ (as : List Addr) (G : List GateD), ys = as.map V.ref → All2 R as G → ∃ (bs : List Addr) (F : List GateD), xs = bs.map V.ref ∧ All2 R bs F ∧ F.Perm G := by
    intro xs ys pp
    induction pp with
    | nil =>
      intro as G e h
      have : as = [] := by
        cases as with
        | nil => rfl
        | cons _ _ => cases e
      subst this
      have : G = [] := List.length_eq_zero_iff.mp h.1.symm
      subst this
      exact ⟨[], [], rfl, .nil, .refl _⟩
    | @cons x l1 l2 _ ih =>
      intro as G e h
      cases as with
      | nil => cases e
      | cons a as =>
        cases G with
        | nil => exact nomatch h.1
        | cons g G =>
          obtain ⟨e1, e2⟩ := List.cons.inj e
          have h2 : All2 R as G := ⟨Nat.succ.inj h.1, fun i x y q1 q2 => h.2 (i + 1) x y q1 q2⟩
          obtain ⟨bs, F, f1, f2, f3⟩ := ih as G e2 h2
          exact ⟨a :: bs, g :: F, by rw [e1, f1]; rfl, .cons (h.2 0 a g rfl rfl) f2, f3.cons g⟩
    | @swap x y l =>
      intro as G e h
      match as, G, h with
      | [], _, _ => cases e
      | [_], _, _ => cases e
      | _ :: _ :: _, [], h => exact nomatch h.1
      | _ :: _ :: _, [_], h => exact nomatch Nat.succ.inj h.1
      | a :: b :: as, g :: k :: G, h =>
        obtain ⟨e1, e2⟩ := List.cons.inj e
        obtain ⟨e3, e4⟩ := List.cons.inj e2
        have h2 : All2 R as G := ⟨Nat.succ.inj (Nat.succ.inj h.1), fun i x y q1 q2 => h.2 (i + 2) x y q1 q2⟩
        exact ⟨b :: a :: as, k :: g :: G, by rw [e1, e3, e4]; rfl, .cons (h.2 1 b k rfl rfl) (.cons (h.2 0 a g rfl rfl) h2), .swap ..⟩
    | trans _ _ ih1 ih2 =>
      intro as G e h
      obtain ⟨bs, F, f1, f2, f3⟩ := ih2 as G e h
      obtain ⟨cs, F2, g1, g2, g3⟩ := ih1 bs F f1 f2
      exact ⟨cs, F2, g1, g2, g3.trans f3⟩
  exact z p as G rfl h
def spCirc : Sp := fun vs H Q _ => ∃ (p a : Addr) (most : Nat), vs = [.ref p, .int most] ∧ most ≤ 15 ∧ PoolOk p a H ∧ ∀ (c : Addr) (d : CircD) (G : List GateD) (it gt rt ot : Addr) (ga ra oa : List Addr) (H' : Hp), Px p a H H' → CircAt H' c d it gt rt ot ga ra oa → CircWf most d G → Q (.ref c) H'
theorem sc_law_circuit : FnScope ["pool", "most", "k", "inputs", "stored", "nets", "gates", "pins", "ranges", "pin", "low", "regs", "outputs", "name", "j"] ["pool", "most"] (defScope s_law_circuit) := ⟨rfl, rfl, rfl, by decide +kernel, rfl, by decide +kernel, by decide +kernel⟩
theorem ok_law_circuit (D : Dfd K mg "_law_circuit" s_law_circuit ["pool", "most"]) (T : TxtS mg) (C1 : Has P w K mg base 2 "_law_draw" ["pool", "many"] spDrawX) (C2 : Has P w K mg base 3 "_law_table" ["pool", "many"] spTable) (C3 : Has P w K mg base 3 "_law_register" ["pool", "name", "net"] spReg)
    (C4 : Has P w K mg base 3 "_law_shuffled" ["pool", "rows"] spShuf) : Has P w K mg base 4 "_law_circuit" ["pool", "most"] spCirc := by
  obtain ⟨f_law_draw, d_law_draw, G_law_draw, g_law_draw, k_law_draw, b_law_draw⟩ := C1
  obtain ⟨f_law_table, d_law_table, G_law_table, g_law_table, k_law_table, b_law_table⟩ := C2
  obtain ⟨f_law_register, d_law_register, G_law_register, g_law_register, k_law_register, b_law_register⟩ := C3
  obtain ⟨f_law_shuffled, d_law_shuffled, G_law_shuffled, g_law_shuffled, k_law_shuffled, b_law_shuffled⟩ := C4
  refine D.has fun f fd F => F.ok sc_law_circuit (fun vs H Q E h => ?_) (fun cdv A outer s H vs Q E hr h => ?_)
  · obtain ⟨p, a, most, rfl, _⟩ := h
    rfl
  · obtain ⟨p, a, most, rfl, hmost, hp, q⟩ := h
    refine ⟨_, (pss_cons (ps_setLc (i := 3) (own := [("k", 2)]) (g := gName 2) (tt := tYes) rfl sc_law_circuit.nd rfl rfl (sw_true rfl rfl rfl (by decide +kernel)) (pi_range1 rfl T.range (pa_cons (pe_op op_add pe_int (pe_call G_law_draw (hr.mono (by omega)) (by rfl) g_law_draw k_law_draw b_law_draw .nil pass0 (pa_cons (pv 0) (pa_cons pe_int pa_nil)))) pa_nil)) (blkOk_by (N := ["pool", "most", "k", "inputs", "stored", "nets", "gates", "pins", "ranges", "pin", "low", "regs", "outputs", "name", "j"]) (sc := defScope s_law_circuit) (own := [("k", 2)]) (by decide +kernel)) (fun _ _ _ _ _ => (pg_name (i := 2) sc_law_circuit.nd rfl (.inl rfl))) (fun _ _ _ _ _ => pts_nil) (fun _ _ _ _ _ => (pe_op op_add_str pe_str (pe_callTy call_str_int (by rfl) T.str (by decide +kernel) (pa_cons (pv 2) pa_nil)))))
    (pss_cons (ps_setLc (i := 4) (own := [("k", 2)]) (g := gName 2) (tt := tYes) rfl sc_law_circuit.nd rfl rfl (sw_true rfl rfl rfl (by decide +kernel)) (pi_range1 rfl T.range (pa_cons (pe_call G_law_draw (hr.mono (by omega)) (by rfl) g_law_draw k_law_draw b_law_draw .nil pass0 (pa_cons (pv 0) (pa_cons pe_int pa_nil))) pa_nil)) (blkOk_by (N := ["pool", "most", "k", "inputs", "stored", "nets", "gates", "pins", "ranges", "pin", "low", "regs", "outputs", "name", "j"]) (sc := defScope s_law_circuit) (own := [("k", 2)]) (by decide +kernel)) (fun _ _ _ _ _ => (pg_name (i := 2) sc_law_circuit.nd rfl (.inl rfl))) (fun _ _ _ _ _ => pts_nil) (fun _ _ _ _ _ => (pe_op op_add_str pe_str (pe_callTy call_str_int (by rfl) T.str (by decide +kernel) (pa_cons (pv 2) pa_nil)))))
    (pss_cons (ps_set (i := 5) sc_law_circuit.nd rfl (.inr rfl) (pe_op op_cat (pv 3) (pv 4)))
    (pss_cons (ps_set (i := 6) sc_law_circuit.nd rfl (.inl rfl) (pe_lst pa_nil))
    (pss_cons (ps_for PassesOwn.never rfl (pi_range1 rfl T.range (pa_cons (pe_call G_law_draw (hr.mono (by omega)) (by rfl) g_law_draw k_law_draw b_law_draw .nil pass0 (pa_cons (pv 0) (pa_cons (pe_op op_add (pv 1) pe_int) pa_nil))) pa_nil)) (pg_name (i := 2) sc_law_circuit.nd rfl (.inl rfl))
      (pss_cons (ps_set (i := 7) sc_law_circuit.nd rfl (.inl rfl) (pe_callTy call_tuple_of (by rfl) T.tuple (by decide +kernel) (pa_cons (pe_lc (own := [("j", 14)]) (g := gName 14) (tt := tYes) rfl sc_law_circuit.nd (pi_range1 rfl T.range (pa_cons (pe_ix ix_list (pe_lst (pa_cons pe_int (pa_cons pe_int (pa_cons pe_int (pa_cons pe_int (pa_cons pe_int (pa_cons pe_int pa_nil))))))) (pe_call G_law_draw (hr.mono (by omega)) (by rfl) g_law_draw k_law_draw b_law_draw .nil pass0 (pa_cons (pv 0) (pa_cons pe_int pa_nil))) (fun _ _ => rfl)) pa_nil)) (blkOk_by (N := ["pool", "most", "k", "inputs", "stored", "nets", "gates", "pins", "ranges", "pin", "low", "regs", "outputs", "name", "j"]) (sc := defScope s_law_circuit) (own := [("j", 14)]) (by decide +kernel)) (fun _ _ _ _ _ => (pg_name (i := 14) sc_law_circuit.nd rfl (.inl rfl))) (fun _ _ _ _ _ => pts_nil) (fun _ _ _ _ _ => (pe_ix (kIxL (K := K) rfl) (pv 5) (pe_call G_law_draw (hr.mono (by omega)) (by rfl) g_law_draw k_law_draw b_law_draw .nil pass0 (pa_cons (pv 0) (pa_cons (pe_callB (kLen (K := K) rfl) (by rfl) T.len (by decide +kernel) (pa_cons (pv 5) pa_nil)) pa_nil))) (fun _ _ => rfl)))) pa_nil)))
      (pss_cons (ps_set (i := 8) sc_law_circuit.nd rfl (.inl rfl) (pe_lst pa_nil))
      (pss_cons (ps_for PassesOwn.never rfl (pi_tup (pv 7)) (pg_name (i := 9) sc_law_circuit.nd rfl (.inl rfl))
        (pss_cons (ps_set (i := 10) sc_law_circuit.nd rfl (.inl rfl) (pe_call G_law_draw (hr.mono (by omega)) (by rfl) g_law_draw k_law_draw b_law_draw .nil pass0 (pa_cons (pv 0) (pa_cons pe_int pa_nil))))
        (pss_one (ps_expr (pe_bm PySem.F.plainAttrs_list PySem.F.slot_list_append PySem.F.type_list_append mt_append (pv 8) (pa_cons (pe_tup (pa_cons (pv 10) (pa_cons (pe_op op_add (pe_op op_add (pv 10) pe_int) (pe_call G_law_draw (hr.mono (by omega)) (by rfl) g_law_draw k_law_draw b_law_draw .nil pass0 (pa_cons (pv 0) (pa_cons pe_int pa_nil)))) pa_nil))) pa_nil))))))
      (pss_cons (ps_expr (pe_bm PySem.F.plainAttrs_list PySem.F.slot_list_append PySem.F.type_list_append mt_append (pv 6) (pa_cons (pe_tup (pa_cons (pe_op op_add_str pe_str (pe_callTy call_str_int (by rfl) T.str (by decide +kernel) (pa_cons (pv 2) pa_nil))) (pa_cons (pe_call G_law_table (hr.mono (by omega)) (by rfl) g_law_table k_law_table b_law_table .nil pass0 (pa_cons (pv 0) (pa_cons (pe_callB call_len_seq (by rfl) T.len (by decide +kernel) (pa_cons (pv 7) pa_nil)) pa_nil))) (pa_cons (pv 7) (pa_cons (pe_callTy call_tuple_of (by rfl) T.tuple (by decide +kernel) (pa_cons (pv 8) pa_nil)) pa_nil))))) pa_nil)))
      (pss_one (ps_expr (pe_bm PySem.F.plainAttrs_list PySem.F.slot_list_append PySem.F.type_list_append mt_append (pv 5) (pa_cons (pe_op op_add_str pe_str (pe_callTy call_str_int (by rfl) T.str (by decide +kernel) (pa_cons (pv 2) pa_nil))) pa_nil)))))))))
    (pss_cons (ps_setLc (i := 11) (own := [("name", 13)]) (g := gName 13) (tt := tYes) rfl sc_law_circuit.nd rfl rfl (sw_true rfl rfl rfl (by decide +kernel)) (pi_list (pv 4)) (blkOk_by (N := ["pool", "most", "k", "inputs", "stored", "nets", "gates", "pins", "ranges", "pin", "low", "regs", "outputs", "name", "j"]) (sc := defScope s_law_circuit) (own := [("name", 13)]) (by decide +kernel)) (fun _ _ _ _ _ => (pg_name (i := 13) sc_law_circuit.nd rfl (.inl rfl))) (fun _ _ _ _ _ => pts_nil) (fun _ _ _ _ _ => (pe_call G_law_register (hr.mono (by omega)) (by rfl) g_law_register k_law_register b_law_register .nil pass0 (pa_cons (pv 0) (pa_cons (pv 13) (pa_cons (pe_ix (kIxL (K := K) rfl) (pv 5) (pe_call G_law_draw (hr.mono (by omega)) (by rfl) g_law_draw k_law_draw b_law_draw .nil pass0 (pa_cons (pv 0) (pa_cons (pe_callB (kLen (K := K) rfl) (by rfl) T.len (by decide +kernel) (pa_cons (pv 5) pa_nil)) pa_nil))) (fun _ _ => rfl)) pa_nil))))))
    (pss_cons (ps_setLc (i := 12) (own := [("k", 2)]) (g := gName 2) (tt := tYes) rfl sc_law_circuit.nd rfl rfl (sw_true rfl rfl rfl (by decide +kernel)) (pi_range1 rfl T.range (pa_cons (pe_call G_law_draw (hr.mono (by omega)) (by rfl) g_law_draw k_law_draw b_law_draw .nil pass0 (pa_cons (pv 0) (pa_cons pe_int pa_nil))) pa_nil)) (blkOk_by (N := ["pool", "most", "k", "inputs", "stored", "nets", "gates", "pins", "ranges", "pin", "low", "regs", "outputs", "name", "j"]) (sc := defScope s_law_circuit) (own := [("k", 2)]) (by decide +kernel)) (fun _ _ _ _ _ => (pg_name (i := 2) sc_law_circuit.nd rfl (.inl rfl))) (fun _ _ _ _ _ => pts_nil) (fun _ _ _ _ _ => (pe_tup (pa_cons (pe_op op_add_str pe_str (pe_callTy call_str_int (by rfl) T.str (by decide +kernel) (pa_cons (pv 2) pa_nil))) (pa_cons (pe_ix (kIxL (K := K) rfl) (pv 5) (pe_call G_law_draw (hr.mono (by omega)) (by rfl) g_law_draw k_law_draw b_law_draw .nil pass0 (pa_cons (pv 0) (pa_cons (pe_callB (kLen (K := K) rfl) (by rfl) T.len (by decide +kernel) (pa_cons (pv 5) pa_nil)) pa_nil))) (fun _ _ => rfl)) pa_nil)))))
    (pss_one (ps_ret (pe_tup (pa_cons (pe_callTy call_tuple_of (by rfl) T.tuple (by decide +kernel) (pa_cons (pv 3) pa_nil)) (pa_cons (pe_callTy call_tuple_of (by rfl) T.tuple (by decide +kernel) (pa_cons (pe_call G_law_shuffled (hr.mono (by omega)) (by rfl) g_law_shuffled k_law_shuffled b_law_shuffled .nil pass0 (pa_cons (pv 0) (pa_cons (pv 6) pa_nil))) pa_nil)) (pa_cons (pe_callTy call_tuple_of (by rfl) T.tuple (by decide +kernel) (pa_cons (pv 11) pa_nil)) (pa_cons (pe_callTy call_tuple_of (by rfl) T.tuple (by decide +kernel) (pa_cons (pv 12) pa_nil)) pa_nil)))))))))))))), ?_⟩
    -- inputs
    refine ⟨_, rfl, p, a, 3, rfl, by decide, by decide, hp, fun na H1 hna X1 _ => ⟨_, _, rfl, rfl, _, rfl, by omega, by omega, fun L3 nL3 => lcRv (fun k => .str (nm "i" k)) (by omega) (fun _ => rfl) (fun k H2 hk _ Q q => ?_) ?_⟩⟩
    · rw [Int.zero_add]
      have := nm_read nmi_str (k := k) (by omega)
      exact ⟨_, rfl, _, rfl, this.1, _, _, rfl, rfl, this.2, q⟩
    have e1 : ((1 : Int) + (na : Int)).toNat = na + 1 := by omega
    rw [e1] at *
    have X3 := X1.new (o := .lst ((List.range (na + 1)).map fun k => V.str (nm "i" k))) nL3
    have h3 : hid p (upd H1 L3 (.lst ((List.range (na + 1)).map fun k => V.str (nm "i" k)))) L3 = some (.lst (((List.range (na + 1)).map (nm "i")).map V.str)) := by
      rw [hid_new (X1.pool.ne nL3), List.map_map]; rfl
    generalize upd H1 L3 (.lst ((List.range (na + 1)).map fun k => V.str (nm "i" k))) = H2 at *
    -- stored
    refine ⟨_, rfl, p, a, 4, rfl, by decide, by decide, X3.pool, fun nb H3 hnb X4 _ => ⟨_, rfl, by omega, by omega, fun L4 nL4 => lcRv (fun k => .str (nm "r" k)) (by omega) (fun _ => rfl) (fun k H2 hk _ Q q => ?_) ?_⟩⟩
    · rw [Int.zero_add]
      have := nm_read nmr_str (k := k) (by omega)
      exact ⟨_, rfl, _, rfl, this.1, _, _, rfl, rfl, this.2, q⟩
    rw [Int.toNat_natCast] at *
    have n34 : L3 ≠ L4 := ne_of_none (hid_get (X4.get h3)) nL4
    have X5 := (X3.trans X4).new (o := .lst ((List.range nb).map fun k => V.str (nm "r" k))) nL4
    have h4 : hid p (upd H3 L4 (.lst ((List.range nb).map fun k => V.str (nm "r" k)))) L4 = some (.lst (((List.range nb).map (nm "r")).map V.str)) := by
      rw [hid_new (X4.pool.ne nL4), List.map_map]; rfl
    have h35 : hid p (upd H3 L4 (.lst ((List.range nb).map fun k => V.str (nm "r" k)))) L3 = some (.lst (((List.range (na + 1)).map (nm "i")).map V.str)) := keep1 (X4.get h3) n34 (X4.pool.ne nL4)
    generalize upd H3 L4 (.lst ((List.range nb).map fun k => V.str (nm "r" k))) = H4 at *
    generalize eIns : (List.range (na + 1)).map (nm "i") = ins at *
    generalize eRgs : (List.range nb).map (nm "r") = rgs at *
    have lIns : ins.length ≤ 3 := by rw [← eIns, List.length_map, List.length_range]; omega
    have lIns0 : 0 < ins.length := by rw [← eIns, List.length_map, List.length_range]; omega
    have lRgs : rgs.length ≤ 3 := by rw [← eRgs, List.length_map, List.length_range]; omega
    -- nets, gates
    refine ⟨_, rfl, _, rfl, L3, L4, _, _, rfl, rfl, hid_get h35, hid_get h4, sz_of (by rw [List.length_map, List.length_map]; omega), fun L5 nL5 => ⟨Nat.zero_le _, fun L6 nL6 => ?_⟩⟩
    rw [← List.map_append] at *
    have n35 : L3 ≠ L5 := ne_of_none (hid_get h35) nL5
    have n45 : L4 ≠ L5 := ne_of_none (hid_get h4) nL5
    have p5 := X5.pool.ne nL5
    have Y5 := X5.new (o := .lst ((ins ++ rgs).map V.str)) nL5
    have g3 : hid p (upd H4 L5 (.lst ((ins ++ rgs).map V.str))) L3 = some (.lst (ins.map V.str)) := keep1 h35 n35 p5
    have g4 : hid p (upd H4 L5 (.lst ((ins ++ rgs).map V.str))) L4 = some (.lst (rgs.map V.str)) := keep1 h4 n45 p5
    have g5 : hid p (upd H4 L5 (.lst ((ins ++ rgs).map V.str))) L5 = some (.lst ((ins ++ rgs).map V.str)) := hid_new p5
    have f5 : H L5 = none := X5.free nL5
    generalize upd H4 L5 (.lst ((ins ++ rgs).map V.str)) = H5 at *
    have n36 : L3 ≠ L6 := ne_of_none (hid_get g3) nL6
    have n46 : L4 ≠ L6 := ne_of_none (hid_get g4) nL6
    have n56 : L5 ≠ L6 := ne_of_none (hid_get g5) nL6
    have p6 := Y5.pool.ne nL6
    have f6 : H L6 = none := Y5.free nL6
    have Y6 := Y5.new (o := .lst []) nL6
    have k3 : hid p (upd H5 L6 (.lst [])) L3 = some (.lst (ins.map V.str)) := keep1 g3 n36 p6
    have k4 : hid p (upd H5 L6 (.lst [])) L4 = some (.lst (rgs.map V.str)) := keep1 g4 n46 p6
    have k5 : hid p (upd H5 L6 (.lst [])) L5 = some (.lst ((ins ++ rgs).map V.str)) := keep1 g5 n56 p6
    have k6 : hid p (upd H5 L6 (.lst [])) L6 = some (.lst []) := hid_new p6
    generalize upd H5 L6 (.lst []) = H6 at *
    refine ⟨_, rfl, _, rfl, _, _, rfl, rfl, p, a, (most : Int) + 1, rfl, by omega, by omega, Y6.pool, fun ng H7 hng X7 _ => ⟨ng, rfl, by omega, by omega, for_range (n := ((ng : Nat) : Int).toNat)
      (fun i σ H' => Px p a H H' ∧ hid p H' L3 = some (.lst (ins.map V.str)) ∧ hid p H' L4 = some (.lst (rgs.map V.str)) ∧ hid p H' L5 = some (.lst ((ins ++ rgs ++ (List.range i).map (nm "g")).map V.str)) ∧
        ∃ (ga : List Addr) (G : List GateD), hid p H' L6 = some (.lst (ga.map V.ref)) ∧ All2 (GateAt H') ga G ∧ G.length = i ∧ (∀ k g, G[k]? = some g → GateWf (ins ++ rgs ++ (List.range k).map (nm "g")) k g) ∧
        ∃ (x2 x7 x8 x9 x10 : Option V), σ = [some (.ref p), some (.int most), x2, some (.ref L3), some (.ref L4), some (.ref L5), some (.ref L6), x7, x8, x9, x10, none, none, none, none])
      ⟨Y6.trans X7, X7.get k3, X7.get k4, ?_, [], [], X7.get k6, .nil, rfl, (fun _ _ h => nomatch h), _, _, _, _, _, rfl⟩ ?_ ?_⟩⟩
    · rw [List.range_zero, List.map_nil, List.append_nil]; exact X7.get k5
    · rintro i σ H8 hi ⟨X8, q3, q4, q5, ga, G, q6, hG, hGi, hGw, x2, x7, x8, x9, x10, rfl⟩
      rw [Int.toNat_natCast] at hi
      have hi15 : i < 15 := by omega
      have lN : (ins ++ rgs ++ (List.range i).map (nm "g")).length ≤ 21 := by
        rw [List.length_append, List.length_append, List.length_map, List.length_range]; omega
      have lN0 : 0 < (ins ++ rgs ++ (List.range i).map (nm "g")).length := by
        rw [List.length_append, List.length_append]; omega
      have ei : (0 : Int) + (i : Int) = (i : Int) := Int.zero_add _
      rw [ei]
      generalize eN : ins ++ rgs ++ (List.range i).map (nm "g") = N at *
      -- pins
      refine ⟨(by show 6 ≤ sizeLine; decide), fun l nl => ⟨_, rfl, p, a, 6, rfl, by decide, by decide, (X8.new nl).pool, fun v H9 hv X9 kp => ?_⟩⟩
      have hl9 : H9 l = some (.lst [.int 1, .int 2, .int 2, .int 3, .int 0, .int 1]) := by rw [kp _ (X8.pool.ne nl)]; exact upd_same
      obtain ⟨m, hm3, hm⟩ : ∃ m : Nat, m ≤ 3 ∧ ([.int 1, .int 2, .int 2, .int 3, .int 0, .int 1] : List V)[v]? = some (.int m) := by
        match v, hv with
        | 0, _ => exact ⟨1, by decide, rfl⟩
        | 1, _ => exact ⟨2, by decide, rfl⟩
        | 2, _ => exact ⟨2, by decide, rfl⟩
        | 3, _ => exact ⟨3, by decide, rfl⟩
        | 4, _ => exact ⟨0, by decide, rfl⟩
        | 5, _ => exact ⟨1, by decide, rfl⟩
        | n + 6, h => exact absurd h (by omega)
      have Z9 := ((Px.refl X8.pool).new nl).trans X9
      refine ⟨_, _, _, _, rfl, rfl, SqL.of hl9, atI_nat hm, _, rfl, by omega, by omega, fun L7 nL7 => lc_range (lo := 0) (n := ((m : Nat) : Int).toNat)
        (fun j H' => Px p a H8 H' ∧ ∃ ps : List Str, ps.length = j ∧ (∀ x ∈ ps, x ∈ N) ∧ hid p H' L7 = some (.lst (ps.map V.str))) ⟨Z9.new nL7, [], rfl, (fun _ h => nomatch h), hid_new (X9.pool.ne nL7)⟩ ?_ ?_⟩
      · rintro j H10 hj ⟨X10, ps, hpj, hpN, hps⟩
        have f7 : H8 L7 = none := Z9.free nL7
        refine ⟨rfl, tYes_in ⟨_, rfl, _, rfl, _, rfl, _, _, rfl, .inl (SqL.of (X10.at_ q5)), p, a, N.length, by rw [List.length_map]; rfl, by omega, by omega, X10.pool, fun u H11 hu X11 _ => ?_⟩⟩
        have hu' : u < N.length := by omega
        have Z11 := X10.trans X11
        refine ⟨_, _, _, _, rfl, rfl, SqL.of (Z11.at_ q5), atI_nat (strV_at hu'), _, hid_get (X11.get hps), sz_lt (by rw [List.length_map]; omega), Z11.mut f7, ps ++ [N[u]], ?_, ?_, ?_⟩
        · rw [List.length_append, hpj]; rfl
        · intro x hx
          rcases List.mem_append.mp hx with z | z
          · exact hpN x z
          · rw [List.mem_singleton.mp z]; exact List.getElem_mem hu'
        · rw [hid_new (X8.pool.ne f7), List.map_append]; rfl
      · rintro H10 ⟨X10, ps, hpj, hpN, hps⟩
        rw [Int.toNat_natCast] at hpj
        refine ⟨_, _, rfl, .inl ⟨SqL.of (hid_get hps), fun pt npt => ?_⟩⟩
        have Z10 := X10.new (o := .tup (ps.map V.str)) npt
        have hpt : upd H10 pt (.tup (ps.map V.str)) pt = some (.tup (ps.map V.str)) := upd_same
        generalize upd H10 pt (.tup (ps.map V.str)) = H11 at *
        -- ranges
        refine ⟨Nat.zero_le _, fun L8 nL8 => ?_⟩
        have Z11 := Z10.new (o := .lst []) nL8
        have hpt2 : upd H11 L8 (.lst []) pt = some (.tup (ps.map V.str)) := Ex.new nL8 _ _ hpt
        have h8 : hid p (upd H11 L8 (.lst [])) L8 = some (.lst []) := hid_new (Z10.pool.ne nL8)
        have f8 : H8 L8 = none := Z10.free nL8
        have p8 := X8.pool.ne f8
        generalize upd H11 L8 (.lst []) = H12 at *
        refine ⟨_, rfl, pt, rfl, ⟨_, SqT.of hpt2⟩, for_tup (K := K) (a := pt) (xs := ps.map V.str)
          (fun j σ H' => Px p a H8 H' ∧ TEx H12 H' ∧ ∃ (ra : List Addr) (R : List (Int × Int)) (x9 x10 : Option V), hid p H' L8 = some (.lst (ra.map V.ref)) ∧ All2 (IntsAt H') ra R ∧ R.length = j ∧ (∀ r ∈ R, 0 ≤ r.1 ∧ r.1 ≤ 4 ∧ r.1 + 2 ≤ r.2 ∧ r.2 ≤ r.1 + 6) ∧
            σ = [some (.ref p), some (.int most), some (.int (i : Int)), some (.ref L3), some (.ref L4), some (.ref L5), some (.ref L6), some (.ref pt), some (.ref L8), x9, x10, none, none, none, none])
          ⟨Z11, .refl _, [], [], _, _, h8, .nil, rfl, (fun _ h => nomatch h), rfl⟩ (fun j σ H' _ g => SqT.of (g.2.1 _ _ hpt2)) ?_ ?_⟩
        · rintro j x σ H13 hx ⟨X13, T13, ra, R, x9, x10, hra, hR, hRj, hRw, rfl⟩
          have hj3 : j < 3 := by have := (List.getElem?_eq_some_iff.mp hx).1; rw [List.length_map] at this; omega
          refine ⟨_, rfl, p, a, 5, rfl, by decide, by decide, X13.pool, fun lo H14 hlo X14 _ => ?_⟩
          refine ⟨_, rfl, .inl ⟨rfl, _, SqL.of (hid_get (X14.get hra))⟩, _, rfl, _, rfl, _, _, rfl, rfl, _, rfl, p, a, 5, rfl, by decide, by decide, X14.pool, fun u H15 hu X15 _ => ⟨_, _, rfl, rfl, (by show 2 ≤ sizeLine; decide), fun e ne => ?_⟩⟩
          have X16 := (X14.trans X15).new (o := .tup [.int lo, .int ((lo : Int) + 2 + u)]) ne
          have hra16 := X16.get hra
          have T16 := TEx.px X16
          have he : upd H15 e (.tup [.int lo, .int ((lo : Int) + 2 + u)]) e = some (.tup [.int lo, .int ((lo : Int) + 2 + u)]) := upd_same
          generalize upd H15 e (.tup [.int lo, .int ((lo : Int) + 2 + u)]) = H16 at *
          refine ⟨L8, ra.map V.ref, .ref e, rfl, rfl, hid_get hra16, sz_lt (by rw [List.length_map, hR.1]; omega), (X13.trans X16).mut f8, T13.trans (T16.trans (TEx.mut (hid_get hra16))), ra ++ [e], R ++ [((lo : Int), (lo : Int) + 2 + u)], _, _, ?_, ?_, ?_, ?_, rfl⟩
          · rw [hid_new p8, List.map_append]; rfl
          · exact (hR.imp fun _ _ z => (z.te T16).te (TEx.mut (hid_get hra16))).snoc (TEx.mut (hid_get hra16) _ _ he)
          · rw [List.length_append, hRj]; rfl
          · intro r hr
            rcases List.mem_append.mp hr with z | z
            · exact hRw r z
            · rw [List.mem_singleton.mp z]
              refine ⟨?_, ?_, ?_, ?_⟩ <;> simp <;> omega
        · rintro σ H13 ⟨X13, T13, ra, R, x9, x10, hra, hR, hRj, hRw, rfl⟩
          have hs := nm_read nmg_str (k := i) (by omega)
          rw [List.length_map] at hRj
          refine ⟨_, rfl, .inl ⟨rfl, _, SqL.of (X13.at_ q6)⟩, _, rfl, _, rfl, hs.1, _, _, rfl, rfl, hs.2, ?_⟩
          refine ⟨_, rfl, _, rfl, _, _, rfl, .inr (SqT.of (T13 _ _ hpt2)), p, a, ps.length, by rw [List.length_map]; rfl, by omega, X13.pool, fun t bs H14 hbl X14 nt ht => ?_⟩
          have T14 := TEx.px X14
          refine ⟨_, rfl, _, rfl, _, _, rfl, .inl ⟨SqL.of (hid_get (X14.get hra)), fun rt nrt => ?_⟩⟩
          have X15 := X14.new (o := .tup (ra.map V.ref)) nrt
          have T15 := TEx.px X15
          have hrt : upd H14 rt (.tup (ra.map V.ref)) rt = some (.tup (ra.map V.ref)) := upd_same
          have ht15 : upd H14 rt (.tup (ra.map V.ref)) t = some (.tup (bs.map V.bl)) := Ex.new nrt _ _ ht
          generalize upd H14 rt (.tup (ra.map V.ref)) = H15 at *
          refine ⟨(by show 4 ≤ sizeLine; decide), fun g ngg => ?_⟩
          have X16 := X15.new (o := .tup [.str (("g" : Str) ++ Str.ofString (toString ((i : Nat) : Int))), .ref t, .ref pt, .ref rt]) ngg
          have T16 : TEx H13 (upd H15 g (.tup [.str (("g" : Str) ++ Str.ofString (toString ((i : Nat) : Int))), .ref t, .ref pt, .ref rt])) := TEx.px X16
          have hg16 : upd H15 g (.tup [.str (("g" : Str) ++ Str.ofString (toString ((i : Nat) : Int))), .ref t, .ref pt, .ref rt]) g = some (.tup [.str (("g" : Str) ++ Str.ofString (toString ((i : Nat) : Int))), .ref t, .ref pt, .ref rt]) := upd_same
          have ht16 := Ex.new (o := .tup [.str (("g" : Str) ++ Str.ofString (toString ((i : Nat) : Int))), .ref t, .ref pt, .ref rt]) ngg _ _ ht15
          have hrt16 := Ex.new (o := .tup [.str (("g" : Str) ++ Str.ofString (toString ((i : Nat) : Int))), .ref t, .ref pt, .ref rt]) ngg _ _ hrt
          have Z16 := X13.trans X16
          generalize upd H15 g (.tup [.str (("g" : Str) ++ Str.ofString (toString ((i : Nat) : Int))), .ref t, .ref pt, .ref rt]) = H16 at *
          have hG16 : GateAt H16 g ⟨nm "g" i, bs, ps, R⟩ := ⟨t, pt, rt, ra, hg16, ht16, (T13.trans T16) _ _ hpt2, hrt16, hR.imp fun _ _ z => z.te T16⟩
          have q6' := Z16.get q6
          have p6' := hid_neq q6'
          have p5' := hid_neq q5
          have T17 : TEx H16 (upd H16 L6 (.lst (ga.map V.ref ++ [.ref g]))) := TEx.mut (hid_get q6')
          have hGs : All2 (GateAt H16) ga G := hG.imp fun _ _ z => z.te (TEx.px Z16)
          refine ⟨L6, ga.map V.ref, .ref g, rfl, rfl, hid_get q6', sz_lt (by rw [List.length_map, hG.1]; omega), ?_⟩
          have r3 := keep1 (o' := .lst (ga.map V.ref ++ [.ref g])) (Z16.get q3) n36 p6'
          have r4 := keep1 (o' := .lst (ga.map V.ref ++ [.ref g])) (Z16.get q4) n46 p6'
          have r5 := keep1 (o' := .lst (ga.map V.ref ++ [.ref g])) (Z16.get q5) n56 p6'
          have r6 : hid p (upd H16 L6 (.lst (ga.map V.ref ++ [.ref g]))) L6 = some (.lst ((ga ++ [g]).map V.ref)) := by rw [hid_new p6', List.map_append]; rfl
          have X17 := ((X8.trans Z16)).mut (o := .lst (ga.map V.ref ++ [.ref g])) f6
          have hG17 : All2 (GateAt (upd H16 L6 (.lst (ga.map V.ref ++ [.ref g])))) (ga ++ [g]) (G ++ [⟨nm "g" i, bs, ps, R⟩]) := (hGs.imp fun _ _ z => z.te T17).snoc (hG16.te T17)
          generalize upd H16 L6 (.lst (ga.map V.ref ++ [.ref g])) = H17 at *
          refine ⟨_, rfl, .inl ⟨rfl, _, SqL.of (hid_get r5)⟩, _, rfl, _, rfl, hs.1, _, _, rfl, rfl, hs.2, L5, N.map V.str, .str (nm "g" i), rfl, rfl, hid_get r5, sz_lt (by rw [List.length_map]; omega), ?_⟩
          have T18 : TEx H17 (upd H17 L5 (.lst (N.map V.str ++ [.str (nm "g" i)]))) := TEx.mut (hid_get r5)
          refine ⟨X17.mut f5, keep1 r3 n35 p5', keep1 r4 n45 p5', ?_, ga ++ [g], G ++ [⟨nm "g" i, bs, ps, R⟩], keep1 r6 n56.symm p5', hG17.imp fun _ _ z => z.te T18, ?_, ?_, _, _, _, _, _, rfl⟩
          · rw [hid_new p5', nms_snoc, ← List.append_assoc, eN, List.map_append]; rfl
          · rw [List.length_append, hGi]; rfl
          · intro k g' hk
            by_cases hkl : k < G.length
            · rw [List.getElem?_append_left hkl] at hk; exact hGw k g' hk
            · rw [List.getElem?_append_right (by omega)] at hk
              have hk0 : k - G.length = 0 := by
                cases e : k - G.length with
                | zero => rfl
                | succ n => rw [e] at hk; exact nomatch hk
              rw [hk0] at hk
              have : k = i := by omega
              subst this
              cases hk
              exact ⟨rfl, by show ps.length ≤ 3; omega, by rw [eN]; exact hpN, hbl, hRj, hRw⟩
    · rintro σ H8 ⟨X8, q3, q4, q5, ga, G, q6, hG, hGi, hGw, x2, x7, x8, x9, x10, rfl⟩
      rw [Int.toNat_natCast] at hGi q5
      have lN : (ins ++ rgs ++ (List.range ng).map (nm "g")).length ≤ 21 := by
        rw [List.length_append, List.length_append, List.length_map, List.length_range]; omega
      have lN0 : 0 < (ins ++ rgs ++ (List.range ng).map (nm "g")).length := by
        rw [List.length_append, List.length_append]; omega
      generalize eN : ins ++ rgs ++ (List.range ng).map (nm "g") = N at *
      -- regs
      refine ⟨_, rfl, L4, rfl, ⟨_, SqL.of (hid_get q4)⟩, fun L11 nL11 => wk_list (K := K) (a := L4) (xs := rgs.map V.str)
        (fun j H' => Px p a H8 H' ∧ ∃ (ra : List Addr) (R : List RegD), hid p H' L11 = some (.lst (ra.map V.ref)) ∧ All2 (RegAt H') ra R ∧ R.map (·.name) = rgs.take j ∧ ∀ r ∈ R, RegWf r ∧ r.net ∈ N)
        ⟨(Px.refl X8.pool).new nL11, [], [], hid_new (X8.pool.ne nL11), .nil, (by rw [List.take_zero]; rfl), (fun _ h => nomatch h)⟩ (fun j H' _ g => SqL.of (g.1.at_ q4)) ?_ ?_⟩
      · rintro j x H9 hx ⟨X9, ra, R, hra, hR, hRn, hRw⟩
        have hj : j < rgs.length := by have := (List.getElem?_eq_some_iff.mp hx).1; rw [List.length_map] at this; exact this
        obtain rfl : x = .str rgs[j] := by rw [strV_at hj] at hx; exact (Option.some.inj hx).symm
        refine ⟨rfl, tYes_in ⟨_, rfl, _, rfl, _, rfl, _, rfl, _, rfl, _, _, rfl, .inl (SqL.of (X9.at_ q5)), p, a, N.length, by rw [List.length_map]; rfl, by omega, by omega, X9.pool, fun u H10 hu X10 _ => ?_⟩⟩
        have hu' : u < N.length := by omega
        refine ⟨_, _, _, _, rfl, rfl, SqL.of ((X9.trans X10).at_ q5), atI_nat (strV_at hu'), p, a, rgs[j], N[u], rfl, X10.pool, fun y r H11 X11 ny hr hn1 hn2 hw => ?_⟩
        have Z := X10.trans X11
        have hra' := Z.get hra
        refine ⟨_, hid_get hra', sz_lt (by rw [List.length_map, hR.1]; have := congrArg List.length hRn; rw [List.length_map, List.length_take] at this; omega), (X9.trans Z).mut nL11, ra ++ [y], R ++ [r], ?_, ?_, ?_, ?_⟩
        · rw [hid_new (X8.pool.ne nL11), List.map_append]; rfl
        · exact ((hR.imp fun _ _ z => z.te (TEx.px Z)).snoc hr).imp fun _ _ z => z.te (TEx.mut (hid_get hra'))
        · rw [List.map_append, hRn, List.take_add_one, List.getElem?_eq_getElem hj, ← hn1]; rfl
        · intro r' hr'
          rcases List.mem_append.mp hr' with z | z
          · exact hRw r' z
          · rw [List.mem_singleton.mp z]; exact ⟨hw, by rw [hn2]; exact List.getElem_mem hu'⟩
      rintro H9 ⟨X9, ra, R, hra, hR, hRn, hRw⟩
      rw [List.length_map, List.take_length] at hRn
      -- outputs
      refine ⟨_, rfl, p, a, 4, rfl, by decide, by decide, X9.pool, fun nq H10 hnq X10 _ => ⟨_, rfl, by omega, by omega, fun L12 nL12 => lc_range (lo := 0) (n := ((nq : Nat) : Int).toNat)
        (fun j H' => Px p a H10 H' ∧ ∃ (oa : List Addr) (O : List (Str × Str)), hid p H' L12 = some (.lst (oa.map V.ref)) ∧ All2 (OutAt H') oa O ∧ O.map (·.1) = (List.range j).map (nm "p") ∧ ∀ o ∈ O, o.2 ∈ N)
        ⟨(Px.refl X10.pool).new nL12, [], [], hid_new (X10.pool.ne nL12), .nil, rfl, (fun _ h => nomatch h)⟩ ?_ ?_⟩⟩
      · rintro j H11 hj ⟨X11, oa, O, hoa, hO, hOn, hOw⟩
        have hs := nm_read nmp_str (k := j) (by omega)
        have ej : (0 : Int) + (j : Int) = (j : Int) := Int.zero_add _
        rw [ej]
        have Z11 := (X9.trans X10).trans X11
        refine ⟨rfl, tYes_in ⟨_, rfl, _, rfl, hs.1, _, _, rfl, rfl, hs.2, _, rfl, _, rfl, _, rfl, _, _, rfl, .inl (SqL.of (Z11.at_ q5)), p, a, N.length, by rw [List.length_map]; rfl, by omega, by omega, X11.pool, fun u H12 hu X12 _ => ?_⟩⟩
        have hu' : u < N.length := by omega
        refine ⟨_, _, _, _, rfl, rfl, SqL.of ((Z11.trans X12).at_ q5), atI_nat (strV_at hu'), (by show 2 ≤ sizeLine; decide), fun e ne => ?_⟩
        have Z := X12.new (o := .tup [.str (("p" : Str) ++ Str.ofString (toString ((j : Nat) : Int))), .str N[u]]) ne
        have hoa' := Z.get hoa
        refine ⟨_, hid_get hoa', sz_lt (by rw [List.length_map, hO.1]; have := congrArg List.length hOn; rw [List.length_map, List.length_map, List.length_range] at this; omega), (X11.trans Z).mut nL12, oa ++ [e], O ++ [(nm "p" j, N[u])], ?_, ?_, ?_, ?_⟩
        · rw [hid_new (X10.pool.ne nL12), List.map_append]; rfl
        · exact ((hO.imp fun _ _ z => TEx.px Z _ _ z).snoc (show OutAt _ e (nm "p" j, N[u]) from upd_same)).imp fun _ _ z => TEx.mut (hid_get hoa') _ _ z
        · rw [List.map_append, hOn, nms_snoc]; rfl
        · intro o ho
          rcases List.mem_append.mp ho with z | z
          · exact hOw o z
          · rw [List.mem_singleton.mp z]; exact List.getElem_mem hu'
      rintro H11 ⟨X11, oa, O, hoa, hO, hOn, hOw⟩
      rw [Int.toNat_natCast] at hOn
      have Z11 := X9.trans (X10.trans X11)
      have T11 : TEx H9 H11 := TEx.px (X10.trans X11)
      refine ⟨_, rfl, _, _, rfl, .inl ⟨SqL.of (Z11.at_ q3), fun it nit => ?_⟩⟩
      have X12 := (Px.refl X11.pool).new (o := .tup (ins.map V.str)) nit
      have hit : upd H11 it (.tup (ins.map V.str)) it = some (.tup (ins.map V.str)) := upd_same
      generalize upd H11 it (.tup (ins.map V.str)) = H12 at *
      have hga12 := (Z11.trans X12).get q6
      refine ⟨_, rfl, _, rfl, p, a, L6, ga.map V.ref, rfl, X12.pool, hga12, by rw [List.length_map, hG.1]; omega, fun o ys H13 X13 no ho hperm => ?_⟩
      obtain ⟨gb, GB, rfl, hGB, hGp⟩ := perm_refs (hG.imp fun _ _ z => z.te (TEx.px (Z11.trans (X12.trans X13)))) hperm
      refine ⟨_, _, rfl, .inl ⟨SqL.of ho, fun gt ngt => ?_⟩⟩
      have X14 := X13.new (o := .tup (gb.map V.ref)) ngt
      have hgt : upd H13 gt (.tup (gb.map V.ref)) gt = some (.tup (gb.map V.ref)) := upd_same
      have T14 : TEx H13 (upd H13 gt (.tup (gb.map V.ref))) := TEx.new ngt
      generalize upd H13 gt (.tup (gb.map V.ref)) = H14 at *
      have Y14 := X12.trans X14
      refine ⟨_, rfl, _, _, rfl, .inl ⟨SqL.of (hid_get (Y14.get ((X10.trans X11).get hra))), fun rt nrt => ?_⟩⟩
      have X15 := Y14.new (o := .tup (ra.map V.ref)) nrt
      have hrt : upd H14 rt (.tup (ra.map V.ref)) rt = some (.tup (ra.map V.ref)) := upd_same
      have T15 : TEx H14 (upd H14 rt (.tup (ra.map V.ref))) := TEx.new nrt
      generalize upd H14 rt (.tup (ra.map V.ref)) = H15 at *
      refine ⟨_, rfl, _, _, rfl, .inl ⟨SqL.of (hid_get (X15.get hoa)), fun ot not => ?_⟩⟩
      have X16 := X15.new (o := .tup (oa.map V.ref)) not
      have hot : upd H15 ot (.tup (oa.map V.ref)) ot = some (.tup (oa.map V.ref)) := upd_same
      have T16 : TEx H15 (upd H15 ot (.tup (oa.map V.ref))) := TEx.new not
      generalize upd H15 ot (.tup (oa.map V.ref)) = H16 at *
      refine ⟨(by show 4 ≤ sizeLine; decide), fun c nc => ?_⟩
      have T17 : TEx H16 (upd H16 c (.tup [.ref it, .ref gt, .ref rt, .ref ot])) := TEx.new nc
      have T1114 := TEx.px Y14
      have T1117 := TEx.px X16
      refine q c ⟨ins, GB, R, O⟩ G it gt rt ot gb ra oa _ ((X8.trans (Z11.trans X16)).new nc) ⟨upd_same, ?_, ?_, ?_, ?_, ?_, ?_, ?_⟩ ⟨?_, ?_, ?_, ?_, ?_, ?_, ?_, ?_⟩
      · exact T17 _ _ (T16 _ _ (T15 _ _ (T14 _ _ (TEx.px X13 _ _ hit))))
      · exact T17 _ _ (T16 _ _ (T15 _ _ hgt))
      · exact T17 _ _ (T16 _ _ hrt)
      · exact T17 _ _ hot
      · exact hGB.imp fun _ _ z => z.te (T14.trans (T15.trans (T16.trans T17)))
      · exact hR.imp fun _ _ z => z.te (T11.trans (T1117.trans T17))
      · exact hO.imp fun _ _ z => (T1117.trans T17) _ _ z
      · exact ⟨na + 1, by omega, by omega, eIns.symm⟩
      · exact ⟨nb, by omega, hRn.trans eRgs.symm⟩
      · show G.length ≤ most
        omega
      · intro k g hk
        have := hGw k g hk
        show GateWf (ins ++ R.map (·.name) ++ _) k g
        rw [hRn]; exact this
      · exact hGp
      · intro r hr
        show RegWf r ∧ r.net ∈ ins ++ R.map (·.name) ++ (List.range G.length).map (nm "g")
        rw [hRn, hGi, eN]; exact hRw r hr
      · exact ⟨nq, by omega, hOn⟩
      · intro o ho
        show o.2 ∈ ins ++ R.map (·.name) ++ (List.range G.length).map (nm "g")
        rw [hRn, hGi, eN]; exact hOw o ho
end
end G
/-! zip of two rows, each a list or a tuple -/
namespace G
open PySem PySem.Spec PyProof.Rows L2 Evl
def SqB (t : Bool) (K : PySem.W.Frag) (H : Hp) (a : Addr) (xs : List V) : Prop := if t = true then SqT K H a xs else SqL K H a xs
def ItB (t : Bool) (h : Heap) (it l : Addr) (i : Nat) : Prop := if t = true then h.IsTupleIter it l i else h.IsListIter it l i
theorem ItB.obj {t : Bool} {h : Heap} {it l : Addr} {i : Nat} (x : ItB t h it l i) : ∃ o, h.get? it = some o ∧ ∃ q, o.data = .fields q := by
  unfold ItB at x
  split at x
  · obtain ⟨o, ho, _, hd⟩ := x; exact ⟨o, ho, _, hd⟩
  · obtain ⟨o, ho, _, hd⟩ := x; exact ⟨o, ho, _, hd⟩
theorem ItB.to {t : Bool} {h h' : Heap} {it l : Addr} {i : Nat} (x : ItB t h it l i) (k : ∀ o, h.get? it = some o → h'.get? it = some o) : ItB t h' it l i := by
  unfold ItB at x ⊢
  split
  · rw [if_pos (by assumption)] at x; exact x.at k
  · rw [if_neg (by assumption)] at x; exact x.at k
theorem SqB.one {X : Cx} {pins : List (Addr × Obj)} {σ : L2.St} {H : Hp} {s : Shared} (I : Inv X pins σ H s) {t : Bool} {a : Addr} {xs ys : List V} (h : SqB t X.K H a xs) (h' : SqB t X.K H a ys) : xs = ys := by
  unfold SqB at h h'
  cases t with
  | true => exact I.tuple_inj h h'
  | false => exact I.list_inj h h'
theorem drawsB {X : Cx} {pins : List (Addr × Obj)} {σ : L2.St} {H : Hp} {s : Shared} (I : Inv X pins σ H s) (hh : X.A.handled = none) {t : Bool} {a it : Addr} {xs : List V} {i : Nat} (hq : SqB t X.K H a xs) (st : ItB t s.heap it a i) (hne : a ≠ it) :
    ∃ (items : List Value) (St : Nat → Heap → Prop), Vals xs items ∧ Draws X.prog X.w X.A.in1 it [it, a] items.toArray.size (fun i v => items.toArray[i]? = some v) St ∧ St i s.heap ∧ ∀ h', St (i + 1) h' → ItB t h' it a (i + 1) := by
  unfold SqB at hq
  unfold ItB at st ⊢
  cases t with
  | true =>
    obtain ⟨items, rv, p, _⟩ := I.tuple hq
    exact ⟨items, _, rv, Draws.tuple (A := X.A.in1) hh it a hne items.toArray, ⟨st, p⟩, fun h' z => z.1⟩
  | false =>
    obtain ⟨items, rv, p, _⟩ := I.list hq
    exact ⟨items, _, rv, Draws.list (A := X.A.in1) hh it a hne items.toArray, ⟨st, p.isList⟩, fun h' z => z.1⟩
/-- both rows as they stand at each turn, a new pair each -/
def ItM (t1 t2 : Bool) (K : PySem.W.Frag) (a b : Addr) : It :=
  ⟨fun i H => ∃ (xs ys : List V), SqB t1 K H a xs ∧ SqB t2 K H b ys ∧ i < xs.length ∧ i < ys.length,
   fun i H v H' => ∃ T x y, v = .ref T ∧ H T = none ∧ H' = upd H T (.tup [x, y]) ∧ (∀ xs, SqB t1 K H a xs → xs[i]? = some x) ∧ ∀ ys, SqB t2 K H b ys → ys[i]? = some y,
   fun i H => ∃ xs ys : List V, SqB t1 K H a xs ∧ SqB t2 K H b ys ∧ i ≤ xs.length ∧ i ≤ ys.length ∧ (i = xs.length ∨ i = ys.length)⟩
theorem turn_zipM {P : Program} {w : World} {K : PySem.W.Frag} {elts : List Expr} {kk : Nat} {tpos : Pos} {t1 t2 : Bool} {a b z TI TO i1 i2 : Addr} (S : ZipSep2 z TI TO i1 i2 [i1, a] [i2, b]) (na : a ≠ i1) (nb : b ≠ i2) :
    Turn P w K (.Tuple elts kk tpos) (ItM t1 t2 K a b) [z, TI, TO, i1, i2] z (fun i h => IsZip h z TI TO .none ∧ IsTupOf2 h TI (.ref i1) (.ref i2) ∧ (∃ x y, IsTupOf2 h TO x y) ∧ ItB t1 h i1 a i ∧ ItB t2 h i2 b i) where
  mem := by simp
  obj := fun i h st c hc => by
    obtain ⟨hz, hTI, ⟨x, y, hTO⟩, h1, h2⟩ := st
    obtain ⟨o1, e1, q1, d1⟩ := h1.obj
    obtain ⟨o2, e2, q2, d2⟩ := h2.obj
    have e' : c = z ∨ c = TI ∨ c = TO ∨ c = i1 ∨ c = i2 := by simpa using hc
    rcases e' with q | q | q | q | q <;> subst q
    · exact ⟨_, hz, fun v q => nomatch q⟩
    · exact ⟨_, hTI, fun v q => nomatch q⟩
    · exact ⟨_, hTO, fun v q => nomatch q⟩
    · exact ⟨o1, e1, fun v q => by rw [d1] at q; cases q⟩
    · exact ⟨o2, e2, fun v q => by rw [d2] at q; cases q⟩
  keep := fun i h h' st k => by
    obtain ⟨hz, hTI, ⟨x, y, hTO⟩, h1, h2⟩ := st
    exact ⟨k _ (by simp) _ hz, k _ (by simp) _ hTI, ⟨x, y, k _ (by simp) _ hTO⟩, h1.to (k i1 (by simp)), h2.to (k i2 (by simp))⟩
  item := by
    intro X hP hw hK hc i pins s σ H E I hf st hg
    subst hP hw hK
    obtain ⟨hz, hTI, ⟨x0, y0, hTO⟩, h1, h2⟩ := st
    obtain ⟨xs, ys, hqx, hqy, hx, hy⟩ := hg
    have hh : X.A.handled = none := I.ok.hd hc
    obtain ⟨its, St1, rv, D1, s1, n1⟩ := drawsB I hh hqx h1 na
    obtain ⟨its2, St2, rv2, D2, s2, n2⟩ := drawsB I hh hqy h2 nb
    have hxe : xs[i]? = some xs[i] := List.getElem?_eq_getElem hx
    have hye : ys[i]? = some ys[i] := List.getElem?_eq_getElem hy
    obtain ⟨u, hu, ru⟩ := rv.get hxe
    obtain ⟨u2, hu2, ru2⟩ := rv2.get hye
    have hzl : z < s.heap.objs.size := Heap.lt_size hz
    refine wpAny_pyNext_zipD2_item S D1 D2 hz hTI hTO s1 s2 (by have := rv.length; simp; omega) (by have := rv2.length; simp; omega) fun v1 v2 h' tk e1 e2 z' TO' t1' t2' hT hsz hk => ?_
    have ev1 : v1 = u := Option.some.inj (e1.symm.trans (by simpa using hu))
    have ev2 : v2 = u2 := Option.some.inj (e2.symm.trans (by simpa using hu2))
    subst ev1 ev2
    refine ⟨_, rfl, wpAny_letOwnedTupleGo_zip (s := { s with heap := h', toks := tk }) z' fun h'' z'' sb => ?_⟩
    have hT2 : h''.get? s.heap.objs.size = some { cls := .type "tuple", data := .seq #[v1, v2] } := (sb.2 _ (Nat.ne_of_gt hzl)).trans hT
    have made : ObjOk X.prog X.w (upd H s.heap.objs.size (.tup [xs[i], ys[i]])) h'' s.heap.objs.size (.tup [xs[i], ys[i]]) := ⟨(by show 2 ≤ sizeLine; decide), [v1, v2], .cons ru (.cons ru2 .nil), _, hT2, rfl, _, rfl⟩
    have old : ∀ c, c ∈ [z, TI, TO, i1, i2] → c < s.heap.objs.size := fun c hcm => by
      have e' : c = z ∨ c = TI ∨ c = TO ∨ c = i1 ∨ c = i2 := by simpa using hcm
      rcases e' with q | q | q | q | q <;> rw [q]
      · exact hzl
      · exact Heap.lt_size hTI
      · exact Heap.lt_size hTO
      · obtain ⟨_, e, _⟩ := h1.obj; exact Heap.lt_size e
      · obtain ⟨_, e, _⟩ := h2.obj; exact Heap.lt_size e
    have I1 : Inv X pins σ (upd H s.heap.objs.size (.tup [xs[i], ys[i]])) { s with heap := h'', toks := tk } :=
      I.turnedNew (ch := [z, TI, TO, i1, i2]) (fun c o nb q => by
        have out : c ≠ z ∧ c ≠ TI ∧ c ≠ TO ∧ c ≠ i1 ∧ c ≠ i2 := by simpa using nb
        exact (sb.2 c out.1).trans (hk c o out.1 out.2.2.1 out.2.2.2.1 out.2.2.2.2 q)) hf (Nat.le_refl _) made
    refine ⟨.ref s.heap.objs.size, _, I1, rfl, ⟨_, xs[i], ys[i], rfl, I.hok.fresh (Nat.le_refl _), rfl, fun l hl => (congrArg (·[i]?) (hqx.one I hl)).symm.trans hxe, fun l hl => (congrArg (·[i]?) (hqy.one I hl)).symm.trans hye⟩,
      ⟨z'', (sb.2 _ S.TIz).trans (hk _ _ S.TIz S.TITO S.TIi1 S.TIi2 hTI), ⟨v1, v2, (sb.2 _ S.TOz).trans TO'⟩, (n1 _ t1').to fun o q => (sb.2 _ S.zi1.symm).trans q, (n2 _ t2').to fun o q => (sb.2 _ S.zi2.symm).trans q⟩, fun c hcm => ?_⟩
    rw [upd_ne (Nat.ne_of_lt (old c hcm))]
    exact (hf c hcm).1
  done := by
    intro X hP hw hK hc i pins s σ H E I hf st hg
    subst hP hw hK
    obtain ⟨hz, hTI, ⟨x0, y0, hTO⟩, h1, h2⟩ := st
    obtain ⟨xs, ys, hqx, hqy, hlx, hly, hend⟩ := hg
    have hh : X.A.handled = none := I.ok.hd hc
    obtain ⟨its, St1, rv, D1, s1, n1⟩ := drawsB I hh hqx h1 na
    obtain ⟨its2, St2, rv2, D2, s2, n2⟩ := drawsB I hh hqy h2 nb
    have l1 := rv.length
    have l2 := rv2.length
    refine wpAny_pyNext_zipD2_end S D1 D2 hz hTI hTO s1 s2 (by simp; omega) (by simp; omega) (by simp; omega) fun h' tk hk => ⟨rfl, I.turnedL (t' := tk) (ch := [z, TI, TO, i1, i2]) (fun c o nb q => ?_) hf⟩
    have out : c ≠ z ∧ c ≠ TI ∧ c ≠ TO ∧ c ≠ i1 ∧ c ≠ i2 := by simpa using nb
    exact hk c o out.1 out.2.2.1 out.2.2.2.1 out.2.2.2.2 q
  self := fun A i s Q E st h => wpAny_pyIter_zip st.1 h
def iZipM (K : PySem.W.Frag) (t1 t2 : Bool) (ta : TA) : TI := fun σ H R => ta σ H fun vs H1 => ∃ a b xs ys, vs = [.ref a, .ref b] ∧ SqB t1 K H1 a xs ∧ SqB t2 K H1 b ys ∧ R (ItM t1 t2 K a b) H1
theorem nin2 {x y z : Nat} (h1 : x ≠ y) (h2 : x ≠ z) : x ∉ [y, z] := by simp [h1, h2]
theorem nin2' {x y z : Nat} (h1 : x ≠ y) (h2 : x ≠ z) : ¬ (x : Addr) ∈ ([y, z] : List Addr) := nin2 h1 h2
theorem sepZ {n a b : Nat} (ha : a < n) (hb : b < n) : ZipSep2 (n + 4) (n + 2) (n + 3) n (n + 1) [n, a] [n + 1, b] :=
  have e1 : n + 2 ≠ n + 4 := by omega
  have e2 : n + 3 ≠ n + 4 := by omega
  have e3 : n + 2 ≠ n + 3 := by omega
  have e4 : n + 2 ≠ n := by omega
  have e5 : n + 2 ≠ n + 1 := by omega
  have f1 : n + 4 ≠ n := by omega
  have f2 : n + 4 ≠ a := by omega
  have f3 : n + 3 ≠ n := by omega
  have f4 : n + 3 ≠ a := by omega
  have f5 : n + 4 ≠ n + 1 := by omega
  have f6 : n + 4 ≠ b := by omega
  have f7 : n + 3 ≠ n + 1 := by omega
  have f8 : n + 3 ≠ b := by omega
  have f9 : n ≠ n + 1 := by omega
  have g1 : n ≠ b := by omega
  have g2 : n + 1 ≠ n := by omega
  have g3 : n + 1 ≠ a := by omega
  ⟨e1, e2, e3, e4, List.mem_cons_self .., nin2' f1 f2, nin2' f3 f4, e5, List.mem_cons_self .., nin2' f5 f6, nin2' f7 f8, nin2' f9 g1, nin2' g2 g3⟩
theorem pi_zipM {X : Cx} (t1 t2 : Bool) {e e2 : Expr} {ta : TA} {p pos tpos : Pos} {elts : List Expr} {kk : Nat} (hg : Gl X "zip") (hm : X.mg "zip" = none) (ha : PA X [e, e2] ta)
    (hs : starEach [e, e2] X.env = (false, eval e X.env) :: starEach [e2] X.env := by rfl) (hpl : (backTo pos (starEach [e2] X.env)).any (·.1) = false := by rfl) :
    PI X (.Tuple elts kk tpos) (.Call (.Name "zip" p) [e, e2] [] pos) (iZipM X.K t1 t2 ta) := by
  refine ⟨fun pins s σ H R I h => Call_ (ld_blt I hg hm PyProof.Rows.boot_zip (PyProof.Rows.callWith_type1 (thn (ha.run pos pins s σ H _ I h) fun us s1 ⟨vs, H1, I1, r1, q1⟩ => ?_) hs hpl))⟩
  obtain ⟨a, b, xs, ys, rfl, hqx, hqy, q⟩ := q1
  obtain _ | ⟨r, _ | ⟨r', _ | _⟩⟩ := r1
  cases r
  cases r'
  have beg : ∀ (t : Bool) (c : Addr) (zs : List V), SqB t X.K H1 c zs → ∃ (o : Obj) (Hh : Heap → Prop), Begins (.ref c) o Hh ∧ Hh s1.heap ∧ c < s1.heap.objs.size ∧ ∀ (h' : Heap) (it : Addr), h'.get? it = some o → ItB t h' it c 0 := fun t c zs hq => by
    unfold SqB at hq
    unfold ItB
    cases t with
    | true =>
      obtain ⟨items, _, p, _⟩ := I1.tuple hq
      obtain ⟨o, ho, _⟩ := id p
      exact ⟨_, _, begins_tuple c items.toArray, p, Heap.lt_size ho, fun h' it e => ⟨_, e, rfl, rfl⟩⟩
    | false =>
      obtain ⟨items, _, p, _⟩ := I1.list hq
      exact ⟨_, _, begins_list c items.toArray, p.isList, p.lt, fun h' it e => ⟨_, e, rfl, rfl⟩⟩
  obtain ⟨o1, P1, B1, p1, la, k1⟩ := beg t1 a xs hqx
  obtain ⟨o2, P2, B2, p2, lb, k2⟩ := beg t2 b ys hqy
  refine zip_begins2 B1 B2 p1 p2 fun h' hz hTI hTO g1 g2 hsz hk => wpAny_pyIter_zip hz ?_
  have I2 : Inv X pins σ H1 { s1 with heap := h' } := I1.kept (t' := s1.toks) hk
  refine ⟨s1.heap.objs.size + 4, [s1.heap.objs.size + 4, s1.heap.objs.size + 2, s1.heap.objs.size + 3, s1.heap.objs.size, s1.heap.objs.size + 1], _, _, H1, rfl, I2, turn_zipM (t1 := t1) (t2 := t2) (sepZ la lb) (Nat.ne_of_lt la) (Nat.ne_of_lt (Nat.lt_succ_of_lt lb)), ⟨hz, hTI, ⟨_, _, hTO⟩, k1 _ _ g1, k2 _ _ g2⟩, fun c hcm => ?_, q⟩
  have hle : s1.heap.objs.size ≤ c := by
    have e' : c = s1.heap.objs.size + 4 ∨ c = s1.heap.objs.size + 2 ∨ c = s1.heap.objs.size + 3 ∨ c = s1.heap.objs.size ∨ c = s1.heap.objs.size + 1 := by simpa using hcm
    rcases e' with z | z | z | z | z <;> rw [z]
    · exact Nat.le_add_right _ _
    · exact Nat.le_add_right _ _
    · exact Nat.le_add_right _ _
    · exact Nat.le_refl _
    · exact Nat.le_add_right _ _
  exact I1.fpOk hle (I1.hok.fresh hle)
theorem kPiZipM {X : Cx} {K : PySem.W.Frag} (t1 t2 : Bool) {e e2 : Expr} {ta : TA} {p pos tpos : Pos} {elts : List Expr} {kk : Nat} (h : X.K = K) (hg : Gl X "zip") (hm : X.mg "zip" = none) (ha : PA X [e, e2] ta)
    (hs : starEach [e, e2] X.env = (false, eval e X.env) :: starEach [e2] X.env := by rfl) (hpl : (backTo pos (starEach [e2] X.env)).any (·.1) = false := by rfl) :
    PI X (.Tuple elts kk tpos) (.Call (.Name "zip" p) [e, e2] [] pos) (iZipM K t1 t2 ta) := by subst h; exact pi_zipM t1 t2 hg hm ha hs hpl
theorem walk_zipM {t1 t2 : Bool} {K : PySem.W.Frag} {a b : Addr} {xs ys : List V} {n : Nat} (hx : xs.length = n) (hy : ys.length = n) : Walk (ItM t1 t2 K a b) n (fun H => SqB t1 K H a xs ∧ SqB t2 K H b ys) (YPair (fun i => xs[i]?) (fun i => ys[i]?)) := by
  refine ⟨fun i H hi q => ⟨xs, ys, q.1, q.2, by omega, by omega⟩, fun H q => ⟨xs, ys, q.1, q.2, by omega, by omega, .inl hx.symm⟩, fun i H v H' hi q y => ?_⟩
  obtain ⟨T, x, y, h1, h2, h3, h4, h5⟩ := y
  exact ⟨T, x, y, h1, h2, h3, h4 xs q.1, h5 ys q.2⟩
theorem wipe_in {σ : L2.St} {j : Nat} : ∀ {vs : List Nat}, j ∈ vs → j < σ.length → (wipe σ vs)[j]? = some none
  | v :: vs, h, hl => by
    show ((wipe σ vs).set v none)[j]? = some none
    by_cases e : v = j
    · subst e
      rw [List.getElem?_set_self (by rw [wipe_length]; exact hl)]
    · rw [List.getElem?_set_ne e]
      exact wipe_in ((List.mem_cons.mp h).resolve_left fun z => e z.symm) hl
/-- what stands in a slot that is wiped does not matter -/
theorem wipe_set {σ : L2.St} {i : Nat} {x : Option V} {vs : List Nat} (h : i ∈ vs) : wipe (σ.set i x) vs = wipe σ vs := by
  refine List.ext_getElem? fun j => ?_
  by_cases hl : j < σ.length
  · by_cases hj : j ∈ vs
    · rw [wipe_in hj (by rw [List.length_set]; exact hl), wipe_in hj hl]
    · rw [wipe_out hj, wipe_out hj, List.getElem?_set_ne (fun z => hj (by rw [← z]; exact h))]
  · rw [List.getElem?_eq_none (by rw [wipe_length, List.length_set]; omega), List.getElem?_eq_none (by rw [wipe_length]; omega)]
theorem wipe_wipe {σ : L2.St} {vs : List Nat} : wipe (wipe σ vs) vs = wipe σ vs := by
  refine List.ext_getElem? fun j => ?_
  by_cases hl : j < σ.length
  · by_cases hj : j ∈ vs
    · rw [wipe_in hj (by rw [wipe_length]; exact hl), wipe_in hj hl]
    · rw [wipe_out hj, wipe_out hj]
  · rw [List.getElem?_eq_none (by rw [wipe_length, wipe_length]; omega), List.getElem?_eq_none (by rw [wipe_length]; omega)]
end G
namespace G
open PySem PySem.Spec PyProof.Rows L2 Evl
/-! ## own classes of errors -/
def HasX (P : Program) (w : World) (K : PySem.W.Frag) (mg : Str → Option Value) (base : Heap) (k : Nat) (x : Str) (ps : List Str) (sp : Sp) : Prop :=
  ∃ (f : Addr) (fd : FuncData), FnOk P w K mg base (L2.CX P w) k f fd ps sp ∧ mg x = some (.ref f) ∧ PySem.W.keepIn K (.ref f) = true ∧ Binds K fd ps []
theorem passX0 {X : Cx} {P : Program} {w : World} : Passes (L2.CX P w) X (fun _ _ _ => False) := fun _ _ _ _ _ _ _ h => by
  obtain ⟨_, _, _, _, _, _, _, _, _, _, _, _, h⟩ := h
  exact h.elim
/-- an own class over ValueError without __init__, at C -/
structure ExcT (K : PySem.W.Frag) (mg : Str → Option Value) (x : Str) (C : Addr) : Prop where
  gC : mg x = some (.ref C)
  xP : PySem.W.excIn K C [.type "ValueError", .type "Exception", .type "BaseException", .type "object"] "ValueError.__new__" = true
  kC : PySem.W.keepIn K (.ref C) = true
  bC : PySem.W.subIn K (.ref C) (.type "BaseException") = some true
  tC : PySem.W.typeIn K (.ref C) = some (.type "type")
/-- what an except clause asks of the class that it names -/
structure ExcH (K : PySem.W.Frag) (mg : Str → Option Value) (x : Str) (C : Addr) : Prop where
  u : ExcT K mg x C
  dict : PySem.W.hasDictIn K C = true
  self : PySem.W.subIn K (.ref C) (.ref C) = some true
theorem ExcH.hit {K : PySem.W.Frag} {mg : Str → Option Value} {x : Str} {C : Addr} (U : ExcH K mg x C) : PySem.W.exmOne K (.ref C) (.ref C) = some true := PySem.W.exm_ref U.u.bC U.dict U.u.tC U.self
end G
namespace G
open PySem PySem.Spec PyProof.Rows L2 Evl TL
/-! ## == of circuits but for the ranges, as data -/
def rTupOf (K : PySem.W.Frag) : List V → Hp → VK → Prop := fun xs H Q => ∃ p ys, xs = [.ref p] ∧ ((SqL K H p ys ∧ ∀ l, H l = none → Q (.ref l) (upd H l (.tup ys))) ∨ (SqT K H p ys ∧ Q (.ref p) H))
theorem kTupOf {X : Cx} {K : PySem.W.Frag} (h : X.K = K) : CallR X (.type "tuple") (rTupOf K) := by subst h; exact call_tuple_of
instance decIIB : DecidableEq (Int × Int × Bool) := inferInstance
instance decPIIB : DecidableEq ((Int × Int) × (Int × Int) × Int × Int × Bool) := inferInstance
instance decReg : DecidableEq (Str × Str × (Int × Int) × (Int × Int) × Int × Int × Bool) := inferInstance
instance decGate : DecidableEq (Str × List Bool × List Str) := inferInstance
theorem eqvAll_map {α β : Type} [DecidableEq β] {f : α → PyData} {g : α → β} (h : ∀ x y, PyData.eqv (f x) (f y) = decide (g x = g y)) : ∀ l m : List α, PyData.eqvAll (l.map f) (m.map f) = decide (l.map g = m.map g)
  | [], [] => by simp [PyData.eqvAll]
  | [], y :: m => by simp [PyData.eqvAll]
  | x :: l, [] => by simp [PyData.eqvAll]
  | x :: l, y :: m => by
    simp only [List.map_cons, PyData.eqvAll, h x y, eqvAll_map h l m, List.cons.injEq, Bool.decide_and]
def strsP (ns : List Str) : PyData := .tuple (ns.map .str)
def tabP (bs : List Bool) : PyData := .tuple (bs.map .bool)
def pairP (p : Int × Int) : PyData := .tuple [.int p.1, .int p.2]
def gateP (g : GateD) : PyData := .tuple [.str g.name, tabP g.tab, strsP g.pins]
def regP (r : RegD) : PyData := .tuple [.str r.name, .str r.net, pairP r.edge, pairP r.out, .int r.setup, .int r.hold, .bool r.start]
def outP (o : Str × Str) : PyData := .tuple [.str o.1, .str o.2]
def circP (d : CircD) : PyData := .tuple [strsP d.ins, .list (d.gates.map gateP), .tuple (d.regs.map regP), .tuple (d.outs.map outP)]
def gateS (g : GateD) : Str × List Bool × List Str := (g.name, g.tab, g.pins)
def regS (r : RegD) : Str × Str × (Int × Int) × (Int × Int) × Int × Int × Bool := (r.name, r.net, r.edge, r.out, r.setup, r.hold, r.start)
/-- all but the ranges -/
def stripD (d : CircD) : List Str × List (Str × List Bool × List Str) × List (Str × Str × (Int × Int) × (Int × Int) × Int × Int × Bool) × List (Str × Str) := (d.ins, d.gates.map gateS, d.regs.map regS, d.outs)
theorem eqv_strsP (a b : List Str) : PyData.eqv (strsP a) (strsP b) = decide (a = b) := by
  have := eqvAll_map (f := PyData.str) (g := fun x : Str => x) (fun x y => by simp only [PyData.eqv]; rw [Bool.eq_iff_iff]; simp) a b
  simp only [List.map_id'] at this
  simp only [strsP, PyData.eqv, this]
theorem eqv_tabP (a b : List Bool) : PyData.eqv (tabP a) (tabP b) = decide (a = b) := by
  have := eqvAll_map (f := PyData.bool) (g := fun x : Bool => x) (fun x y => by simp only [PyData.eqv]; cases x <;> cases y <;> rfl) a b
  simp only [List.map_id'] at this
  simp only [tabP, PyData.eqv, this]
theorem dec_beq {α : Type} [BEq α] [LawfulBEq α] [DecidableEq α] (a b : α) : (a == b) = decide (a = b) := by rw [Bool.eq_iff_iff]; simp
theorem eqv_pairP (a b : Int × Int) : PyData.eqv (pairP a) (pairP b) = decide (a = b) := by
  obtain ⟨a1, a2⟩ := a
  obtain ⟨b1, b2⟩ := b
  simp only [pairP, PyData.eqv, PyData.eqvAll, Bool.and_true, Prod.mk.injEq, Bool.decide_and, dec_beq]
theorem eqv_gateP (a b : GateD) : PyData.eqv (gateP a) (gateP b) = decide (gateS a = gateS b) := by
  have h1 := eqv_strsP a.pins b.pins
  have h2 := eqv_tabP a.tab b.tab
  simp only [gateP, gateS, PyData.eqv, PyData.eqvAll, Bool.and_true, Prod.mk.injEq, Bool.decide_and, dec_beq, h1, h2]
theorem eqv_regP (a b : RegD) : PyData.eqv (regP a) (regP b) = decide (regS a = regS b) := by
  have h1 := eqv_pairP a.edge b.edge
  have h2 := eqv_pairP a.out b.out
  simp only [regP, regS, PyData.eqv, PyData.eqvAll, Bool.and_true, Prod.mk.injEq, Bool.decide_and, dec_beq, h1, h2]
theorem eqv_outP (a b : Str × Str) : PyData.eqv (outP a) (outP b) = decide (a = b) := by
  obtain ⟨a1, a2⟩ := a
  obtain ⟨b1, b2⟩ := b
  simp only [outP, PyData.eqv, PyData.eqvAll, Bool.and_true, Prod.mk.injEq, Bool.decide_and, dec_beq]
theorem eqv_circP (d e : CircD) : PyData.eqv (circP d) (circP e) = decide (stripD d = stripD e) := by
  have h1 := eqv_strsP d.ins e.ins
  have h2 := eqvAll_map eqv_gateP d.gates e.gates
  have h3 := eqvAll_map eqv_regP d.regs e.regs
  have h4 := eqvAll_map (f := outP) (g := fun x => x) eqv_outP d.outs e.outs
  simp only [List.map_id'] at h4
  simp only [circP, stripD, PyData.eqv, PyData.eqvAll, Bool.and_true, Prod.mk.injEq, Bool.decide_and, h1, h2, h3, h4]
/-! ### its texts are texts -/
structure CircTx (d : CircD) : Prop where
  ins : ∀ x ∈ d.ins, PyData.strOk x = true
  gates : ∀ g ∈ d.gates, PyData.strOk g.name = true ∧ ∀ x ∈ g.pins, PyData.strOk x = true
  regs : ∀ r ∈ d.regs, PyData.strOk r.name = true ∧ PyData.strOk r.net = true
  outs : ∀ o ∈ d.outs, PyData.strOk o.1 = true ∧ PyData.strOk o.2 = true
theorem lay_map {α : Type} {f : α → PyData} {n : Nat} : ∀ {l : List α}, (∀ x ∈ l, (f x).canLay0 = true ∧ (f x).depth ≤ n) → PyData.canLayAll0 (l.map f) = true ∧ PyData.depthAll (l.map f) ≤ n
  | [], _ => ⟨rfl, Nat.zero_le _⟩
  | x :: r, h => by
    have ih := lay_map (l := r) fun y hy => h y (List.mem_cons_of_mem _ hy)
    have hx := h x (List.mem_cons_self ..)
    constructor
    · simp [PyData.canLayAll0, hx.1, ih.1]
    · simp only [List.map_cons, PyData.depthAll]; have := hx.2; have := ih.2; omega
theorem lay_strsP {ns : List Str} (h : ∀ x ∈ ns, PyData.strOk x = true) : (strsP ns).canLay0 = true ∧ (strsP ns).depth ≤ 1 := by
  have := lay_map (f := PyData.str) (n := 0) (l := ns) fun x hx => ⟨by simp [PyData.canLay0, h x hx], by simp [PyData.depth]⟩
  refine ⟨by simp only [strsP, PyData.canLay0, this.1], ?_⟩
  simp only [strsP, PyData.depth]; omega
theorem lay_tabP (bs : List Bool) : (tabP bs).canLay0 = true ∧ (tabP bs).depth ≤ 1 := by
  have := lay_map (f := PyData.bool) (n := 0) (l := bs) fun x hx => ⟨by simp [PyData.canLay0], by simp [PyData.depth]⟩
  refine ⟨by simp only [tabP, PyData.canLay0, this.1], ?_⟩
  simp only [tabP, PyData.depth]; omega
theorem shaped_circP {d : CircD} (h : CircTx d) : SeqAt.shaped (circP d) = true := by
  have h1 := lay_strsP h.ins
  have h2 := lay_map (f := gateP) (n := 2) (l := d.gates) fun g hg => by
    have a := lay_tabP g.tab
    have b := lay_strsP (h.gates g hg).2
    refine ⟨by simp [gateP, PyData.canLay0, PyData.canLayAll0, a.1, b.1, (h.gates g hg).1], ?_⟩
    simp only [gateP, PyData.depth, PyData.depthAll]; have := a.2; have := b.2; omega
  have h3 := lay_map (f := regP) (n := 2) (l := d.regs) fun r hr => by
    refine ⟨by simp [regP, pairP, PyData.canLay0, PyData.canLayAll0, (h.regs r hr).1, (h.regs r hr).2], ?_⟩
    simp [regP, pairP, PyData.depth, PyData.depthAll]
  have h4 := lay_map (f := outP) (n := 1) (l := d.outs) fun o ho => by
    refine ⟨by simp [outP, PyData.canLay0, PyData.canLayAll0, (h.outs o ho).1, (h.outs o ho).2], ?_⟩
    simp [outP, PyData.depth, PyData.depthAll]
  unfold SeqAt.shaped
  rw [Bool.and_eq_true]
  refine ⟨by simp [circP, PyData.canLay0, PyData.canLayAll0, h1.1, h2.1, h3.1, h4.1], decide_eq_true ?_⟩
  simp only [circP, PyData.depth, PyData.depthAll]
  have := h1.2; have := h2.2; have := h3.2; have := h4.2
  omega
theorem dpAll_all2 {K : PySem.W.Frag} {H : Hp} {R : Addr → β → Prop} {f : β → PyData} (h : ∀ a b, R a b → Dp K H (.ref a) (f b)) : ∀ {as : List Addr} {bs : List β}, All2 R as bs → DpAll K H (as.map V.ref) (bs.map f)
  | [], [], _ => .nil
  | a :: as, b :: bs, z => .cons (h a b (z.2 0 a b rfl rfl)) (dpAll_all2 h ⟨Nat.succ.inj z.1, fun i x y hx hy => z.2 (i + 1) x y hx hy⟩)
  | [], b :: bs, z => nomatch z.1
  | a :: as, [], z => nomatch z.1
theorem dp_strsT {K : PySem.W.Frag} {H : Hp} {a : Addr} {ns : List Str} (h : H a = some (.tup (ns.map V.str))) : Dp K H (.ref a) (strsP ns) := .tup (SqT.of h) (dpAll_map (fun i => .str i) ns)
theorem dp_tabT {K : PySem.W.Frag} {H : Hp} {a : Addr} {bs : List Bool} (h : H a = some (.tup (bs.map V.bl))) : Dp K H (.ref a) (tabP bs) := .tup (SqT.of h) (dpAll_map (fun i => .bl i) bs)
theorem dp_pairT {K : PySem.W.Frag} {H : Hp} {a : Addr} {p : Int × Int} (h : IntsAt H a p) : Dp K H (.ref a) (pairP p) := .tup (SqT.of h) (.cons (.int _) (.cons (.int _) .nil))
theorem dp_regT {K : PySem.W.Frag} {H : Hp} {a : Addr} {r : RegD} (h : RegAt H a r) : Dp K H (.ref a) (regP r) := by
  obtain ⟨ea, oa, h1, h2, h3⟩ := h
  exact .tup (SqT.of h1) (.cons (.str _) (.cons (.str _) (.cons (dp_pairT h2) (.cons (dp_pairT h3) (.cons (.int _) (.cons (.int _) (.cons (.bl _) .nil)))))))
theorem dp_outT {K : PySem.W.Frag} {H : Hp} {a : Addr} {o : Str × Str} (h : OutAt H a o) : Dp K H (.ref a) (outP o) := .tup (SqT.of h) (.cons (.str _) (.cons (.str _) .nil))
/-- a gate without its ranges, at a -/
def CutAt (H : Hp) (a : Addr) (g : GateD) : Prop := ∃ (t pt : Addr), H a = some (.tup [.str g.name, .ref t, .ref pt]) ∧ H t = some (.tup (g.tab.map V.bl)) ∧ H pt = some (.tup (g.pins.map V.str))
theorem dp_cutT {K : PySem.W.Frag} {H : Hp} {a : Addr} {g : GateD} (h : CutAt H a g) : Dp K H (.ref a) (gateP g) := by
  obtain ⟨t, pt, h1, h2, h3⟩ := h
  exact .tup (SqT.of h1) (.cons (.str _) (.cons (dp_tabT h2) (.cons (dp_strsT h3) .nil)))
theorem CutAt.ex {H H' : Hp} {a : Addr} {g : GateD} (e : Ex H H') (h : CutAt H a g) : CutAt H' a g := by
  obtain ⟨t, pt, h1, h2, h3⟩ := h
  exact ⟨t, pt, e _ _ h1, e _ _ h2, e _ _ h3⟩
end G
namespace G
open PySem PySem.Spec PyProof.Rows L2 Evl TL
/-! ## circuits with other ranges -/
def RowAt (H : Hp) (a : Addr) (r : List (Int × Int)) : Prop := ∃ pl : List Addr, (H a = some (.lst (pl.map V.ref)) ∨ H a = some (.tup (pl.map V.ref))) ∧ All2 (IntsAt H) pl r
def withD (gs : List GateD) (R : List (List (Int × Int))) : List GateD := List.zipWith (fun g r => { g with rng := r }) gs R
theorem withD_snoc {gs : List GateD} {R : List (List (Int × Int))} {j : Nat} {g : GateD} {r : List (Int × Int)} (hg : gs[j]? = some g) (hr : R[j]? = some r) : withD (gs.take (j + 1)) (R.take (j + 1)) = withD (gs.take j) (R.take j) ++ [{ g with rng := r }] := by
  have h1 := (List.getElem?_eq_some_iff.mp hg).1
  have h2 := (List.getElem?_eq_some_iff.mp hr).1
  unfold withD
  rw [take_snoc1 hg, take_snoc1 hr, List.zipWith_append (by rw [List.length_take, List.length_take]; omega)]
  rfl
structure TxtA (mg : Str → Option Value) : Prop where
  zip : mg "zip" = none
  tuple : mg "tuple" = none
section
variable {P : Program} {w : World} {K : PySem.W.Frag} {mg : Str → Option Value} {base : Heap}
def spWith : Sp := fun vs H Q _ => ∃ (c l : Addr) (d : CircD) (R : List (List (Int × Int))) (rl : List Addr) (it gt rt ot : Addr) (ga ra oa : List Addr), vs = [.ref c, .ref l] ∧ CircAt H c d it gt rt ot ga ra oa ∧ H l = some (.lst (rl.map V.ref)) ∧ All2 (RowAt H) rl R ∧ R.length = d.gates.length ∧ d.gates.length ≤ 1000 ∧
  ∀ (c' gt' : Addr) (ga' : List Addr) (H' : Hp), Ex H H' → H c' = none → CircAt H' c' { d with gates := withD d.gates R } it gt' rt ot ga' ra oa → Q (.ref c') H'
theorem sc_with_ranges : FnScope ["circuit", "rows", "inputs", "gates", "regs", "outputs", "changed", "row", "name", "table", "nets", "_"] ["circuit", "rows"] (defScope s_with_ranges) := ⟨rfl, rfl, rfl, by decide +kernel, rfl, by decide +kernel, by decide +kernel⟩
theorem ok_with_ranges (D : Dfd K mg "with_ranges" s_with_ranges ["circuit", "rows"]) (T : TxtA mg) : Has P w K mg base 1 "with_ranges" ["circuit", "rows"] spWith := by
  refine D.has fun f fd F => F.ok sc_with_ranges (fun vs H Q E h => ?_) (fun cdv A outer s H vs Q E hr h => ?_)
  · obtain ⟨c, l, d, R, rl, it, gt, rt, ot, ga, ra, oa, rfl, _⟩ := h
    rfl
  · obtain ⟨c, l, d, R, rl, it, gt, rt, ot, ga, ra, oa, rfl, hc, hl, hR, hRl, hn, q⟩ := h
    refine ⟨_, (pss_cons (ps_asg (pv 0) (pg_tup rfl (pgs_cons (pg_name (i := 2) sc_with_ranges.nd rfl (.inl rfl)) (pgs_cons (pg_name (i := 3) sc_with_ranges.nd rfl (.inl rfl)) (pgs_cons (pg_name (i := 4) sc_with_ranges.nd rfl (.inl rfl)) (pgs_cons (pg_name (i := 5) sc_with_ranges.nd rfl (.inl rfl)) pgs_nil))))))
    (pss_cons (ps_setLc (i := 6) (own := [("row", 7), ("name", 8), ("table", 9), ("nets", 10), ("_", 11)]) (g := gTup K 2 (gCons (gTup K 4 (gCons (gName 8) (gCons (gName 9) (gCons (gName 10) (gCons (gName 11) gNil))))) (gCons (gName 7) gNil))) (tt := tYes) rfl sc_with_ranges.nd rfl rfl (sw_true rfl rfl rfl (by decide +kernel)) (pi_zipM true false (by rfl) T.zip (pa_cons (pv 3) (pa_cons (pv 1) pa_nil))) (blkOk_by (N := ["circuit", "rows", "inputs", "gates", "regs", "outputs", "changed", "row", "name", "table", "nets", "_"]) (sc := defScope s_with_ranges) (own := [("row", 7), ("name", 8), ("table", 9), ("nets", 10), ("_", 11)]) (by decide +kernel)) (fun _ _ _ _ _ => (pg_tup rfl (pgs_cons (pg_tup rfl (pgs_cons (pg_name (i := 8) sc_with_ranges.nd rfl (.inl rfl)) (pgs_cons (pg_name (i := 9) sc_with_ranges.nd rfl (.inl rfl)) (pgs_cons (pg_name (i := 10) sc_with_ranges.nd rfl (.inl rfl)) (pgs_cons (pg_name (i := 11) sc_with_ranges.nd rfl (.inl rfl)) pgs_nil))))) (pgs_cons (pg_name (i := 7) sc_with_ranges.nd rfl (.inl rfl)) pgs_nil)))) (fun _ _ _ _ _ => pts_nil) (fun _ _ _ _ _ => (pe_tup (pa_cons (pv 8) (pa_cons (pv 9) (pa_cons (pv 10) (pa_cons (pe_callTy (kTupOf (K := K) rfl) (by rfl) T.tuple (by decide +kernel) (pa_cons (pv 7) pa_nil)) pa_nil)))))))
    (pss_one (ps_ret (pe_tup (pa_cons (pv 2) (pa_cons (pe_callTy call_tuple_of (by rfl) T.tuple (by decide +kernel) (pa_cons (pv 6) pa_nil)) (pa_cons (pv 4) (pa_cons (pv 5) pa_nil))))))))), ?_⟩
    refine ⟨_, rfl, c, _, rfl, SqT.of hc.top, rfl, _, _, rfl, _, _, rfl, _, _, rfl, _, _, rfl, rfl, ?_⟩
    have hgl := hc.gates.1
    refine ⟨_, rfl, _, rfl, gt, l, ga.map V.ref, rl.map V.ref, rfl, SqT.of hc.gts, SqL.of hl, fun L nL => wk_it (walk_zipM (n := d.gates.length) (by rw [List.length_map]; exact hgl) (by rw [List.length_map, hR.1, hRl]))
      (fun j H' => Ex H H' ∧ ∃ as : List Addr, H' L = some (.lst (as.map V.ref)) ∧ All2 (GateAt (hid L H')) as (withD (d.gates.take j) (R.take j))) ⟨Ex.new nL, [], upd_same, by rw [List.take_zero, List.take_zero]; exact .nil⟩ (fun j H' _ g => ⟨SqT.of (g.1 _ _ hc.gts), SqL.of (g.1 _ _ hl)⟩) ?_ ?_⟩
    · rintro j x H3 H4 hj ⟨E3, as, hL, hA⟩ ⟨T1, x0, y0, rfl, nT, rfl, hx, hy⟩
      obtain ⟨b, hb, rfl⟩ := refs_get hx
      obtain ⟨p, hp, rfl⟩ := refs_get hy
      obtain ⟨g, hg, t, pt, rgt, rga, hg1, hg2, hg3, hg4, hg5⟩ := hc.gates.at_ hb
      obtain ⟨r, hr, pl, hp1, hp2⟩ := hR.at_ hp
      have E4 : Ex H3 (upd H3 T1 (.tup [.ref b, .ref p])) := Ex.new nT
      have e34 := E3.trans E4
      refine ⟨T1, _, rfl, SqT.of upd_same, rfl, _, _, rfl, b, _, rfl, SqT.of (e34 _ _ hg1), rfl, _, _, rfl, _, _, rfl, _, _, rfl, _, _, rfl, rfl, _, _, rfl, rfl, (by rw [wipe_set (by decide), wipe_set (by decide), wipe_set (by decide), wipe_set (by decide), wipe_set (by decide), wipe_wipe]), tYes_in ?_⟩
      generalize upd H3 T1 (.tup [.ref b, .ref p]) = H4 at *
      simp only [wipe, _root_.L2.start, List.map_cons, List.map_nil, List.length_cons, List.length_nil, Nat.reduceAdd, Nat.reduceSub, List.replicate_succ, List.replicate_zero, List.cons_append, List.nil_append, List.set_cons_zero, List.set_cons_succ]
      have nLH3 : ∀ {c : Addr}, H4 c = none → L ≠ c := fun {c} z => ne_of_none (E4 _ _ hL) z
      have fin : ∀ (rt' : Addr) (H5 : Hp), Ex H4 H5 → H5 rt' = some (.tup (pl.map V.ref)) → ∀ c, H5 c = none → ∃ acc, upd H5 c (.tup [.str g.name, .ref t, .ref pt, .ref rt']) L = some (.lst acc) ∧ acc.length < sizeLine ∧
          Ex H (upd (upd H5 c (.tup [.str g.name, .ref t, .ref pt, .ref rt'])) L (.lst (acc ++ [.ref c]))) ∧ ∃ as : List Addr, upd (upd H5 c (.tup [.str g.name, .ref t, .ref pt, .ref rt'])) L (.lst (acc ++ [.ref c])) L = some (.lst (as.map V.ref)) ∧ All2 (GateAt (hid L (upd (upd H5 c (.tup [.str g.name, .ref t, .ref pt, .ref rt'])) L (.lst (acc ++ [.ref c]))))) as (withD (d.gates.take (j + 1)) (R.take (j + 1))) := fun rt' H5 E5 hrt c nc => by
        have E6 : Ex H5 (upd H5 c (.tup [.str g.name, .ref t, .ref pt, .ref rt'])) := Ex.new nc
        have e46 := E5.trans E6
        have hc6 : upd H5 c (.tup [.str g.name, .ref t, .ref pt, .ref rt']) c = some (.tup [.str g.name, .ref t, .ref pt, .ref rt']) := upd_same
        have nLc : L ≠ c := ne_of_none ((E4.trans E5) _ _ hL) nc
        have hrt6 := E6 _ _ hrt
        generalize upd H5 c (.tup [.str g.name, .ref t, .ref pt, .ref rt']) = H6 at *
        have hL6 := (E4.trans e46) _ _ hL
        have e06 := e34.trans e46
        have tl : ∀ {q : Addr} {xs : List V}, H6 q = some (.tup xs) → hid L H6 q = some (.tup xs) := fun {q xs} z => by rw [hid_ne (ne_of z hL6 (by intro y; cases y))]; exact z
        refine ⟨_, hL6, sz_lt (by rw [List.length_map, hA.1]; unfold withD; rw [List.length_zipWith, List.length_take, List.length_take]; omega), e06.mut nL, as ++ [c], by rw [upd_same, List.map_append]; rfl, ?_⟩
        rw [hid_upd, withD_snoc hg hr]
        refine (hA.imp fun _ _ z => z.te fun q xs hq => ?_).snoc ⟨t, pt, rt', pl, tl hc6, tl (e06 _ _ hg2), tl (e06 _ _ hg3), tl hrt6, hp2.imp fun _ _ z => tl (e06 _ _ z)⟩
        exact tl ((E4.trans e46) _ _ (hid_get hq))
      refine ⟨_, rfl, _, rfl, _, rfl, _, rfl, p, pl.map V.ref, rfl, ?_⟩
      rcases hp1 with h1 | h1
      · refine .inl ⟨SqL.of (e34 _ _ h1), fun rt' nrt => ⟨(by show 4 ≤ sizeLine; decide), fun c nc => ?_⟩⟩
        exact fin rt' _ (Ex.new nrt) upd_same c nc
      · exact .inr ⟨SqT.of (e34 _ _ h1), (by show 4 ≤ sizeLine; decide), fun c nc => fin p H4 (.refl _) (e34 _ _ h1) c nc⟩
    · rintro H3 ⟨E3, as, hL, hA⟩
      rw [List.take_length, show R.take d.gates.length = R by rw [← hRl, List.take_length]] at hA
      refine ⟨_, rfl, _, rfl, L, _, rfl, .inl ⟨SqL.of hL, fun gt' ngt => ?_⟩⟩
      have E4 : Ex H3 (upd H3 gt' (.tup (as.map V.ref))) := Ex.new ngt
      have hg4 : upd H3 gt' (.tup (as.map V.ref)) gt' = some (.tup (as.map V.ref)) := upd_same
      generalize upd H3 gt' (.tup (as.map V.ref)) = H4 at *
      refine ⟨_, rfl, _, rfl, (by show 4 ≤ sizeLine; decide), fun c' nc => ?_⟩
      have E5 : Ex H4 (upd H4 c' (.tup [.ref it, .ref gt', .ref rt, .ref ot])) := Ex.new nc
      have e35 := E4.trans E5
      have e05 := E3.trans e35
      have hcx := hc.te (.of e05)
      exact q c' gt' as _ e05 (fresh_back (E3.trans E4) nc) ⟨upd_same, hcx.ins, E5 _ _ hg4, hcx.rgs, hcx.ots, hA.imp fun _ _ z => z.te (.of (hid_ex.trans e35)), hcx.regs, hcx.outs⟩
end
end G
namespace G
open PySem PySem.Spec PyProof.Rows L2 Evl TL
section
variable {P : Program} {w : World} {K : PySem.W.Frag} {mg : Str → Option Value} {base : Heap}
/-- a circuit without its ranges, at x -/
def StripAt (H : Hp) (x : Addr) (d : CircD) : Prop := ∃ (it GL rt ot : Addr) (cs ra oa : List Addr), H x = some (.tup [.ref it, .ref GL, .ref rt, .ref ot]) ∧ H it = some (.tup (d.ins.map V.str)) ∧ H GL = some (.lst (cs.map V.ref)) ∧ All2 (CutAt H) cs d.gates ∧ H rt = some (.tup (ra.map V.ref)) ∧ All2 (RegAt H) ra d.regs ∧ H ot = some (.tup (oa.map V.ref)) ∧ All2 (OutAt H) oa d.outs
theorem StripAt.ex {H H' : Hp} {x : Addr} {d : CircD} (e : Ex H H') (h : StripAt H x d) : StripAt H' x d := by
  obtain ⟨it, GL, rt, ot, cs, ra, oa, h1, h2, h3, h4, h5, h6, h7, h8⟩ := h
  exact ⟨it, GL, rt, ot, cs, ra, oa, e _ _ h1, e _ _ h2, e _ _ h3, h4.imp fun _ _ z => z.ex e, e _ _ h5, h6.imp fun _ _ z => z.te (.of e), e _ _ h7, h8.imp fun _ _ z => e _ _ z⟩
theorem StripAt.dp {H : Hp} {x : Addr} {d : CircD} (h : StripAt H x d) : Dp K H (.ref x) (circP d) := by
  obtain ⟨it, GL, rt, ot, cs, ra, oa, h1, h2, h3, h4, h5, h6, h7, h8⟩ := h
  exact .tup (SqT.of h1) (.cons (dp_strsT h2) (.cons (.lst (SqL.of h3) (dpAll_all2 (fun _ _ z => dp_cutT z) h4)) (.cons (.tup (SqT.of h5) (dpAll_all2 (fun _ _ z => dp_regT z) h6)) (.cons (.tup (SqT.of h7) (dpAll_all2 (fun _ _ z => dp_outT z) h8)) .nil))))
def spStrip : Sp := fun vs H Q _ => ∃ (c : Addr) (d : CircD) (it gt rt ot : Addr) (ga ra oa : List Addr), vs = [.ref c] ∧ CircAt H c d it gt rt ot ga ra oa ∧ d.gates.length ≤ 1000 ∧ ∀ (x : Addr) (H' : Hp), Ex H H' → StripAt H' x d → Q (.ref x) H'
theorem sc_without_ranges : FnScope ["circuit", "inputs", "gates", "regs", "outputs", "gate"] ["circuit"] (defScope s_without_ranges) := ⟨rfl, rfl, rfl, by decide +kernel, rfl, by decide +kernel, by decide +kernel⟩
theorem ok_without_ranges (D : Dfd K mg "_without_ranges" s_without_ranges ["circuit"]) : Has P w K mg base 1 "_without_ranges" ["circuit"] spStrip := by
  refine D.has fun f fd F => F.ok sc_without_ranges (fun vs H Q E h => ?_) (fun cdv A outer s H vs Q E hr h => ?_)
  · obtain ⟨c, d, it, gt, rt, ot, ga, ra, oa, rfl, _⟩ := h
    rfl
  · obtain ⟨c, d, it, gt, rt, ot, ga, ra, oa, rfl, hc, hn, q⟩ := h
    refine ⟨_, (pss_cons (ps_asg (pv 0) (pg_tup rfl (pgs_cons (pg_name (i := 1) sc_without_ranges.nd rfl (.inl rfl)) (pgs_cons (pg_name (i := 2) sc_without_ranges.nd rfl (.inl rfl)) (pgs_cons (pg_name (i := 3) sc_without_ranges.nd rfl (.inl rfl)) (pgs_cons (pg_name (i := 4) sc_without_ranges.nd rfl (.inl rfl)) pgs_nil))))))
    (pss_one (ps_ret (pe_tup (pa_cons (pv 1) (pa_cons (pe_lc (own := [("gate", 5)]) (g := gName 5) (tt := tYes) rfl sc_without_ranges.nd (pi_tup (pv 2)) (blkOk_by (N := ["circuit", "inputs", "gates", "regs", "outputs", "gate"]) (sc := defScope s_without_ranges) (own := [("gate", 5)]) (by decide +kernel)) (fun _ _ _ _ _ => (pg_name (i := 5) sc_without_ranges.nd rfl (.inl rfl))) (fun _ _ _ _ _ => pts_nil) (fun _ _ _ _ _ => (pe_slice (kSlA (K := K) rfl) (pv 5) po_none (po_some pe_int)))) (pa_cons (pv 3) (pa_cons (pv 4) pa_nil)))))))), ?_⟩
    have hgl := hc.gates.1
    refine ⟨_, rfl, c, _, rfl, SqT.of hc.top, rfl, _, _, rfl, _, _, rfl, _, _, rfl, _, _, rfl, rfl, ?_⟩
    refine ⟨_, rfl, _, rfl, gt, rfl, ⟨_, SqT.of hc.gts⟩, fun L nL => wk_tup (K := K) (a := gt) (xs := ga.map V.ref) (fun j H' => Ex H H' ∧ ∃ as : List Addr, H' L = some (.lst (as.map V.ref)) ∧ All2 (CutAt (hid L H')) as (d.gates.take j)) ⟨Ex.new nL, [], upd_same, .nil⟩ (fun j H' _ g => SqT.of (g.1 _ _ hc.gts)) ?_ ?_⟩
    · rintro j x H3 hx ⟨E3, as, hL, hA⟩
      obtain ⟨b, hb, rfl⟩ := refs_get hx
      obtain ⟨g, hg, t, pt, rgt, rga, hg1, hg2, hg3, hg4, hg5⟩ := hc.gates.at_ hb
      have hj : j < d.gates.length := (List.getElem?_eq_some_iff.mp hg).1
      refine ⟨(by rw [wipe_set (by decide), wipe_wipe]), tYes_in ?_⟩
      simp only [wipe, _root_.L2.start, List.map_cons, List.map_nil, List.length_cons, List.length_nil, Nat.reduceAdd, Nat.reduceSub, List.replicate_succ, List.replicate_zero, List.cons_append, List.nil_append, List.set_cons_zero, List.set_cons_succ]
      refine ⟨_, rfl, ?_⟩
      unfold tNoPart
      dsimp only
      refine ⟨_, rfl, cut_tup (K := K) (E3 _ _ hg1) fun cc H4 E4 hcc => ?_⟩
      have e3 : cutV [V.str g.name, .ref t, .ref pt, .ref rgt] none (some 3) = [.str g.name, .ref t, .ref pt] := cutV_head (k := 3) (by show 3 ≤ 4; decide)
      rw [e3] at hcc
      have e34 := E3.trans E4
      have hL4 := E4 _ _ hL
      have tl : ∀ {q : Addr} {xs : List V}, H4 q = some (.tup xs) → hid L H4 q = some (.tup xs) := fun {q xs} z => by rw [hid_ne (ne_of z hL4 (by intro y; cases y))]; exact z
      refine ⟨_, hL4, sz_lt (by rw [List.length_map, hA.1, List.length_take]; omega), e34.mut nL, as ++ [cc], by rw [upd_same, List.map_append]; rfl, ?_⟩
      rw [hid_upd, take_snoc1 hg]
      refine (hA.imp fun _ _ z => ?_).snoc ⟨t, pt, tl hcc, tl (e34 _ _ hg2), tl (e34 _ _ hg3)⟩
      obtain ⟨t, pt, h1, h2, h3⟩ := z
      exact ⟨t, pt, tl (E4 _ _ (hid_get h1)), tl (E4 _ _ (hid_get h2)), tl (E4 _ _ (hid_get h3))⟩
    · rintro H3 ⟨E3, as, hL, hA⟩
      rw [List.length_map, hgl, List.take_length] at hA
      refine ⟨_, rfl, _, rfl, (by show 4 ≤ sizeLine; decide), fun x nx => ?_⟩
      have E4 : Ex H3 (upd H3 x (.tup [.ref it, .ref L, .ref rt, .ref ot])) := Ex.new nx
      have e := E3.trans E4
      have hc4 := hc.te (.of e)
      exact q x _ e ⟨it, L, rt, ot, as, ra, oa, upd_same, hc4.ins, E4 _ _ hL, hA.imp fun _ _ z => z.ex (hid_ex.trans E4), hc4.rgs, hc4.regs, hc4.ots, hc4.outs⟩
def spAlike : Sp := fun vs H Q _ => ∃ (c c2 : Addr) (d d2 : CircD) (it gt rt ot : Addr) (ga ra oa : List Addr) (it2 gt2 rt2 ot2 : Addr) (ga2 ra2 oa2 : List Addr), vs = [.ref c, .ref c2] ∧ CircAt H c d it gt rt ot ga ra oa ∧ CircAt H c2 d2 it2 gt2 rt2 ot2 ga2 ra2 oa2 ∧ d.gates.length ≤ 1000 ∧ d2.gates.length ≤ 1000 ∧ CircTx d ∧ CircTx d2 ∧
  ∀ (H' : Hp), Ex H H' → Q (.bl (decide (stripD d = stripD d2))) H'
theorem sc_alike : FnScope ["circuit", "other"] ["circuit", "other"] (defScope s_alike) := ⟨rfl, rfl, rfl, by decide +kernel, rfl, by decide +kernel, by decide +kernel⟩
theorem ok_alike (D : Dfd K mg "_alike" s_alike ["circuit", "other"]) (C1 : Has P w K mg base 1 "_without_ranges" ["circuit"] spStrip) : Has P w K mg base 2 "_alike" ["circuit", "other"] spAlike := by
  obtain ⟨f_without_ranges, d_without_ranges, G_without_ranges, g_without_ranges, k_without_ranges, b_without_ranges⟩ := C1
  refine D.has fun f fd F => F.ok sc_alike (fun vs H Q E h => ?_) (fun cdv A outer s H vs Q E hr h => ?_)
  · obtain ⟨c, c2, d, d2, it, gt, rt, ot, ga, ra, oa, it2, gt2, rt2, ot2, ga2, ra2, oa2, rfl, _⟩ := h
    rfl
  · obtain ⟨c, c2, d, d2, it, gt, rt, ot, ga, ra, oa, it2, gt2, rt2, ot2, ga2, ra2, oa2, rfl, hc, hc2, hn, hn2, tx, tx2, q⟩ := h
    refine ⟨_, (pss_one (ps_ret (pe_cmpR (op_eqD hr.units) (pe_call G_without_ranges (hr.mono (by omega)) (by rfl) g_without_ranges k_without_ranges b_without_ranges .nil pass0 (pa_cons (pv 0) pa_nil)) (pe_call G_without_ranges (hr.mono (by omega)) (by rfl) g_without_ranges k_without_ranges b_without_ranges .nil pass0 (pa_cons (pv 1) pa_nil)) (nomark _)))), ?_⟩
    refine ⟨_, rfl, c, d, it, gt, rt, ot, ga, ra, oa, rfl, hc, hn, fun x H1 E1 hx => ?_⟩
    refine ⟨_, rfl, c2, d2, it2, gt2, rt2, ot2, ga2, ra2, oa2, rfl, hc2.te (.of E1), hn2, fun y H2 E2 hy => ?_⟩
    refine ⟨_, _, (hx.ex E2).dp, hy.dp, shaped_circP tx, shaped_circP tx2, ?_⟩
    rw [eqv_circP]
    exact q H2 (E1.trans E2)
/-! ### one circuit within another -/
def okP (x : (Int × Int) × (Int × Int)) : Bool := !(decide (x.1.1 < x.2.1) || decide (x.1.2 > x.2.2))
def okG (x : GateD × GateD) : Bool := (x.1.rng.zip x.2.rng).all okP
def inD (d d2 : CircD) : Bool := (d.gates.zip d2.gates).all okG
theorem zip_all {α β : Type} {f : α × β → Bool} {l : List α} {m : List β} (h : ∀ (k : Nat) (x : α) (y : β), l[k]? = some x → m[k]? = some y → f (x, y) = true) : (l.zip m).all f = true := by
  rw [List.all_eq_true]
  intro z hz
  obtain ⟨k, hk, rfl⟩ := List.getElem_of_mem hz
  rw [List.length_zip] at hk
  rw [List.getElem_zip]
  exact h k _ _ (List.getElem?_eq_getElem (by omega)) (List.getElem?_eq_getElem (by omega))
theorem zip_not {α β : Type} {f : α × β → Bool} {l : List α} {m : List β} {k : Nat} {x : α} {y : β} (hx : l[k]? = some x) (hy : m[k]? = some y) (h : f (x, y) = false) : (l.zip m).all f = false := by
  rw [Bool.eq_false_iff]
  intro z
  have := List.all_eq_true.mp z (x, y) (List.mem_of_getElem? (i := k) (by rw [List.getElem?_zip_eq_some]; exact ⟨hx, hy⟩))
  rw [h] at this; cases this
theorem gates_of_strip {d d2 : CircD} (h : stripD d = stripD d2) : d.gates.map gateS = d2.gates.map gateS := congrArg (fun z => z.2.1) h
theorem gate_of_strip {d d2 : CircD} (h : stripD d = stripD d2) {k : Nat} {g g2 : GateD} (h1 : d.gates[k]? = some g) (h2 : d2.gates[k]? = some g2) : gateS g = gateS g2 := by
  have := congrArg (·[k]?) (gates_of_strip h)
  simp only [List.getElem?_map, h1, h2, Option.map_some, Option.some.injEq] at this
  exact this
theorem glen_of_strip {d d2 : CircD} (h : stripD d = stripD d2) : d.gates.length = d2.gates.length := by
  have := congrArg List.length (gates_of_strip h)
  rwa [List.length_map, List.length_map] at this
def RngWf (d : CircD) : Prop := ∀ g ∈ d.gates, g.rng.length = g.pins.length
def spWithin : Sp := fun vs H Q _ => ∃ (c c2 : Addr) (d d2 : CircD) (it gt rt ot : Addr) (ga ra oa : List Addr) (it2 gt2 rt2 ot2 : Addr) (ga2 ra2 oa2 : List Addr), vs = [.ref c, .ref c2] ∧ CircAt H c d it gt rt ot ga ra oa ∧ CircAt H c2 d2 it2 gt2 rt2 ot2 ga2 ra2 oa2 ∧ d.gates.length ≤ 1000 ∧ d2.gates.length ≤ 1000 ∧ CircTx d ∧ CircTx d2 ∧ RngWf d ∧ RngWf d2 ∧
  ∀ (H' : Hp), Ex H H' → Q (.bl (decide (stripD d = stripD d2) && inD d d2)) H'
theorem sc_within : FnScope ["circuit", "other", "gate", "wider", "low", "high", "least", "most"] ["circuit", "other"] (defScope s_within) := ⟨rfl, rfl, rfl, by decide +kernel, rfl, by decide +kernel, by decide +kernel⟩
theorem ok_within (D : Dfd K mg "within" s_within ["circuit", "other"]) (T : TxtA mg) (C1 : Has P w K mg base 2 "_alike" ["circuit", "other"] spAlike) : Has P w K mg base 3 "within" ["circuit", "other"] spWithin := by
  obtain ⟨f_alike, d_alike, G_alike, g_alike, k_alike, b_alike⟩ := C1
  refine D.has fun f fd F => F.ok sc_within (fun vs H Q E h => ?_) (fun cdv A outer s H vs Q E hr h => ?_)
  · obtain ⟨c, c2, d, d2, it, gt, rt, ot, ga, ra, oa, it2, gt2, rt2, ot2, ga2, ra2, oa2, rfl, _⟩ := h
    rfl
  · obtain ⟨c, c2, d, d2, it, gt, rt, ot, ga, ra, oa, it2, gt2, rt2, ot2, ga2, ra2, oa2, rfl, hc, hc2, hn, hn2, tx, tx2, rw1, rw2, q⟩ := h
    refine ⟨_, (pss_cons (ps_if (pt_not (pt_val (pe_call G_alike (hr.mono (by omega)) (by rfl) g_alike k_alike b_alike .nil pass0 (pa_cons (pv 0) (pa_cons (pv 1) pa_nil)))))
      (pss_one (ps_ret pe_bl))
      pss_nil)
    (pss_cons (ps_for PassesOwn.never rfl (pi_zipM true true (by rfl) T.zip (pa_cons (pe_ix ix_tup (pv 0) pe_int (fun _ _ => rfl)) (pa_cons (pe_ix ix_tup (pv 1) pe_int (fun _ _ => rfl)) pa_nil))) (pg_tup rfl (pgs_cons (pg_name (i := 2) sc_within.nd rfl (.inl rfl)) (pgs_cons (pg_name (i := 3) sc_within.nd rfl (.inl rfl)) pgs_nil)))
      (pss_one (ps_for PassesOwn.never rfl (pi_zipM true true (by rfl) T.zip (pa_cons (pe_ix ix_tup (pv 2) pe_int (fun _ _ => rfl)) (pa_cons (pe_ix ix_tup (pv 3) pe_int (fun _ _ => rfl)) pa_nil))) (pg_tup rfl (pgs_cons (pg_tup rfl (pgs_cons (pg_name (i := 4) sc_within.nd rfl (.inl rfl)) (pgs_cons (pg_name (i := 5) sc_within.nd rfl (.inl rfl)) pgs_nil))) (pgs_cons (pg_tup rfl (pgs_cons (pg_name (i := 6) sc_within.nd rfl (.inl rfl)) (pgs_cons (pg_name (i := 7) sc_within.nd rfl (.inl rfl)) pgs_nil))) pgs_nil)))
        (pss_one (ps_if (PW.pt (pw_or (pt_cmpR op_lt (pv 4) (pv 6) (nomark _)) (pw_or1 (pt_cmpR op_gt (pv 5) (pv 7) (nomark _)))))
          (pss_one (ps_ret pe_bl))
          pss_nil)))))
    (pss_one (ps_ret pe_bl)))), ?_⟩
    refine ⟨_, rfl, _, rfl, c, c2, d, d2, it, gt, rt, ot, ga, ra, oa, it2, gt2, rt2, ot2, ga2, ra2, oa2, rfl, hc, hc2, hn, hn2, tx, tx2, fun H1 E1 => ⟨_, rfl, ?_⟩⟩
    cases hs : decide (stripD d = stripD d2) with
    | false =>
      refine iteT ?_
      have := q H1 E1
      rw [hs, Bool.false_and] at this
      exact this
    | true =>
      have he := of_decide_eq_true hs
      refine iteF ?_
      have hg1 := hc.gates.1
      have hg2 := hc2.gates.1
      have hgl := glen_of_strip he
      refine ⟨_, rfl, _, _, _, _, rfl, rfl, SqT.of (E1 _ _ hc.top), atI_nat (j := 1) rfl, _, rfl, _, _, _, _, rfl, rfl, SqT.of (E1 _ _ hc2.top), atI_nat (j := 1) rfl, gt, gt2, ga.map V.ref, ga2.map V.ref, rfl, SqT.of (E1 _ _ hc.gts), SqT.of (E1 _ _ hc2.gts), for_it (walk_zipM (n := d.gates.length) (by rw [List.length_map, hg1]) (by rw [List.length_map, hg2, hgl]))
        (fun i σ H' => Ex H H' ∧ (∀ k, k < i → ∀ g g2, d.gates[k]? = some g → d2.gates[k]? = some g2 → okG (g, g2) = true) ∧ ∃ x2 x3 x4 x5 x6 x7 : Option V, σ = [some (.ref c), some (.ref c2), x2, x3, x4, x5, x6, x7])
        ⟨E1, (fun k h => nomatch h), _, _, _, _, _, _, rfl⟩ (fun i σ H' _ g => ⟨SqT.of (g.1 _ _ hc.gts), SqT.of (g.1 _ _ hc2.gts)⟩) ?_ ?_⟩
      · rintro i x σ H2 H3 hi ⟨E2, ok, x2, x3, x4, x5, x6, x7, rfl⟩ ⟨T1, x0, y0, rfl, nT, rfl, hx, hy⟩
        obtain ⟨b, hb, rfl⟩ := refs_get hx
        obtain ⟨b2, hb2, rfl⟩ := refs_get hy
        obtain ⟨g, hg, t, pt, rgt, rga, a1, a2, a3, a4, a5⟩ := hc.gates.at_ hb
        obtain ⟨g2, hg2, t2, pt2, rgt2, rga2, e1, e2, e3, e4, e5⟩ := hc2.gates.at_ hb2
        have hgs := gate_of_strip he hg hg2
        have hpl : g.pins = g2.pins := congrArg (fun z => z.2.2) hgs
        have hl1 := rw1 g (List.mem_of_getElem? hg)
        have hl2 := rw2 g2 (List.mem_of_getElem? hg2)
        have E3 : Ex H2 (upd H2 T1 (.tup [.ref b, .ref b2])) := Ex.new nT
        refine ⟨T1, _, rfl, SqT.of upd_same, rfl, _, _, rfl, _, _, rfl, rfl, ?_⟩
        generalize upd H2 T1 (.tup [.ref b, .ref b2]) = H3 at *
        have e03 := E2.trans E3
        refine ⟨_, rfl, _, _, _, _, rfl, rfl, SqT.of (e03 _ _ a1), atI_nat (j := 3) rfl, _, rfl, _, _, _, _, rfl, rfl, SqT.of (e03 _ _ e1), atI_nat (j := 3) rfl, rgt, rgt2, rga.map V.ref, rga2.map V.ref, rfl, SqT.of (e03 _ _ a4), SqT.of (e03 _ _ e4), for_it (walk_zipM (n := g.rng.length) (by rw [List.length_map, a5.1]) (by rw [List.length_map, e5.1, hl1, hl2, hpl]))
          (fun j σ H' => Ex H H' ∧ (∀ k, k < j → ∀ p q, g.rng[k]? = some p → g2.rng[k]? = some q → okP (p, q) = true) ∧ ∃ x4 x5 x6 x7 : Option V, σ = [some (.ref c), some (.ref c2), some (.ref b), some (.ref b2), x4, x5, x6, x7])
          ⟨e03, (fun k h => nomatch h), _, _, _, _, rfl⟩ (fun i σ H' _ g => ⟨SqT.of (g.1 _ _ a4), SqT.of (g.1 _ _ e4)⟩) ?_ ?_⟩
        · rintro j x σ H4 H5 hj ⟨E4, okj, x4, x5, x6, x7, rfl⟩ ⟨T2, x0, y0, rfl, nT2, rfl, hx, hy⟩
          obtain ⟨p, hp, rfl⟩ := refs_get hx
          obtain ⟨p2, hp2, rfl⟩ := refs_get hy
          obtain ⟨r, hr, hpr⟩ := a5.at_ hp
          obtain ⟨r2, hr2, hpr2⟩ := e5.at_ hp2
          have E5 : Ex H4 (upd H4 T2 (.tup [.ref p, .ref p2])) := Ex.new nT2
          have e05 := E4.trans E5
          refine ⟨T2, _, rfl, SqT.of upd_same, rfl, _, _, rfl, p, _, rfl, SqT.of (e05 _ _ hpr), rfl, _, _, rfl, _, _, rfl, rfl, _, _, rfl, p2, _, rfl, SqT.of (e05 _ _ hpr2), rfl, _, _, rfl, _, _, rfl, rfl, rfl, ?_⟩
          generalize upd H4 T2 (.tup [.ref p, .ref p2]) = H5 at *
          have no : okP (r, r2) = false → Q (.bl false) H5 := fun z => by
            have := q H5 e05
            rw [hs, show inD d d2 = false from zip_not hg hg2 (zip_not hr hr2 z)] at this
            exact this
          refine ⟨_, rfl, _, rfl, _, _, rfl, rfl, _, rfl, ite2 (fun h1 => ?_) (fun h1 => ⟨_, rfl, _, rfl, _, _, rfl, rfl, _, rfl, ite2 (fun h2 => ?_) (fun h2 => ?_)⟩)⟩
          · exact no (by show (!(decide (r.1 < r2.1) || _)) = false; rw [h1]; rfl)
          · exact no (by show (!(decide (r.1 < r2.1) || decide (r.2 > r2.2))) = false; rw [h2, Bool.or_true]; rfl)
          · refine ⟨e05, fun k hk p' q' z1 z2 => ?_, _, _, _, _, rfl⟩
            rcases Nat.lt_succ_iff_lt_or_eq.mp hk with z | z
            · exact okj k z p' q' z1 z2
            · subst z
              rw [hr] at z1
              rw [hr2] at z2
              cases z1; cases z2
              show (!(decide (r.1 < r2.1) || decide (r.2 > r2.2))) = true
              rw [Bool.eq_false_iff.mpr h1, Bool.eq_false_iff.mpr h2]; rfl
        · rintro σ H4 ⟨E4, okj, x4, x5, x6, x7, rfl⟩
          refine ⟨E4, fun k hk g' g2' h1 h2 => ?_, _, _, _, _, _, _, rfl⟩
          rcases Nat.lt_succ_iff_lt_or_eq.mp hk with z | z
          · exact ok k z g' g2' h1 h2
          · subst z
            rw [hg] at h1
            rw [hg2] at h2
            cases h1; cases h2
            exact zip_all fun m p q hp hq => okj m (List.getElem?_eq_some_iff.mp hp).1 p q hp hq
      · rintro σ H2 ⟨E2, ok, x2, x3, x4, x5, x6, x7, rfl⟩
        have := q H2 E2
        rw [hs, show inD d d2 = true from zip_all fun m p q hp hq => ok m (List.getElem?_eq_some_iff.mp hp).1 p q hp hq] at this
        exact this
end
end G
namespace G
open PySem PySem.Spec PyProof.Rows L2 Evl TL
/-! ## what a drawn circuit is -/
theorem nm_tx : ∀ c ∈ (["i", "r", "g", "p"] : List Str), ∀ k, k < 20 → PyData.strOk (nm c k) = true := by decide +kernel
theorem nms_tx {c : Str} {n : Nat} {x : Str} (hc : c ∈ (["i", "r", "g", "p"] : List Str)) (hn : n ≤ 20) (h : x ∈ (List.range n).map (nm c)) : PyData.strOk x = true := by
  obtain ⟨k, hk, rfl⟩ := List.mem_map.mp h
  exact nm_tx c hc k (by have := List.mem_range.mp hk; omega)
section
variable {most : Nat} {d : CircD} {Gs : List GateD}
theorem CircWf.net_tx (W : CircWf most d Gs) (hm : most ≤ 15) {k : Nat} (hk : k ≤ Gs.length) {x : Str} (h : x ∈ d.ins ++ d.regs.map (·.name) ++ (List.range k).map (nm "g")) : PyData.strOk x = true := by
  have := W.few
  rcases List.mem_append.mp h with z | z
  · rcases List.mem_append.mp z with z | z
    · obtain ⟨n, _, h2, e⟩ := W.ins
      rw [e] at z
      exact nms_tx nmi_str (by omega) z
    · obtain ⟨n, h2, e⟩ := W.regs
      rw [e] at z
      exact nms_tx nmr_str (by omega) z
  · exact nms_tx nmg_str (by omega) z
theorem CircWf.gate (W : CircWf most d Gs) {g : GateD} (h : g ∈ d.gates) : ∃ k, k < Gs.length ∧ GateWf (d.ins ++ d.regs.map (·.name) ++ (List.range k).map (nm "g")) k g := by
  obtain ⟨k, hk, e⟩ := List.getElem_of_mem (W.perm.mem_iff.mp h)
  exact ⟨k, hk, W.gates k g (List.getElem?_eq_some_iff.mpr ⟨hk, e⟩)⟩
theorem CircWf.tx (W : CircWf most d Gs) (hm : most ≤ 15) : CircTx d := by
  refine ⟨fun x hx => ?_, fun g hg => ?_, fun r hr => ⟨?_, ?_⟩, fun o ho => ⟨?_, ?_⟩⟩
  · exact W.net_tx hm (Nat.le_refl _) (List.mem_append.mpr (.inl (List.mem_append.mpr (.inl hx))))
  · obtain ⟨k, hk, w⟩ := W.gate hg
    have := W.few
    exact ⟨by rw [w.name]; exact nm_tx _ nmg_str k (by omega), fun x hx => W.net_tx hm (by omega) (w.pins x hx)⟩
  · exact W.net_tx hm (Nat.le_refl _) (List.mem_append.mpr (.inl (List.mem_append.mpr (.inr (List.mem_map.mpr ⟨r, hr, rfl⟩)))))
  · exact W.net_tx hm (Nat.le_refl _) (W.rwf r hr).2
  · obtain ⟨n, hn, e⟩ := W.outs
    have : o.1 ∈ d.outs.map (·.1) := List.mem_map.mpr ⟨o, ho, rfl⟩
    rw [e] at this
    exact nms_tx nmp_str (by omega) this
  · exact W.net_tx hm (Nat.le_refl _) (W.onet o ho)
theorem CircWf.glen (W : CircWf most d Gs) : d.gates.length ≤ most := by rw [W.perm.length_eq]; exact W.few
structure GateSm (g : GateD) : Prop where
  few : g.pins.length ≤ 3
  tab : g.tab.length = 2 ^ g.pins.length
  many : g.rng.length = g.pins.length
  rng : ∀ r ∈ g.rng, 0 ≤ r.1 ∧ r.1 ≤ 4 ∧ r.1 + 2 ≤ r.2 ∧ r.2 ≤ r.1 + 6
theorem CircWf.gsm (W : CircWf most d Gs) {g : GateD} (h : g ∈ d.gates) : GateSm g := by
  obtain ⟨k, _, w⟩ := W.gate h
  exact ⟨w.few, w.tab, w.many, w.rng⟩
theorem CircWf.rlen (W : CircWf most d Gs) : d.regs.length ≤ 3 := by
  obtain ⟨n, hn, e⟩ := W.regs
  have := congrArg List.length e
  rw [List.length_map, List.length_map, List.length_range] at this
  omega
theorem CircWf.ilen (W : CircWf most d Gs) : d.ins.length ≤ 3 := by
  obtain ⟨n, _, hn, e⟩ := W.ins
  rw [e, List.length_map, List.length_range]; exact hn
theorem CircWf.olen (W : CircWf most d Gs) : d.outs.length ≤ 3 := by
  obtain ⟨n, hn, e⟩ := W.outs
  have := congrArg List.length e
  rw [List.length_map, List.length_map, List.length_range] at this
  omega
end
/-! ## a circuit as data for _law_same -/
def strsD (l : List Str) : D := .tup (l.map .str)
def pairD (p : Int × Int) : D := .tup [.int p.1, .int p.2]
def gateD (g : GateD) : D := .tup [.str g.name, .tup (g.tab.map .bl), strsD g.pins, .tup (g.rng.map pairD)]
def regD (r : RegD) : D := .tup [.str r.name, .str r.net, pairD r.edge, pairD r.out, .int r.setup, .int r.hold, .bl r.start]
def outD (o : Str × Str) : D := .tup [.str o.1, .str o.2]
def circD (d : CircD) : D := .tup [strsD d.ins, .tup (d.gates.map gateD), .tup (d.regs.map regD), .tup (d.outs.map outD)]
section
variable {H : Hp}
theorem rep_fix {a : Addr} {xs : List V} {ds : List D} (h : H a = some (.tup xs)) (z : All2 (Rep H) xs ds) : Rep H (.ref a) (.tup ds) := .tup h z.1 z.2
theorem rep_all2 {β : Type} {R : Addr → β → Prop} {f : β → D} {a : Addr} {as : List Addr} {bs : List β} (h : H a = some (.tup (as.map V.ref))) (z : All2 R as bs) (r : ∀ a b, R a b → Rep H (.ref a) (f b)) : Rep H (.ref a) (.tup (bs.map f)) := by
  refine .tup h (by rw [List.length_map, List.length_map]; exact z.1) fun i x d hx hd => ?_
  obtain ⟨b, hb, rfl⟩ := refs_get hx
  rw [List.getElem?_map] at hd
  cases e : bs[i]? with
  | none => rw [e] at hd; cases hd
  | some y => rw [e] at hd; cases hd; exact r b y (z.2 i b y hb e)
theorem rep_strsT {a : Addr} {l : List Str} (h : H a = some (.tup (l.map V.str))) : Rep H (.ref a) (strsD l) :=
  let r := rep_map (H := H) (f := V.str) (g := D.str) (l := l) fun i => .str i
  .tup h r.1 r.2
theorem rep_pair {a : Addr} {p : Int × Int} (h : IntsAt H a p) : Rep H (.ref a) (pairD p) := rep_fix h (.cons (.int _) (.cons (.int _) .nil))
theorem rep_gate {a : Addr} {g : GateD} (h : GateAt H a g) : Rep H (.ref a) (gateD g) := by
  obtain ⟨t, pt, rt, ra, h1, h2, h3, h4, h5⟩ := h
  exact rep_fix h1 (.cons (.str _) (.cons (rep_bls h2) (.cons (rep_strsT h3) (.cons (rep_all2 h4 h5 fun _ _ z => rep_pair z) .nil))))
theorem rep_reg {a : Addr} {r : RegD} (h : RegAt H a r) : Rep H (.ref a) (regD r) := by
  obtain ⟨ea, oa, h1, h2, h3⟩ := h
  exact rep_fix h1 (.cons (.str _) (.cons (.str _) (.cons (rep_pair h2) (.cons (rep_pair h3) (.cons (.int _) (.cons (.int _) (.cons (.bl _) .nil)))))))
theorem rep_circ {c it gt rt ot : Addr} {ga ra oa : List Addr} {d : CircD} (h : CircAt H c d it gt rt ot ga ra oa) : Rep H (.ref c) (circD d) :=
  rep_fix h.top (.cons (rep_strsT h.ins) (.cons (rep_all2 h.gts h.gates fun _ _ z => rep_gate z) (.cons (rep_all2 h.rgs h.regs fun _ _ z => rep_reg z) (.cons (rep_all2 h.ots h.outs fun _ _ z => rep_fix z (.cons (.str _) (.cons (.str _) .nil))) .nil))))
end
theorem okD_tup {n : Nat} {l : List D} (hl : l.length < 2 ^ 61) (h : ∀ x ∈ l, okD n x) : okD (n + 1) (.tup l) := ⟨hl, h⟩
theorem okD_map {α : Type} {n : Nat} {l : List α} {f : α → D} (hl : l.length < 2 ^ 61) (h : ∀ x ∈ l, okD n (f x)) : okD (n + 1) (.tup (l.map f)) :=
  ⟨by rw [List.length_map]; exact hl, fun d hd => by obtain ⟨x, hx, rfl⟩ := List.mem_map.mp hd; exact h x hx⟩
theorem ok_fix2 {n : Nat} {a b : D} (h1 : okD n a) (h2 : okD n b) : okD (n + 1) (.tup [a, b]) := okD_tup (by show 2 < _; decide) fun x hx => by
  rcases List.mem_cons.mp hx with rfl | hx
  · exact h1
  · rw [List.mem_singleton.mp hx]; exact h2
theorem ok_int {n : Nat} (i : Int) : okD n (.int i) := by cases n <;> trivial
theorem ok_str {n : Nat} (i : Str) : okD n (.str i) := by cases n <;> trivial
theorem ok_bl {n : Nat} (i : Bool) : okD n (.bl i) := by cases n <;> trivial
theorem ok_pairD (p : Int × Int) : okD 1 (pairD p) := ok_fix2 (ok_int _) (ok_int _)
/-- few enough items everywhere -/
structure CircFew (d : CircD) : Prop where
  ins : d.ins.length ≤ 1000
  gates : d.gates.length ≤ 1000
  gate : ∀ g ∈ d.gates, g.tab.length ≤ 1000 ∧ g.pins.length ≤ 1000 ∧ g.rng.length ≤ 1000
  regs : d.regs.length ≤ 1000
  outs : d.outs.length ≤ 1000
theorem ok_circD {d : CircD} (h : CircFew d) : okD 5 (circD d) := by
  have big : ∀ {n : Nat}, n ≤ 1000 → n < 2 ^ 61 := fun h => by omega
  refine okD_tup (by show 4 < _; decide) fun x hx => ?_
  simp only [List.mem_cons, List.not_mem_nil, or_false] at hx
  rcases hx with rfl | rfl | rfl | rfl
  · exact okD.mono (n := 1) (by decide) (okD_map (big h.ins) fun _ _ => ok_str _)
  · refine okD_map (big h.gates) fun g hg => ?_
    obtain ⟨h1, h2, h3⟩ := h.gate g hg
    refine okD_tup (by show 4 < _; decide) fun x hx => ?_
    simp only [List.mem_cons, List.not_mem_nil, or_false] at hx
    rcases hx with rfl | rfl | rfl | rfl
    · exact ok_str _
    · exact okD.mono (n := 1) (by decide) (okD_map (big h1) fun _ _ => ok_bl _)
    · exact okD.mono (n := 1) (by decide) (okD_map (big h2) fun _ _ => ok_str _)
    · exact okD_map (big h3) fun _ _ => ok_pairD _
  · refine okD.mono (n := 3) (by decide) (okD_map (big h.regs) fun r hr => okD_tup (by show 7 < _; decide) fun x hx => ?_)
    simp only [List.mem_cons, List.not_mem_nil, or_false] at hx
    rcases hx with rfl | rfl | rfl | rfl | rfl | rfl | rfl
    · exact ok_str _
    · exact ok_str _
    · exact ok_pairD _
    · exact ok_pairD _
    · exact ok_int _
    · exact ok_int _
    · exact ok_bl _
  · exact okD.mono (n := 2) (by decide) (okD_map (big h.outs) fun o ho => ok_fix2 (ok_str _) (ok_str _))
theorem CircWf.circFew {most : Nat} {d : CircD} {Gs : List GateD} (W : CircWf most d Gs) (hm : most ≤ 15) : CircFew d := by
  have := W.glen
  have := W.rlen
  have := W.ilen
  have := W.olen
  refine ⟨by omega, by omega, fun g hg => ?_, by omega, by omega⟩
  have w := W.gsm hg
  have h1 := w.few
  have h2 : 2 ^ g.pins.length ≤ 64 := pow_le64 (by omega)
  have h3 := w.tab
  have h4 := w.many
  omega
end G
namespace G
open PySem PySem.Spec PyProof.Rows L2 Evl TL
theorem ex_hid {L : Addr} {H H' : Hp} (e : Ex H H') : Ex (hid L H) (hid L H') := fun b o h => by rw [hid_ne (hid_neq h)]; exact e _ _ (hid_get h)
theorem RowAt.ex {H H' : Hp} {a : Addr} {r : List (Int × Int)} (e : Ex H H') (h : RowAt H a r) : RowAt H' a r := by
  obtain ⟨pl, h1, h2⟩ := h
  exact ⟨pl, h1.imp (e _ _) (e _ _), h2.imp fun _ _ z => e _ _ z⟩
/-! ## the least and the greatest of a list; rows side by side -/
def minI : List Int → Int
  | [] => 0
  | [x] => x
  | x :: y :: r => if x ≤ minI (y :: r) then x else minI (y :: r)
def maxI : List Int → Int
  | [] => 0
  | [x] => x
  | x :: y :: r => if maxI (y :: r) ≤ x then x else maxI (y :: r)
theorem minI_mem : ∀ {l : List Int}, 0 < l.length → minI l ∈ l
  | [x], _ => List.mem_cons_self
  | x :: y :: r, _ => by
    unfold minI
    split
    · exact List.mem_cons_self
    · exact List.mem_cons_of_mem _ (minI_mem (Nat.succ_pos _))
theorem maxI_mem : ∀ {l : List Int}, 0 < l.length → maxI l ∈ l
  | [x], _ => List.mem_cons_self
  | x :: y :: r, _ => by
    unfold maxI
    split
    · exact List.mem_cons_self
    · exact List.mem_cons_of_mem _ (maxI_mem (Nat.succ_pos _))
theorem minI_le : ∀ {l : List Int} {z : Int}, z ∈ l → minI l ≤ z
  | [x], z, h => by rw [List.mem_singleton.mp h]; exact Int.le_refl _
  | x :: y :: r, z, h => by
    unfold minI
    rcases List.mem_cons.mp h with e | e
    · split <;> omega
    · have := minI_le e
      split <;> omega
theorem le_maxI : ∀ {l : List Int} {z : Int}, z ∈ l → z ≤ maxI l
  | [x], z, h => by rw [List.mem_singleton.mp h]; exact Int.le_refl _
  | x :: y :: r, z, h => by
    unfold maxI
    rcases List.mem_cons.mp h with e | e
    · split <;> omega
    · have := le_maxI e
      split <;> omega
theorem minI_eq {l : List Int} {m : Int} (h1 : m ∈ l) (h2 : ∀ y, y ∈ l → m ≤ y) : m = minI l := by
  have a := h2 _ (minI_mem (List.length_pos_iff.mpr (List.ne_nil_of_mem h1)))
  have b := minI_le h1
  omega
theorem maxI_eq {l : List Int} {m : Int} (h1 : m ∈ l) (h2 : ∀ y, y ∈ l → y ≤ m) : m = maxI l := by
  have a := h2 _ (maxI_mem (List.length_pos_iff.mpr (List.ne_nil_of_mem h1)))
  have b := le_maxI h1
  omega
/-- min of a list, max of a list, in a block -/
theorem kMin {X : Cx} {K : PySem.W.Frag} (h : X.K = K) (hc : X.calm = true) : CallR X (.builtin "min") (rMin K) := by subst h; exact cr_min hc
theorem kMax {X : Cx} {K : PySem.W.Frag} (h : X.K = K) (hc : X.calm = true) : CallR X (.builtin "max") (rMax K) := by subst h; exact cr_max hc
/-- the rows rss at ls, item by item -/
theorem walk_zipN {K : PySem.W.Frag} {ls : List Addr} {rss : List (List Addr)} {m : Nat} (h0 : 0 < ls.length) (hm : ∀ r ∈ rss, r.length = m) : Walk (ZN.ItN K ls) m (fun H => All2 (fun l r => SqT K H l (r.map V.ref)) ls rss)
    (fun i H v H' => ∃ T : Addr, v = .ref T ∧ H T = none ∧ H' = upd H T (.tup ((rss.map fun r => r.getD i 0).map V.ref))) := by
  refine ⟨fun i H hi g l ml => ?_, fun H g => ?_, fun i H v H' hi g y => ?_⟩
  · obtain ⟨j, hj, e⟩ := List.getElem_of_mem ml
    obtain ⟨r, hr, q⟩ := g.at_ (i := j) (a := l) (by rw [List.getElem?_eq_getElem hj, e])
    exact ⟨_, q, by rw [List.length_map, hm r (List.mem_of_getElem? hr)]; exact hi⟩
  · obtain ⟨r, hr, q⟩ := g.at_ (i := 0) (a := ls[0]) (List.getElem?_eq_getElem h0)
    exact ⟨_, _, List.getElem?_eq_getElem h0, q, by rw [List.length_map, hm r (List.mem_of_getElem? hr)]; exact Nat.le_refl _⟩
  · obtain ⟨T, ys, e1, e2, e3, e4, e5⟩ := y
    refine ⟨T, e1, e2, ?_⟩
    rw [e3]
    congr 2
    refine List.ext_getElem? fun j => ?_
    by_cases hj : j < ls.length
    · obtain ⟨r, hr, q⟩ := g.at_ (i := j) (List.getElem?_eq_getElem hj)
      have hri : i < r.length := by rw [hm r (List.mem_of_getElem? hr)]; exact hi
      rw [e5 j _ _ (List.getElem?_eq_getElem hj) q, List.getElem?_map, List.getElem?_eq_getElem hri, List.getElem?_map, List.getElem?_map, hr]
      show some (V.ref r[i]) = some (V.ref (r.getD i 0))
      rw [List.getD_eq_getElem?_getD, List.getElem?_eq_getElem hri]
      rfl
    · rw [List.getElem?_eq_none (by omega), List.getElem?_eq_none (by rw [List.length_map, List.length_map, ← g.1]; omega)]
/-! ## circuits joined -/
def rgJ (g : GateD) (j : Nat) : Int × Int := g.rng.getD j (0, 0)
def joinAt (gs : List GateD) (j : Nat) : Int × Int := (minI (gs.map fun g => (rgJ g j).1), maxI (gs.map fun g => (rgJ g j).2))
theorem rgJ_at {g : GateD} {j : Nat} {r : Int × Int} (h : g.rng[j]? = some r) : rgJ g j = r := by unfold rgJ; rw [List.getD_eq_getElem?_getD, h]; rfl
/-- the pairs at place j of the gates' ranges -/
theorem pairs_at {H : Hp} {rss : List (List Addr)} {gs : List GateD} {j m : Nat} (h : All2 (fun r g => All2 (IntsAt H) r g.rng) rss gs) (hm : ∀ g ∈ gs, g.rng.length = m) (hj : j < m) : All2 (fun p g => IntsAt H p (rgJ g j)) (rss.map fun r => r.getD j 0) gs := by
  refine ⟨by rw [List.length_map]; exact h.1, fun k p g e1 e2 => ?_⟩
  rw [List.getElem?_map] at e1
  cases e : rss[k]? with
  | none => rw [e] at e1; cases e1
  | some r =>
    rw [e] at e1
    cases e1
    have z := h.2 k r g e e2
    have hg := hm g (List.mem_of_getElem? e2)
    have hr : j < g.rng.length := by omega
    have hr2 : j < r.length := by rw [z.1]; exact hr
    have := z.2 j r[j] g.rng[j] (List.getElem?_eq_getElem hr2) (List.getElem?_eq_getElem hr)
    have e5 : r.getD j 0 = r[j] := by rw [List.getD_eq_getElem?_getD, List.getElem?_eq_getElem hr2]; rfl
    show IntsAt H (r.getD j 0) _
    rw [rgJ_at (List.getElem?_eq_getElem hr), e5]
    exact this
structure TxtJ (mg : Str → Option Value) : Prop where
  zip : mg "zip" = none
  min : mg "min" = none
  max : mg "max" = none
section
variable {P : Program} {w : World} {K : PySem.W.Frag} {mg : Str → Option Value} {base : Heap}
def spJoin : Sp := fun vs H Q _ => ∃ (a : Addr) (ga : List Addr) (gs : List GateD) (m : Nat), vs = [.ref a] ∧ H a = some (.tup (ga.map V.ref)) ∧ All2 (GateAt H) ga gs ∧ 0 < gs.length ∧ gs.length ≤ 4 ∧ (∀ g ∈ gs, g.rng.length = m) ∧ m ≤ 1000 ∧ ∀ (l : Addr) (H' : Hp), Ex H H' → H l = none → RowAt H' l ((List.range m).map (joinAt gs)) → Q (.ref l) H'
theorem sc_joined_ranges : FnScope ["gates", "columns", "gate", "pairs", "low", "_", "high"] ["gates"] (defScope s_joined_ranges) := ⟨rfl, rfl, rfl, by decide +kernel, rfl, by decide +kernel, by decide +kernel⟩
theorem ok_joined_ranges (D : Dfd K mg "_joined_ranges" s_joined_ranges ["gates"]) (T : TxtJ mg) : Has P w K mg base 1 "_joined_ranges" ["gates"] spJoin := by
  refine D.has fun f fd F => F.ok sc_joined_ranges (fun vs H Q E h => ?_) (fun cdv A outer s H vs Q E hr h => ?_)
  · obtain ⟨a, ga, gs, m, rfl, _⟩ := h
    rfl
  · obtain ⟨a, ga, gs, m, rfl, ha, hg, h0, h4, hm, hm1, q⟩ := h
    refine ⟨_, (pss_cons (ps_setLc (i := 1) (own := [("gate", 2)]) (g := gName 2) (tt := tYes) rfl sc_joined_ranges.nd rfl rfl (sw_true rfl rfl rfl (by decide +kernel)) (pi_tup (pv 0)) (blkOk_by (N := ["gates", "columns", "gate", "pairs", "low", "_", "high"]) (sc := defScope s_joined_ranges) (own := [("gate", 2)]) (by decide +kernel)) (fun _ _ _ _ _ => (pg_name (i := 2) sc_joined_ranges.nd rfl (.inl rfl))) (fun _ _ _ _ _ => pts_nil) (fun _ _ _ _ _ => (pe_ix (kIxT (K := K) rfl) (pv 2) pe_int (fun _ _ => rfl))))
    (pss_one (ps_ret (pe_lc (own := [("pairs", 3)]) (g := gName 3) (tt := tYes) rfl sc_joined_ranges.nd (ZN.pi_zipS (K := K) rfl (by rfl) T.zip (pv 1)) (blkOk_by (N := ["gates", "columns", "gate", "pairs", "low", "_", "high"]) (sc := defScope s_joined_ranges) (own := [("pairs", 3)]) (by decide +kernel)) (fun _ _ _ _ _ => (pg_name (i := 3) sc_joined_ranges.nd rfl (.inl rfl))) (fun _ _ _ _ _ => pts_nil) (fun _ _ _ _ _ => (pe_tup (pa_cons (pe_callB (kMin (K := K) rfl rfl) (by rfl) T.min (by decide +kernel) (pa_cons (pe_lc (own := [("low", 4), ("_", 5)]) (g := gTup K 2 (gCons (gName 4) (gCons (gName 5) gNil))) (tt := tYes) rfl sc_joined_ranges.nd (kPiT (K := K) rfl (pv 3)) (blkOk_by (own := [("low", 4), ("_", 5)]) (by kernel_rfl)) (fun _ _ _ _ _ => (pg_tup rfl (pgs_cons (pg_name (i := 4) sc_joined_ranges.nd rfl (.inl rfl)) (pgs_cons (pg_name (i := 5) sc_joined_ranges.nd rfl (.inl rfl)) pgs_nil)))) (fun _ _ _ _ _ => pts_nil) (fun _ _ _ _ _ => (pv 4))) pa_nil)) (pa_cons (pe_callB (kMax (K := K) rfl rfl) (by rfl) T.max (by decide +kernel) (pa_cons (pe_lc (own := [("_", 5), ("high", 6)]) (g := gTup K 2 (gCons (gName 5) (gCons (gName 6) gNil))) (tt := tYes) rfl sc_joined_ranges.nd (kPiT (K := K) rfl (pv 3)) (blkOk_by (own := [("_", 5), ("high", 6)]) (by kernel_rfl)) (fun _ _ _ _ _ => (pg_tup rfl (pgs_cons (pg_name (i := 5) sc_joined_ranges.nd rfl (.inl rfl)) (pgs_cons (pg_name (i := 6) sc_joined_ranges.nd rfl (.inl rfl)) pgs_nil)))) (fun _ _ _ _ _ => pts_nil) (fun _ _ _ _ _ => (pv 6))) pa_nil)) pa_nil)))))))), ?_⟩
    have hgl := hg.1
    refine ⟨_, rfl, a, rfl, ⟨_, SqT.of ha⟩, fun L nL => wk_tup (K := K) (a := a) (xs := ga.map V.ref) (fun k H1 => Ex H H1 ∧ ∃ (rts : List Addr) (rss : List (List Addr)), H1 L = some (.lst (rts.map V.ref)) ∧ All2 (fun rt r => H rt = some (.tup (r.map V.ref))) rts rss ∧ All2 (fun r g => All2 (IntsAt H) r g.rng) rss (gs.take k))
      ⟨Ex.new nL, [], [], upd_same, .nil, .nil⟩ (fun k H1 _ z => SqT.of (z.1 _ _ ha)) ?_ ?_⟩
    · rintro k x H1 hx ⟨E1, rts, rss, hL, hA, hB⟩
      obtain ⟨b, hb, rfl⟩ := refs_get hx
      obtain ⟨g, hgk, t, pt, rgt, rga, a1, a2, a3, a4, a5⟩ := hg.at_ hb
      have hk : k < gs.length := (List.getElem?_eq_some_iff.mp hgk).1
      refine ⟨(by rw [wipe_set (by decide), wipe_wipe]), tYes_in ?_⟩
      simp only [wipe, _root_.L2.start, List.map_cons, List.map_nil, List.length_cons, List.length_nil, Nat.reduceAdd, Nat.reduceSub, List.replicate_succ, List.replicate_zero, List.cons_append, List.nil_append, List.set_cons_zero, List.set_cons_succ]
      refine ⟨_, rfl, _, _, _, _, rfl, rfl, SqT.of (E1 _ _ a1), atI_nat (j := 3) rfl, _, hL, sz_lt (by rw [List.length_map, hA.1, hB.1, List.length_take]; omega), E1.mut nL, rts ++ [rgt], rss ++ [rga], by rw [upd_same, List.map_append]; rfl, hA.snoc a4, ?_⟩
      rw [take_snoc1 hgk]
      exact hB.snoc a5
    · rintro H1 ⟨E1, rts, rss, hL, hA, hB⟩
      rw [List.length_map, hgl, List.take_length] at hB
      have hr0 : 0 < rts.length := by rw [hA.1, hB.1]; exact h0
      have hrm : ∀ r ∈ rss, r.length = m := fun r hr => by
        obtain ⟨i, hi, e⟩ := List.getElem_of_mem hr
        obtain ⟨g, hgi, z⟩ := hB.at_ (i := i) (a := r) (by rw [List.getElem?_eq_getElem hi, e])
        rw [z.1]; exact hm g (List.mem_of_getElem? hgi)
      have hrows : ∀ {H2 : Hp}, Ex H1 H2 → All2 (fun l r => SqT K H2 l (r.map V.ref)) rts rss := fun E2 => hA.imp fun rt r z => SqT.of ((E1.trans E2) _ _ z)
      refine ⟨_, rfl, L, rts, rfl, SqL.of hL, hr0, by rw [hA.1, hB.1]; exact h4, fun l hl => ?_, fun L2 nL2 => wk_it (walk_zipN (K := K) hr0 hrm) (fun j H2 => Ex H1 H2 ∧ ∃ ps : List Addr, H2 L2 = some (.lst (ps.map V.ref)) ∧ All2 (IntsAt (hid L2 H2)) ps ((List.range j).map (joinAt gs)))
        ⟨Ex.new nL2, [], upd_same, .nil⟩ (fun j H2 _ z => hrows z.1) ?_ ?_⟩
      · obtain ⟨i, hi, e⟩ := List.getElem_of_mem hl
        obtain ⟨r, _, z⟩ := hA.at_ (i := i) (a := l) (by rw [List.getElem?_eq_getElem hi, e])
        exact ⟨_, SqT.of (E1 _ _ z)⟩
      · rintro j x H2 H3 hj ⟨E2, ps, hL2, hP⟩ ⟨T0, rfl, nT, rfl⟩
        have E3 : Ex H2 (upd H2 T0 (.tup ((rss.map fun r => r.getD j 0).map V.ref))) := Ex.new nT
        have hT : upd H2 T0 (.tup ((rss.map fun r => r.getD j 0).map V.ref)) T0 = some (.tup ((rss.map fun r => r.getD j 0).map V.ref)) := upd_same
        have hL3 := E3 _ _ hL2
        have nLT : T0 ≠ L2 := (ne_of_none hL2 nT).symm
        generalize upd H2 T0 (.tup ((rss.map fun r => r.getD j 0).map V.ref)) = H3 at *
        have E03 := E1.trans (E2.trans E3)
        have hpr := pairs_at hB hm hj
        have hpl : (rss.map fun r => r.getD j 0).length = gs.length := hpr.1
        refine ⟨(by rw [wipe_set (by decide), wipe_wipe]), tYes_in ?_⟩
        simp only [wipe, _root_.L2.start, List.map_cons, List.map_nil, List.length_cons, List.length_nil, Nat.reduceAdd, Nat.reduceSub, List.replicate_succ, List.replicate_zero, List.cons_append, List.nil_append, List.set_cons_zero, List.set_cons_succ]
        refine ⟨_, rfl, T0, rfl, ⟨_, SqT.of hT⟩, fun L3 nL3 => wk_tup (K := K) (a := T0) (xs := (rss.map fun r => r.getD j 0).map V.ref) (fun k H4 => Ex H3 H4 ∧ H4 L3 = some (.lst (((gs.take k).map fun g => (rgJ g j).1).map V.int)))
          ⟨Ex.new nL3, upd_same⟩ (fun k H4 _ z => SqT.of (z.1 _ _ hT)) ?_ ?_⟩
        · rintro k y H4 hy ⟨E4, hl4⟩
          obtain ⟨p, hp, rfl⟩ := refs_get hy
          obtain ⟨g, hgk, hpa⟩ := hpr.at_ hp
          refine ⟨p, _, rfl, SqT.of ((E03.trans E4) _ _ hpa), rfl, _, _, rfl, _, _, rfl, rfl, (by rw [wipe_set (by decide), wipe_set (by decide), wipe_wipe]), tYes_in ?_⟩
          simp only [wipe, _root_.L2.start, List.map_cons, List.map_nil, List.length_cons, List.length_nil, Nat.reduceAdd, Nat.reduceSub, List.replicate_succ, List.replicate_zero, List.cons_append, List.nil_append, List.set_cons_zero, List.set_cons_succ]
          refine ⟨_, rfl, _, hl4, sz_lt (by rw [List.length_map, List.length_map, List.length_take]; omega), E4.mut nL3, ?_⟩
          rw [upd_same, take_snoc1 hgk, List.map_append, List.map_append]
          rfl
        · rintro H4 ⟨E4, hl4⟩
          rw [List.length_map, hpl, List.take_length] at hl4
          refine ⟨L3, _, rfl, SqL.of hl4, by rw [List.length_map]; exact h0, fun lo lo1 lo2 => ?_⟩
          have elo := minI_eq lo1 lo2
          subst elo
          refine ⟨_, rfl, T0, rfl, ⟨_, SqT.of (E4 _ _ hT)⟩, fun L4 nL4 => wk_tup (K := K) (a := T0) (xs := (rss.map fun r => r.getD j 0).map V.ref) (fun k H5 => Ex H4 H5 ∧ H5 L4 = some (.lst (((gs.take k).map fun g => (rgJ g j).2).map V.int)))
            ⟨Ex.new nL4, upd_same⟩ (fun k H5 _ z => SqT.of (z.1 _ _ (E4 _ _ hT))) ?_ ?_⟩
          · rintro k y H5 hy ⟨E5, hl5⟩
            obtain ⟨p, hp, rfl⟩ := refs_get hy
            obtain ⟨g, hgk, hpa⟩ := hpr.at_ hp
            refine ⟨p, _, rfl, SqT.of ((E03.trans (E4.trans E5)) _ _ hpa), rfl, _, _, rfl, _, _, rfl, rfl, (by rw [wipe_set (by decide), wipe_set (by decide), wipe_wipe]), tYes_in ?_⟩
            simp only [wipe, _root_.L2.start, List.map_cons, List.map_nil, List.length_cons, List.length_nil, Nat.reduceAdd, Nat.reduceSub, List.replicate_succ, List.replicate_zero, List.cons_append, List.nil_append, List.set_cons_zero, List.set_cons_succ]
            refine ⟨_, rfl, _, hl5, sz_lt (by rw [List.length_map, List.length_map, List.length_take]; omega), E5.mut nL4, ?_⟩
            rw [upd_same, take_snoc1 hgk, List.map_append, List.map_append]
            rfl
          · rintro H5 ⟨E5, hl5⟩
            rw [List.length_map, hpl, List.take_length] at hl5
            refine ⟨L4, _, rfl, SqL.of hl5, by rw [List.length_map]; exact h0, fun hi hi1 hi2 => ?_⟩
            have ehi := maxI_eq hi1 hi2
            subst ehi
            refine ⟨(by show 2 ≤ sizeLine; decide), fun q5 nq5 => ?_⟩
            have E6 : Ex H5 (upd H5 q5 (.tup [.int (joinAt gs j).1, .int (joinAt gs j).2])) := Ex.new nq5
            have hq6 : upd H5 q5 (.tup [.int (joinAt gs j).1, .int (joinAt gs j).2]) q5 = some (.tup [.int (joinAt gs j).1, .int (joinAt gs j).2]) := upd_same
            have hL5 := (E4.trans E5) _ _ hL3
            have nL2q : L2 ≠ q5 := ne_of_none hL5 nq5
            have E36 := E4.trans (E5.trans E6)
            refine ⟨_, E6 _ _ hL5, sz_lt (by rw [List.length_map, hP.1, List.length_map, List.length_range]; omega), (E2.trans (E3.trans E36)).mut nL2, ps ++ [q5], by rw [upd_same, List.map_append]; rfl, ?_⟩
            rw [hid_upd, List.range_succ, List.map_append]
            exact (hP.imp fun _ _ z => ex_hid (E3.trans E36) _ _ z).snoc (by show hid L2 _ q5 = _; rw [hid_ne nL2q.symm]; exact hq6)
      · rintro H2 ⟨E2, ps, hL2, hP⟩
        refine q L2 H2 (E1.trans E2) ?_ ⟨ps, .inl hL2, hP.imp fun _ _ z => hid_get z⟩
        cases e : H L2 with
        | none => rfl
        | some o => exact absurd (E1 _ _ e) (by rw [nL2]; exact fun z => nomatch z)
end
end G
namespace G
open PySem PySem.Spec PyProof.Rows L2 Evl TL
def CircX (H : Hp) (c : Addr) (d : CircD) : Prop := ∃ (it gt rt ot : Addr) (ga ra oa : List Addr), CircAt H c d it gt rt ot ga ra oa
theorem CircX.ex {H H' : Hp} {c : Addr} {d : CircD} (h : CircX H c d) (e : Ex H H') : CircX H' c d := by
  obtain ⟨it, gt, rt, ot, ga, ra, oa, hc⟩ := h
  exact ⟨it, gt, rt, ot, ga, ra, oa, hc.te (.of e)⟩
def noG : GateD := ⟨"", [], [], []⟩
def gaD (d : CircD) (k : Nat) : GateD := d.gates.getD k noG
theorem gaD_at {d : CircD} {k : Nat} {g : GateD} (h : d.gates[k]? = some g) : gaD d k = g := by unfold gaD; rw [List.getD_eq_getElem?_getD, h]; rfl
def colD (ds : List CircD) (k : Nat) : List GateD := ds.map fun d => gaD d k
def rowsD (d0 : CircD) (ds : List CircD) : List (List (Int × Int)) := (List.range d0.gates.length).map fun k => (List.range (gaD d0 k).rng.length).map (joinAt (colD ds k))
def mergedD (d0 : CircD) (ds : List CircD) : CircD := { d0 with gates := withD d0.gates (rowsD d0 ds) }
/-- small enough, its texts are texts, a range for each pin -/
structure Fine (d : CircD) : Prop where
  gates : d.gates.length ≤ 1000
  tx : CircTx d
  rw : RngWf d
  rng : ∀ g ∈ d.gates, g.rng.length ≤ 1000
theorem strip_len {a b : CircD} (h : stripD a = stripD b) : a.gates.length = b.gates.length := by
  have := congrArg (fun x => x.2.1.length) h
  simpa [stripD] using this
theorem strip_gate {a b : CircD} (h : stripD a = stripD b) {k : Nat} {g : GateD} (e : a.gates[k]? = some g) : ∃ g', b.gates[k]? = some g' ∧ gateS g = gateS g' := by
  have h2 : a.gates.map gateS = b.gates.map gateS := congrArg (fun x => x.2.1) h
  have h3 := congrArg (fun l => l[k]?) h2
  simp only [List.getElem?_map, e] at h3
  cases q : b.gates[k]? with
  | none => rw [q] at h3; cases h3
  | some g' => rw [q] at h3; exact ⟨g', rfl, Option.some.inj h3⟩
theorem strip_rng {a b : CircD} (h : stripD a = stripD b) (ha : RngWf a) (hb : RngWf b) {k : Nat} {g g' : GateD} (e : a.gates[k]? = some g) (e' : b.gates[k]? = some g') : g.rng.length = g'.rng.length := by
  obtain ⟨g2, q, z⟩ := strip_gate h e
  rw [e'] at q
  cases q
  rw [ha g (List.mem_of_getElem? e), hb g' (List.mem_of_getElem? e')]
  exact congrArg (fun x => x.2.2.length) z
section
variable {P : Program} {w : World} {K : PySem.W.Frag} {mg : Str → Option Value} {base : Heap}
def spMerged (C : Addr) : Sp := fun vs H Q E => ∃ (l : Addr) (cs : List Addr) (ds : List CircD), vs = [.ref l] ∧ H l = some (.lst (cs.map V.ref)) ∧ All2 (CircX H) cs ds ∧ ds.length ≤ 100 ∧ (∀ d ∈ ds, Fine d) ∧
  ((ds = [] ∨ ∃ d0 d, ds[0]? = some d0 ∧ d ∈ ds ∧ stripD d0 ≠ stripD d) → ∀ H', Ex H H' → E (.ref C) none H') ∧
  (∀ d0, ds[0]? = some d0 → (∀ d ∈ ds, stripD d0 = stripD d) → ds.length ≤ 4 ∧ ∀ (c' : Addr) (H' : Hp), Ex H H' → H c' = none → CircX H' c' (mergedD d0 ds) → Q (.ref c') H')
theorem sc_merged : FnScope ["circuits", "other", "columns", "circuit", "gates"] ["circuits"] (defScope s_merged) := ⟨rfl, rfl, rfl, by decide +kernel, rfl, by decide +kernel, by decide +kernel⟩
theorem ok_merged {C : Addr} (D : Dfd K mg "merged" s_merged ["circuits"]) (U : ExcT K mg "BadArgument" C) (T : TxtJ mg) (Tl : mg "len" = none) (C1 : Has P w K mg base 2 "_alike" ["circuit", "other"] spAlike) (C2 : Has P w K mg base 1 "with_ranges" ["circuit", "rows"] spWith) (C3 : Has P w K mg base 1 "_joined_ranges" ["gates"] spJoin) : HasX P w K mg base 3 "merged" ["circuits"] (spMerged C) := by
  obtain ⟨f_alike, d_alike, G_alike, g_alike, k_alike, b_alike⟩ := C1
  obtain ⟨f_with_ranges, d_with_ranges, G_with_ranges, g_with_ranges, k_with_ranges, b_with_ranges⟩ := C2
  obtain ⟨f_joined_ranges, d_joined_ranges, G_joined_ranges, g_joined_ranges, k_joined_ranges, b_joined_ranges⟩ := C3
  obtain ⟨f, fd, F, gf, bf⟩ := D
  refine ⟨f, fd, F.okX sc_merged (fun vs H Q E h => ?_) (fun cdv A outer s H vs Q E hr h => ?_), gf, F.kp, bf⟩
  · obtain ⟨l, cs, ds, rfl, _⟩ := h
    rfl
  · obtain ⟨l, cs, ds, rfl, hl, hcs, h5, hfine, qE, qQ⟩ := h
    refine ⟨_, (pss_cons (ps_if (pt_cmpR op_eq (pe_callB call_len_seq (by rfl) Tl (by decide +kernel) (pa_cons (pv 0) pa_nil)) pe_int (nomark _))
      (pss_one (ps_raise rfl (takes_of rfl rfl rfl rfl) (pmk_ownA PySem.F.excBase_ValueError U.xP U.gC U.kC (raises_own U.bC U.tC) rfl (pa_cons pe_str pa_nil))))
      pss_nil)
    (pss_cons (ps_for (passes_of rfl) rfl (pi_list (pv 0)) (pg_name (i := 1) sc_merged.nd rfl (.inl rfl))
      (pss_one (ps_if (pt_not (pt_val (pe_call G_alike (hr.mono (by omega)) (by rfl) g_alike k_alike b_alike .nil pass0 (pa_cons (pe_ix ix_list (pv 0) pe_int (fun _ _ => rfl)) (pa_cons (pv 1) pa_nil)))))
        (pss_one (ps_raise rfl (takes_of rfl rfl rfl rfl) (pmk_ownA PySem.F.excBase_ValueError U.xP U.gC U.kC (raises_own U.bC U.tC) rfl (pa_cons pe_str pa_nil))))
        pss_nil)))
    (pss_cons (ps_setLc (i := 2) (own := [("circuit", 3)]) (g := gName 3) (tt := tYes) rfl sc_merged.nd rfl rfl (sw_true rfl rfl rfl (by decide +kernel)) (pi_list (pv 0)) (blkOk_by (N := ["circuits", "other", "columns", "circuit", "gates"]) (sc := defScope s_merged) (own := [("circuit", 3)]) (by decide +kernel)) (fun _ _ _ _ _ => (pg_name (i := 3) sc_merged.nd rfl (.inl rfl))) (fun _ _ _ _ _ => pts_nil) (fun _ _ _ _ _ => (pe_ix (kIxT (K := K) rfl) (pv 3) pe_int (fun _ _ => rfl))))
    (pss_one (ps_ret (pe_call G_with_ranges (hr.mono (by omega)) (by rfl) g_with_ranges k_with_ranges b_with_ranges .nil pass0 (pa_cons (pe_ix ix_list (pv 0) pe_int (fun _ _ => rfl)) (pa_cons (pe_lc (own := [("gates", 4)]) (g := gName 4) (tt := tYes) rfl sc_merged.nd (ZN.pi_zipS (K := K) rfl (by rfl) T.zip (pv 2)) (blkOk_by (N := ["circuits", "other", "columns", "circuit", "gates"]) (sc := defScope s_merged) (own := [("gates", 4)]) (by decide +kernel)) (fun _ _ _ _ _ => (pg_name (i := 4) sc_merged.nd rfl (.inl rfl))) (fun _ _ _ _ _ => pts_nil) (fun _ _ _ _ _ => (pe_call G_joined_ranges (hr.mono (by omega)) (by rfl) g_joined_ranges k_joined_ranges b_joined_ranges .nil pass0 (pa_cons (pv 4) pa_nil)))) pa_nil)))))))), ?_⟩
    have hcl := hcs.1
    refine ⟨_, rfl, _, _, rfl, .inl (SqL.of hl), rfl, _, rfl, ite2 (fun h1 => ⟨(by show 1 ≤ sizeLine; decide), qE (.inl ?_) H (Ex.refl _)⟩) (fun h1 => ?_)⟩
    · have h1 := of_decide_eq_true h1
      rw [List.length_map] at h1
      injection h1 with h1
      exact List.length_eq_zero_iff.mp (by omega)
    have hpos : 0 < cs.length := by
      rcases Nat.eq_zero_or_pos cs.length with z | z
      · exact absurd (decide_eq_true (by rw [List.length_map, z]; rfl)) h1
      · exact z
    obtain ⟨c0, hc0⟩ : ∃ c0, cs[0]? = some c0 := ⟨_, List.getElem?_eq_getElem hpos⟩
    obtain ⟨d0, hd0, X0⟩ := hcs.at_ hc0
    have hcV : (cs.map V.ref)[0]? = some (.ref c0) := by rw [List.getElem?_map, hc0]; rfl
    refine ⟨_, rfl, l, rfl, ⟨_, SqL.of hl⟩, for_list (K := K) (a := l) (xs := cs.map V.ref) (fun i σ H' => Ex H H' ∧ (∀ (j : Nat) (d : CircD), j < i → ds[j]? = some d → stripD d0 = stripD d) ∧ ∃ z1 : Option V, σ = [some (.ref l), z1, none, none, none]) ⟨.refl _, fun j d h => absurd h (Nat.not_lt_zero _), _, rfl⟩ (fun i σ H' _ z => SqL.of (z.1 _ _ hl)) ?_ ?_⟩
    · rintro i x σ H1 hx ⟨E1, hall, z1, rfl⟩
      obtain ⟨b, hb, rfl⟩ := refs_get hx
      obtain ⟨d, hd, Xd⟩ := hcs.at_ hb
      obtain ⟨it, gt, rt, ot, ga, ra, oa, A0⟩ := X0.ex E1
      obtain ⟨it2, gt2, rt2, ot2, ga2, ra2, oa2, A2⟩ := Xd.ex E1
      have f0 := hfine d0 (List.mem_of_getElem? hd0)
      have fd := hfine d (List.mem_of_getElem? hd)
      refine ⟨_, rfl, _, _, _, _, rfl, rfl, SqL.of (E1 _ _ hl), atI_nat (j := 0) hcV, _, rfl, c0, b, d0, d, it, gt, rt, ot, ga, ra, oa, it2, gt2, rt2, ot2, ga2, ra2, oa2, rfl, A0, A2, f0.gates, fd.gates, f0.tx, fd.tx, fun H2 E2 => ⟨_, rfl, ?_⟩⟩
      by_cases e : stripD d0 = stripD d
      · rw [decide_eq_true e]
        refine iteF ⟨E1.trans E2, fun j d' hj q => ?_, _, rfl⟩
        rcases Nat.lt_succ_iff_lt_or_eq.mp hj with z | z
        · exact hall j d' z q
        · subst z
          rw [hd] at q
          cases q
          exact e
      · rw [decide_eq_false e]
        exact iteT ⟨(by show 1 ≤ sizeLine; decide), qE (.inr ⟨d0, d, hd0, List.mem_of_getElem? hd, e⟩) H2 (E1.trans E2)⟩
    · rintro σ H1 ⟨E1, hall, z1, rfl⟩
      rw [List.length_map] at hall
      have hsame : ∀ d ∈ ds, stripD d0 = stripD d := fun d hm => by
        obtain ⟨j, hj, e⟩ := List.getElem_of_mem hm
        exact hall j d (by rw [hcl]; exact hj) (by rw [List.getElem?_eq_getElem hj, e])
      obtain ⟨h4, qQ⟩ := qQ d0 hd0 hsame
      have hl1 := E1 _ _ hl
      refine ⟨_, rfl, l, rfl, ⟨_, SqL.of hl1⟩, fun L nL => wk_list (K := K) (a := l) (xs := cs.map V.ref) (fun k H2 => Ex H1 H2 ∧ ∃ (gts : List Addr) (gss : List (List Addr)), H2 L = some (.lst (gts.map V.ref)) ∧ All2 (fun gt ga => H gt = some (.tup (ga.map V.ref))) gts gss ∧ All2 (fun ga d => All2 (GateAt H) ga d.gates) gss (ds.take k))
        ⟨Ex.new nL, [], [], upd_same, .nil, .nil⟩ (fun k H2 _ z => SqL.of (z.1 _ _ hl1)) ?_ ?_⟩
      · rintro k x H2 hx ⟨E2, gts, gss, hL, hA, hB⟩
        obtain ⟨b, hb, rfl⟩ := refs_get hx
        obtain ⟨d, hd, it, gt, rt, ot, ga, ra, oa, A0⟩ := hcs.at_ hb
        have hk : k < ds.length := (List.getElem?_eq_some_iff.mp hd).1
        refine ⟨(by rw [wipe_set (by decide), wipe_wipe]), tYes_in ?_⟩
        simp only [wipe, _root_.L2.start, List.map_cons, List.map_nil, List.length_cons, List.length_nil, Nat.reduceAdd, Nat.reduceSub, List.replicate_succ, List.replicate_zero, List.cons_append, List.nil_append, List.set_cons_zero, List.set_cons_succ]
        refine ⟨_, rfl, _, _, _, _, rfl, rfl, SqT.of ((E1.trans E2) _ _ A0.top), atI_nat (j := 1) rfl, _, hL, sz_lt (by rw [List.length_map, hA.1, hB.1, List.length_take]; omega), E2.mut nL, gts ++ [gt], gss ++ [ga], by rw [upd_same, List.map_append]; rfl, hA.snoc A0.gts, ?_⟩
        rw [take_snoc1 hd]
        exact hB.snoc A0.gates
      · rintro H2 ⟨E2, gts, gss, hL, hA, hB⟩
        rw [List.length_map, hcl, List.take_length] at hB
        have hg0 : 0 < gts.length := by rw [hA.1, hB.1, ← hcl]; exact hpos
        have hgm : ∀ r ∈ gss, r.length = d0.gates.length := fun r hr => by
          obtain ⟨i, hi, e⟩ := List.getElem_of_mem hr
          obtain ⟨d, hdi, z⟩ := hB.at_ (i := i) (a := r) (by rw [List.getElem?_eq_getElem hi, e])
          rw [z.1]; exact (strip_len (hsame d (List.mem_of_getElem? hdi))).symm
        have E02 := E1.trans E2
        have hrows : ∀ {H3 : Hp}, Ex H2 H3 → All2 (fun l r => SqT K H3 l (r.map V.ref)) gts gss := fun E3 => hA.imp fun rt r z => SqT.of ((E02.trans E3) _ _ z)
        obtain ⟨it, gt, rt, ot, ga, ra, oa, A0⟩ := X0
        refine ⟨_, rfl, _, _, _, _, rfl, rfl, SqL.of (E2 _ _ hl1), atI_nat (j := 0) hcV, _, rfl, L, gts, rfl, SqL.of hL, hg0, by rw [hA.1, hB.1]; exact h4, fun l' hl' => ?_, fun L2 nL2 => wk_it (walk_zipN (K := K) hg0 hgm) (fun k H3 => Ex H2 H3 ∧ ∃ rl : List Addr, H3 L2 = some (.lst (rl.map V.ref)) ∧ All2 (RowAt (hid L2 H3)) rl ((List.range k).map fun k => (List.range (gaD d0 k).rng.length).map (joinAt (colD ds k))))
          ⟨Ex.new nL2, [], upd_same, .nil⟩ (fun k H3 _ z => hrows z.1) ?_ ?_⟩
        · obtain ⟨i, hi, e⟩ := List.getElem_of_mem hl'
          obtain ⟨r, _, z⟩ := hA.at_ (i := i) (a := l') (by rw [List.getElem?_eq_getElem hi, e])
          exact ⟨_, SqT.of (E02 _ _ z)⟩
        · rintro k x H3 H4 hk ⟨E3, rl, hL2, hR⟩ ⟨T0, rfl, nT, rfl⟩
          have E4 : Ex H3 (upd H3 T0 (.tup ((gss.map fun r => r.getD k 0).map V.ref))) := Ex.new nT
          have hT : upd H3 T0 (.tup ((gss.map fun r => r.getD k 0).map V.ref)) T0 = some (.tup ((gss.map fun r => r.getD k 0).map V.ref)) := upd_same
          have hL4 := E4 _ _ hL2
          generalize upd H3 T0 (.tup ((gss.map fun r => r.getD k 0).map V.ref)) = H4 at *
          have E04 := E02.trans (E3.trans E4)
          have hcol : All2 (GateAt H4) (gss.map fun r => r.getD k 0) (colD ds k) := by
            refine ⟨by rw [List.length_map]; unfold colD; rw [List.length_map]; exact hB.1, fun j a g e1 e2 => ?_⟩
            rw [List.getElem?_map] at e1
            unfold colD at e2
            rw [List.getElem?_map] at e2
            cases e : gss[j]? with
            | none => rw [e] at e1; cases e1
            | some r =>
              obtain ⟨d, hd, z⟩ := hB.at_ e
              rw [e] at e1
              rw [hd] at e2
              cases e1
              cases e2
              have hk2 : k < d.gates.length := by rw [← strip_len (hsame d (List.mem_of_getElem? hd))]; exact hk
              have hk3 : k < r.length := by rw [z.1]; exact hk2
              have y := z.2 k r[k] d.gates[k] (List.getElem?_eq_getElem hk3) (List.getElem?_eq_getElem hk2)
              have e5 : r.getD k 0 = r[k] := by rw [List.getD_eq_getElem?_getD, List.getElem?_eq_getElem hk3]; rfl
              show GateAt H4 (r.getD k 0) (gaD d k)
              rw [e5, gaD_at (List.getElem?_eq_getElem hk2)]
              exact y.te (.of E04)
          have hk0 : d0.gates[k]? = some d0.gates[k] := List.getElem?_eq_getElem hk
          have f0 := hfine d0 (List.mem_of_getElem? hd0)
          refine ⟨(by rw [wipe_set (by decide), wipe_wipe]), tYes_in ?_⟩
          simp only [wipe, _root_.L2.start, List.map_cons, List.map_nil, List.length_cons, List.length_nil, Nat.reduceAdd, Nat.reduceSub, List.replicate_succ, List.replicate_zero, List.cons_append, List.nil_append, List.set_cons_zero, List.set_cons_succ]
          refine ⟨_, rfl, T0, _, colD ds k, (gaD d0 k).rng.length, rfl, hT, hcol, by unfold colD; rw [List.length_map]; omega, by unfold colD; rw [List.length_map]; exact h4, fun g hg => ?_, by rw [gaD_at hk0]; exact f0.rng _ (List.mem_of_getElem? hk0), fun l3 H5 E5 n5 hR5 => ?_⟩
          · unfold colD at hg
            obtain ⟨d, hd, rfl⟩ := List.mem_map.mp hg
            have hs := hsame d hd
            have hk2 : k < d.gates.length := by rw [← strip_len hs]; exact hk
            rw [gaD_at hk0, gaD_at (List.getElem?_eq_getElem hk2)]
            exact (strip_rng hs f0.rw (hfine d hd).rw hk0 (List.getElem?_eq_getElem hk2)).symm
          · have hL5 := E5 _ _ hL4
            have nl : L2 ≠ l3 := ne_of_none hL4 n5
            obtain ⟨pl, hp1, hp2⟩ := hR5
            refine ⟨_, hL5, sz_lt (by rw [List.length_map, hR.1, List.length_map, List.length_range]; have := f0.gates; omega), (E3.trans (E4.trans E5)).mut nL2, rl ++ [l3], by rw [upd_same, List.map_append]; rfl, ?_⟩
            rw [hid_upd, List.range_succ, List.map_append]
            refine (hR.imp fun _ _ z => z.ex (ex_hid (E4.trans E5))).snoc ⟨pl, by rw [hid_ne nl.symm]; exact hp1, hp2.imp fun q r z => ?_⟩
            show hid L2 H5 q = _
            rw [hid_ne (ne_of z hL5 (by intro y; cases y))]
            exact z
        · rintro H3 ⟨E3, rl, hL2, hR⟩
          have f0 := hfine d0 (List.mem_of_getElem? hd0)
          have E03 := E02.trans E3
          exact ⟨c0, L2, d0, rowsD d0 ds, rl, it, gt, rt, ot, ga, ra, oa, rfl, A0.te (.of E03), hL2, hR.imp fun _ _ z => z.ex hid_ex, by unfold rowsD; rw [List.length_map, List.length_range], f0.gates, fun c' gt' ga' H4 E4 nc h => qQ c' H4 (E03.trans E4) (by
            cases e : H c' with
            | none => rfl
            | some o => exact absurd (E03 _ _ e) (by rw [nc]; exact fun z => nomatch z)) ⟨_, _, _, _, _, _, _, h⟩⟩
def spRefM : Sp := fun vs H Q _ => ∃ (l : Addr) (cs : List Addr) (ds : List CircD), vs = [.ref l] ∧ H l = some (.lst (cs.map V.ref)) ∧ All2 (CircX H) cs ds ∧ ds.length ≤ 100 ∧ (∀ d ∈ ds, Fine d) ∧ (ds = [] ∨ ∃ d0 d, ds[0]? = some d0 ∧ d ∈ ds ∧ stripD d0 ≠ stripD d) ∧ ∀ H', Ex H H' → Q (.bl true) H'
theorem sc_law_refused : FnScope ["circuits"] ["circuits"] (defScope s_law_refused) := ⟨rfl, rfl, rfl, by decide +kernel, rfl, by decide +kernel, by decide +kernel⟩
theorem ok_law_refused {C : Addr} (D : Dfd K mg "_law_refused" s_law_refused ["circuits"]) (U : ExcH K mg "BadArgument" C) (C1 : HasX P w K mg base 3 "merged" ["circuits"] (spMerged C)) : Has P w K mg base 4 "_law_refused" ["circuits"] spRefM := by
  obtain ⟨f_merged, d_merged, G_merged, g_merged, k_merged, b_merged⟩ := C1
  refine D.has fun f fd F => F.ok sc_law_refused (fun vs H Q E h => ?_) (fun cdv A outer s H vs Q E hr h => ?_)
  · obtain ⟨l, cs, ds, rfl, _⟩ := h
    rfl
  · obtain ⟨l, cs, ds, rfl, hl, hcs, h5, hf, hbad, q⟩ := h
    refine ⟨_, (pss_cons (ps_try_only (c := .ref C) rfl rfl ⟨rfl, by decide, .inl U.u.gC⟩ takes0
        (fun W pn xe tk _ => pss_one (ps_expr (pe_callS G_merged (hr.mono (by omega)) rfl g_merged k_merged b_merged (fun σ => passAt tk σ) (pa_cons (pv 0) pa_nil))))
        (fun a oe cls dd pn hz hf => pss_one (ps_ret pe_bl)))
      (pss_one (ps_ret pe_bl))), ?_⟩
    exact ⟨_, rfl, l, cs, ds, rfl, hl, hcs, h5, hf, fun _ H' E' => ⟨true, U.hit, fun _ a na => q H' E', fun z => nomatch z⟩, fun d0 hd0 hall => by
      rcases hbad with z | ⟨e0, e1, h0, h1, h2⟩
      · rw [z] at hd0; cases hd0
      · rw [hd0] at h0
        cases h0
        exact absurd (hall e1 h1) h2⟩
end
end G
namespace G
open PySem PySem.Spec PyProof.Rows L2 Evl TL
/-- rows as long as the gates' ranges -/
def ShapeD (gs : List GateD) (R : List (List (Int × Int))) : Prop := R.length = gs.length ∧ ∀ (k : Nat) (g : GateD) (r : List (Int × Int)), gs[k]? = some g → R[k]? = some r → r.length = g.rng.length
theorem withD_app {gs : List GateD} {R : List (List (Int × Int))} {g : GateD} {r : List (Int × Int)} (h : R.length = gs.length) : withD (gs ++ [g]) (R ++ [r]) = withD gs R ++ [{ g with rng := r }] := by
  unfold withD
  rw [List.zipWith_append h.symm]
  rfl
theorem ShapeD.snoc {gs : List GateD} {R : List (List (Int × Int))} {g : GateD} {r : List (Int × Int)} (h : ShapeD gs R) (e : r.length = g.rng.length) : ShapeD (gs ++ [g]) (R ++ [r]) := by
  refine ⟨by rw [List.length_append, List.length_append, h.1]; rfl, fun k g' r' h1 h2 => ?_⟩
  by_cases hk : k < gs.length
  · rw [List.getElem?_append_left hk] at h1
    rw [List.getElem?_append_left (by rw [h.1]; exact hk)] at h2
    exact h.2 k g' r' h1 h2
  · rw [List.getElem?_append_right (by omega)] at h1
    rw [List.getElem?_append_right (by rw [h.1]; omega), h.1] at h2
    cases e0 : k - gs.length with
    | zero =>
      rw [e0] at h1 h2
      cases h1
      cases h2
      exact e
    | succ j =>
      rw [e0] at h1
      cases h1
section
variable {P : Program} {w : World} {K : PySem.W.Frag} {mg : Str → Option Value} {base : Heap}
structure TxtM3 (mg : Str → Option Value) : Prop where
  max : mg "max" = none
  tuple : mg "tuple" = none
  len : mg "len" = none
  range : mg "range" = none
def spRanged : Sp := fun vs H Q _ => ∃ (p a c : Addr) (w : Int) (d : CircD) (it gt rt ot : Addr) (ga ra oa : List Addr), vs = [.ref p, .ref c, .int w] ∧ PoolOk p a H ∧ 0 < w ∧ w ≤ 100 ∧ CircAt H c d it gt rt ot ga ra oa ∧ d.gates.length ≤ 1000 ∧ (∀ g ∈ d.gates, g.rng.length ≤ 1000) ∧
  ∀ (R : List (List (Int × Int))) (c' gt' : Addr) (ga' : List Addr) (H' : Hp), Px p a H H' → H c' = none → ShapeD d.gates R → CircAt H' c' { d with gates := withD d.gates R } it gt' rt ot ga' ra oa → Q (.ref c') H'
theorem sc_law_ranged : FnScope ["pool", "circuit", "wide", "gates", "gate", "ranges", "pair", "low"] ["pool", "circuit", "wide"] (defScope s_law_ranged) := ⟨rfl, rfl, rfl, by decide +kernel, rfl, by decide +kernel, by decide +kernel⟩
theorem ok_law_ranged (D : Dfd K mg "_law_ranged" s_law_ranged ["pool", "circuit", "wide"]) (T : TxtM3 mg) (C1 : Has P w K mg base 2 "_law_draw" ["pool", "many"] spDrawX) : Has P w K mg base 3 "_law_ranged" ["pool", "circuit", "wide"] spRanged := by
  obtain ⟨f_law_draw, d_law_draw, G_law_draw, g_law_draw, k_law_draw, b_law_draw⟩ := C1
  refine D.has fun f fd F => F.ok sc_law_ranged (fun vs H Q E h => ?_) (fun cdv A outer s H vs Q E hr h => ?_)
  · obtain ⟨p, a, c, w, d, it, gt, rt, ot, ga, ra, oa, rfl, _⟩ := h
    rfl
  · obtain ⟨p, a, c, wd, d, it, gt, rt, ot, ga, ra, oa, rfl, hp, hw0, hw1, hc, hn, hrl, q⟩ := h
    refine ⟨_, (pss_cons (ps_set (i := 3) sc_law_ranged.nd rfl (.inl rfl) (pe_lst pa_nil))
    (pss_cons (ps_for PassesOwn.never rfl (pi_tup (pe_ix ix_tup (pv 1) pe_int (fun _ _ => rfl))) (pg_name (i := 4) sc_law_ranged.nd rfl (.inl rfl))
      (pss_cons (ps_set (i := 5) sc_law_ranged.nd rfl (.inl rfl) (pe_lst pa_nil))
      (pss_cons (ps_for PassesOwn.never rfl (pi_tup (pe_ix ix_tup (pv 4) pe_int (fun _ _ => rfl))) (pg_name (i := 6) sc_law_ranged.nd rfl (.inl rfl))
        (pss_cons (ps_set (i := 7) sc_law_ranged.nd rfl (.inl rfl) (pe_callB (call_max2 rfl) (by rfl) T.max (by decide +kernel) (pa_cons pe_int (pa_cons (pe_op op_sub (pe_ix ix_tup (pv 6) pe_int (fun _ _ => rfl)) (pe_call G_law_draw (hr.mono (by omega)) (by rfl) g_law_draw k_law_draw b_law_draw .nil pass0 (pa_cons (pv 0) (pa_cons (pv 2) pa_nil)))) pa_nil))))
        (pss_one (ps_expr (pe_bm PySem.F.plainAttrs_list PySem.F.slot_list_append PySem.F.type_list_append mt_append (pv 5) (pa_cons (pe_tup (pa_cons (pv 7) (pa_cons (pe_callB (call_max2 rfl) (by rfl) T.max (by decide +kernel) (pa_cons (pe_op op_add (pv 7) pe_int) (pa_cons (pe_op op_sub (pe_op op_add (pe_ix ix_tup (pv 6) pe_int (fun _ _ => rfl)) (pe_call G_law_draw (hr.mono (by omega)) (by rfl) g_law_draw k_law_draw b_law_draw .nil pass0 (pa_cons (pv 0) (pa_cons (pv 2) pa_nil)))) pe_int) pa_nil))) pa_nil))) pa_nil))))))
      (pss_one (ps_expr (pe_bm PySem.F.plainAttrs_list PySem.F.slot_list_append PySem.F.type_list_append mt_append (pv 3) (pa_cons (pe_tup (pa_cons (pe_ix ix_tup (pv 4) pe_int (fun _ _ => rfl)) (pa_cons (pe_ix ix_tup (pv 4) pe_int (fun _ _ => rfl)) (pa_cons (pe_ix ix_tup (pv 4) pe_int (fun _ _ => rfl)) (pa_cons (pe_callTy call_tuple_of (by rfl) T.tuple (by decide +kernel) (pa_cons (pv 5) pa_nil)) pa_nil))))) pa_nil)))))))
    (pss_one (ps_ret (pe_tup (pa_cons (pe_ix ix_tup (pv 1) pe_int (fun _ _ => rfl)) (pa_cons (pe_callTy call_tuple_of (by rfl) T.tuple (by decide +kernel) (pa_cons (pv 3) pa_nil)) (pa_cons (pe_ix ix_tup (pv 1) pe_int (fun _ _ => rfl)) (pa_cons (pe_ix ix_tup (pv 1) pe_int (fun _ _ => rfl)) pa_nil))))))))), ?_⟩
    have hgl := hc.gates.1
    refine ⟨Nat.zero_le _, fun sl nsl => ?_⟩
    have hsp := hp.ne nsl
    have X0 := (Px.refl hp).new (o := .lst []) nsl
    have hs0 : hid p (upd H sl (.lst [])) sl = some (.lst []) := by rw [hid_ne hsp]; exact upd_same
    have T0 : TEx H (upd H sl (.lst [])) := TEx.px X0
    generalize upd H sl (.lst []) = H0 at *
    refine ⟨_, rfl, _, _, _, _, rfl, rfl, SqT.of (T0 _ _ hc.top), atI_nat (j := 1) rfl, gt, rfl, ⟨_, SqT.of (T0 _ _ hc.gts)⟩, for_tup (K := K) (a := gt) (xs := ga.map V.ref)
      (fun i σ H' => Px p a H H' ∧ (∃ (as : List Addr) (R : List (List (Int × Int))), hid p H' sl = some (.lst (as.map V.ref)) ∧ All2 (GateAt H') as (withD (d.gates.take i) R) ∧ ShapeD (d.gates.take i) R) ∧ ∃ x4 x5 x6 x7 : Option V, σ = [some (.ref p), some (.ref c), some (.int wd), some (.ref sl), x4, x5, x6, x7])
      ⟨X0, ⟨[], [], hs0, .nil, ⟨by rw [List.take_zero]; rfl, fun k g r h => by rw [List.take_zero] at h; cases h⟩⟩, _, _, _, _, rfl⟩
      (fun i σ H' _ g => SqT.of (TEx.px g.1 _ _ hc.gts)) ?_ ?_⟩
    · rintro i x σ H1 hx ⟨X1, ⟨as, R, hs1, hA, hS⟩, x4, x5, x6, x7, rfl⟩
      obtain ⟨b, hb, rfl⟩ := refs_get hx
      obtain ⟨g, hg, t, pt, rgt, rga, a1, a2, a3, a4, a5⟩ := hc.gates.at_ hb
      have hi : i < d.gates.length := (List.getElem?_eq_some_iff.mp hg).1
      have hgr := hrl g (List.mem_of_getElem? hg)
      -- ranges
      refine ⟨Nat.zero_le _, fun rl nrl => ?_⟩
      have hrp := X1.pool.ne nrl
      have hrs : rl ≠ sl := (ne_of_none (hid_get hs1) nrl).symm
      have X2 := (Px.refl X1.pool).new (o := .lst []) nrl
      have hs2 := X2.get hs1
      have hr2 : hid p (upd H1 rl (.lst [])) rl = some (.lst []) := by rw [hid_ne hrp]; exact upd_same
      generalize upd H1 rl (.lst []) = H2 at *
      have T02 : TEx H H2 := (TEx.px X1).trans (TEx.px X2)
      refine ⟨_, rfl, _, _, _, _, rfl, rfl, SqT.of (T02 _ _ a1), atI_nat (j := 3) rfl, rgt, rfl, ⟨_, SqT.of (T02 _ _ a4)⟩, for_tup (K := K) (a := rgt) (xs := rga.map V.ref)
        (fun k σ H' => Px p a H1 H' ∧ hid p H' sl = some (.lst (as.map V.ref)) ∧ (∃ (ra2 : List Addr) (R2 : List (Int × Int)), hid p H' rl = some (.lst (ra2.map V.ref)) ∧ All2 (IntsAt H') ra2 R2 ∧ R2.length = k) ∧
          ∃ z6 z7 : Option V, σ = [some (.ref p), some (.ref c), some (.int wd), some (.ref sl), some (.ref b), some (.ref rl), z6, z7])
        ⟨X2, hs2, ⟨[], [], hr2, .nil, rfl⟩, _, _, rfl⟩ (fun k σ H' _ z => SqT.of ((TEx.px X1).trans (TEx.px z.1) _ _ a4)) ?_ ?_⟩
      · rintro k y σ H3 hy ⟨X3, hs3, ⟨ra2, R2, hr3, hR, hRk⟩, z6, z7, rfl⟩
        obtain ⟨pp, hpp, rfl⟩ := refs_get hy
        obtain ⟨r, hrk, hpr⟩ := a5.at_ hpp
        have hk : k < g.rng.length := (List.getElem?_eq_some_iff.mp hrk).1
        have T03 : TEx H H3 := (TEx.px X1).trans (TEx.px X3)
        refine ⟨_, rfl, _, _, _, _, rfl, rfl, SqT.of (T03 _ _ hpr), atI_nat (j := 0) rfl, _, rfl, _, rfl, p, a, wd, rfl, hw0, by omega, X3.pool, fun v1 H4 hv1 X4 _ => ⟨_, _, rfl, rfl, _, _, rfl, ?_⟩⟩
        generalize (if r.1 - (v1 : Int) > 0 then r.1 - (v1 : Int) else 0) = lo
        have T04 := T03.trans (TEx.px X4)
        refine ⟨_, rfl, .inl ⟨rfl, _, SqL.of (hid_get (X4.get hr3))⟩, _, rfl, _, rfl, _, _, rfl, rfl, _, rfl, _, _, _, _, rfl, rfl, SqT.of (T04 _ _ hpr), atI_nat (j := 1) rfl, _, rfl, _, rfl, p, a, wd, rfl, hw0, by omega, X4.pool, fun v2 H5 hv2 X5 _ => ⟨_, _, rfl, rfl, _, _, rfl, rfl, _, _, rfl, ?_⟩⟩
        generalize (if r.2 + (v2 : Int) - 2 > lo + 2 then r.2 + (v2 : Int) - 2 else lo + 2) = hi2
        refine ⟨(by show 2 ≤ sizeLine; decide), fun e ne => ?_⟩
        have X6 := (X4.trans X5).new (o := .tup [.int lo, .int hi2]) ne
        have hr6 := X6.get hr3
        have hs6 := X6.get hs3
        have T6 := TEx.px X6
        have he : upd H5 e (.tup [.int lo, .int hi2]) e = some (.tup [.int lo, .int hi2]) := upd_same
        generalize upd H5 e (.tup [.int lo, .int hi2]) = H6 at *
        refine ⟨rl, ra2.map V.ref, .ref e, rfl, rfl, hid_get hr6, sz_lt (by rw [List.length_map, hR.1]; omega), (X3.trans X6).mut nrl, keep1 hs6 hrs.symm hrp, ⟨ra2 ++ [e], R2 ++ [(lo, hi2)], ?_, ?_, ?_⟩, _, _, rfl⟩
        · rw [hid_new hrp, List.map_append]; rfl
        · exact (hR.imp fun _ _ z => (z.te T6).te (TEx.mut (hid_get hr6))).snoc (TEx.mut (hid_get hr6) _ _ he)
        · rw [List.length_append, hRk]; rfl
      · rintro σ H3 ⟨X3, hs3, ⟨ra2, R2, hr3, hR, hRk⟩, z6, z7, rfl⟩
        rw [List.length_map, a5.1] at hRk
        have T03 : TEx H H3 := (TEx.px X1).trans (TEx.px X3)
        refine ⟨_, rfl, .inl ⟨rfl, _, SqL.of (hid_get hs3)⟩, _, rfl, _, _, _, _, rfl, rfl, SqT.of (T03 _ _ a1), atI_nat (j := 0) rfl, _, rfl, _, _, _, _, rfl, rfl, SqT.of (T03 _ _ a1), atI_nat (j := 1) rfl, _, rfl, _, _, _, _, rfl, rfl, SqT.of (T03 _ _ a1), atI_nat (j := 2) rfl, _, rfl, _, _, rfl, .inl ⟨SqL.of (hid_get hr3), fun rt' nrt => ⟨(by show 4 ≤ sizeLine; decide), fun cg ncg => ?_⟩⟩⟩
        have X5 := ((Px.refl X3.pool).new (o := .tup (ra2.map V.ref)) nrt).new (o := .tup [.str g.name, .ref t, .ref pt, .ref rt']) ncg
        have hrt : upd (upd H3 rt' (.tup (ra2.map V.ref))) cg (.tup [.str g.name, .ref t, .ref pt, .ref rt']) rt' = some (.tup (ra2.map V.ref)) := Ex.new ncg _ _ upd_same
        have hcg : upd (upd H3 rt' (.tup (ra2.map V.ref))) cg (.tup [.str g.name, .ref t, .ref pt, .ref rt']) cg = some (.tup [.str g.name, .ref t, .ref pt, .ref rt']) := upd_same
        have hs5 := X5.get hs3
        generalize upd (upd H3 rt' (.tup (ra2.map V.ref))) cg (.tup [.str g.name, .ref t, .ref pt, .ref rt']) = H5 at *
        have T5 := TEx.px X5
        have T15 := (TEx.px X3).trans T5
        have TM : ∀ {l : List V}, TEx H5 (upd H5 sl (.lst l)) := fun {l} => TEx.mut (hid_get hs5)
        refine ⟨sl, as.map V.ref, .ref cg, rfl, rfl, hid_get hs5, sz_lt (by rw [List.length_map, hA.1]; unfold withD; rw [List.length_zipWith, List.length_take]; omega), (X1.trans (X3.trans X5)).mut nsl, ⟨as ++ [cg], R ++ [R2], ?_, ?_, ?_⟩, _, _, _, _, rfl⟩
        · rw [hid_new hsp, List.map_append]; rfl
        · rw [take_snoc1 hg, withD_app hS.1]
          exact (hA.imp fun _ _ z => (z.te T15).te TM).snoc ⟨t, pt, rt', ra2, TM _ _ hcg, TM _ _ ((T03.trans T5) _ _ a2), TM _ _ ((T03.trans T5) _ _ a3), TM _ _ hrt, hR.imp fun _ _ z => (z.te T5).te TM⟩
        · rw [take_snoc1 hg]
          exact hS.snoc hRk
    · rintro σ H1 ⟨X1, ⟨as, R, hs1, hA, hS⟩, x4, x5, x6, x7, rfl⟩
      have e : (ga.map V.ref).length = d.gates.length := by rw [List.length_map, hgl]
      rw [e, List.take_length] at hA hS
      have T1 := TEx.px X1
      refine ⟨_, rfl, _, _, _, _, rfl, rfl, SqT.of (T1 _ _ hc.top), atI_nat (j := 0) rfl, _, rfl, _, _, rfl, .inl ⟨SqL.of (hid_get hs1), fun g2 ng2 => ⟨_, rfl, _, _, _, _, rfl, rfl, SqT.of ((T1.trans (TEx.new ng2)) _ _ hc.top), atI_nat (j := 2) rfl, _, rfl, _, _, _, _, rfl, rfl, SqT.of ((T1.trans (TEx.new ng2)) _ _ hc.top), atI_nat (j := 3) rfl, (by show 4 ≤ sizeLine; decide), fun c2 nc2 => ?_⟩⟩⟩
      have X3 := ((Px.refl X1.pool).new (o := .tup (as.map V.ref)) ng2).new (o := .tup [.ref it, .ref g2, .ref rt, .ref ot]) nc2
      have hg2 : upd (upd H1 g2 (.tup (as.map V.ref))) c2 (.tup [.ref it, .ref g2, .ref rt, .ref ot]) g2 = some (.tup (as.map V.ref)) := Ex.new nc2 _ _ upd_same
      have hc2 : upd (upd H1 g2 (.tup (as.map V.ref))) c2 (.tup [.ref it, .ref g2, .ref rt, .ref ot]) c2 = some (.tup [.ref it, .ref g2, .ref rt, .ref ot]) := upd_same
      have n2 : H c2 = none := (X1.new (o := .tup (as.map V.ref)) ng2).free nc2
      generalize upd (upd H1 g2 (.tup (as.map V.ref))) c2 (.tup [.ref it, .ref g2, .ref rt, .ref ot]) = H3 at *
      have T13 := TEx.px X3
      have hcc := hc.te (T1.trans T13)
      exact q R c2 g2 as H3 (X1.trans X3) n2 hS ⟨hc2, hcc.ins, hg2, hcc.rgs, hcc.ots, hA.imp fun _ _ z => z.te T13, hcc.regs, hcc.outs⟩
end
end G
namespace G
open PySem PySem.Spec PyProof.Rows L2 Evl TL
section
variable {P : Program} {w : World} {K : PySem.W.Frag} {mg : Str → Option Value} {base : Heap}
def spInside : Sp := fun vs H Q _ => ∃ (c c2 : Addr) (d d2 : CircD), vs = [.ref c, .ref c2] ∧ CircX H c d ∧ CircX H c2 d2 ∧ d.gates.length ≤ 1000 ∧ (∀ g ∈ d.gates, g.rng.length ≤ 1000) ∧ d.gates.length = d2.gates.length ∧ (∀ (k : Nat) (g g2 : GateD), d.gates[k]? = some g → d2.gates[k]? = some g2 → g.rng.length = g2.rng.length) ∧ Q (.bl (inD d d2)) H
theorem sc_law_inside : FnScope ["circuit", "other", "k", "j"] ["circuit", "other"] (defScope s_law_inside) := ⟨rfl, rfl, rfl, by decide +kernel, rfl, by decide +kernel, by decide +kernel⟩
theorem ok_law_inside (D : Dfd K mg "_law_inside" s_law_inside ["circuit", "other"]) (T : TxtM3 mg) : Has P w K mg base 1 "_law_inside" ["circuit", "other"] spInside := by
  refine D.has fun f fd F => F.ok sc_law_inside (fun vs H Q E h => ?_) (fun cdv A outer s H vs Q E hr h => ?_)
  · obtain ⟨c, c2, d, d2, rfl, _⟩ := h
    rfl
  · obtain ⟨c, c2, d, d2, rfl, ⟨it, gt, rt, ot, ga, ra, oa, hc⟩, ⟨it2, gt2, rt2, ot2, ga2, ra2, oa2, hc2⟩, hn, hn2, hlen, hrl, q⟩ := h
    refine ⟨_, (pss_cons (ps_for PassesOwn.never rfl (pi_range1 rfl T.range (pa_cons (pe_callB call_len_seq (by rfl) T.len (by decide +kernel) (pa_cons (pe_ix ix_tup (pv 0) pe_int (fun _ _ => rfl)) pa_nil)) pa_nil)) (pg_name (i := 2) sc_law_inside.nd rfl (.inl rfl))
      (pss_one (ps_for PassesOwn.never rfl (pi_range1 rfl T.range (pa_cons (pe_callB call_len_seq (by rfl) T.len (by decide +kernel) (pa_cons (pe_ix ix_tup (pe_ix ix_tup (pe_ix ix_tup (pv 0) pe_int (fun _ _ => rfl)) (pv 2) (fun _ _ => rfl)) pe_int (fun _ _ => rfl)) pa_nil)) pa_nil)) (pg_name (i := 3) sc_law_inside.nd rfl (.inl rfl))
        (pss_one (ps_if (PW.pt (pw_or (pt_cmpR op_lt (pe_ix ix_tup (pe_ix ix_tup (pe_ix ix_tup (pe_ix ix_tup (pe_ix ix_tup (pv 0) pe_int (fun _ _ => rfl)) (pv 2) (fun _ _ => rfl)) pe_int (fun _ _ => rfl)) (pv 3) (fun _ _ => rfl)) pe_int (fun _ _ => rfl)) (pe_ix ix_tup (pe_ix ix_tup (pe_ix ix_tup (pe_ix ix_tup (pe_ix ix_tup (pv 1) pe_int (fun _ _ => rfl)) (pv 2) (fun _ _ => rfl)) pe_int (fun _ _ => rfl)) (pv 3) (fun _ _ => rfl)) pe_int (fun _ _ => rfl)) (nomark _)) (pw_or1 (pt_cmpR op_gt (pe_ix ix_tup (pe_ix ix_tup (pe_ix ix_tup (pe_ix ix_tup (pe_ix ix_tup (pv 0) pe_int (fun _ _ => rfl)) (pv 2) (fun _ _ => rfl)) pe_int (fun _ _ => rfl)) (pv 3) (fun _ _ => rfl)) pe_int (fun _ _ => rfl)) (pe_ix ix_tup (pe_ix ix_tup (pe_ix ix_tup (pe_ix ix_tup (pe_ix ix_tup (pv 1) pe_int (fun _ _ => rfl)) (pv 2) (fun _ _ => rfl)) pe_int (fun _ _ => rfl)) (pv 3) (fun _ _ => rfl)) pe_int (fun _ _ => rfl)) (nomark _)))))
          (pss_one (ps_ret pe_bl))
          pss_nil)))))
    (pss_one (ps_ret pe_bl))), ?_⟩
    have hgl := hc.gates.1
    refine ⟨_, rfl, _, _, _, _, rfl, rfl, SqT.of hc.top, atI_nat (j := 1) rfl, _, _, rfl, .inr (SqT.of hc.gts), _, rfl, by omega, by rw [List.length_map, hgl]; omega, for_range (n := ((((ga.map V.ref).length : Nat) : Int)).toNat)
      (fun k σ H' => H' = H ∧ (∀ (j : Nat) (g g2 : GateD), j < k → d.gates[j]? = some g → d2.gates[j]? = some g2 → okG (g, g2) = true) ∧ ∃ z2 z3 : Option V, σ = [some (.ref c), some (.ref c2), z2, z3]) ⟨rfl, fun j g g2 h => absurd h (Nat.not_lt_zero _), _, _, rfl⟩ ?_ ?_⟩
    · rintro k σ H' hk ⟨rfl, hall, z2, z3, rfl⟩
      rw [Int.toNat_natCast, List.length_map, hgl] at hk
      rw [Int.zero_add]
      obtain ⟨g, hg⟩ : ∃ g, d.gates[k]? = some g := ⟨_, List.getElem?_eq_getElem hk⟩
      obtain ⟨g2, hg2⟩ : ∃ g2, d2.gates[k]? = some g2 := ⟨_, List.getElem?_eq_getElem (by omega)⟩
      obtain ⟨b, hb, t, pt, rgt, rga, a1, a2, a3, a4, a5⟩ := hc.gates.of hg
      obtain ⟨b2, hb2, t2, pt2, rgt2, rga2, c1, c2', c3, c4, c5⟩ := hc2.gates.of hg2
      have hbV : (ga.map V.ref)[k]? = some (.ref b) := by rw [List.getElem?_map, hb]; rfl
      have hbV2 : (ga2.map V.ref)[k]? = some (.ref b2) := by rw [List.getElem?_map, hb2]; rfl
      have hrg := hrl k g g2 hg hg2
      have hrn := hn2 g (List.mem_of_getElem? hg)
      have hal := a5.1
      refine ⟨_, rfl, _, _, _, _, rfl, rfl, SqT.of hc.top, atI_nat (j := 1) rfl, _, rfl, _, _, _, _, rfl, rfl, SqT.of hc.gts, atI_nat hbV, _, _, _, _, rfl, rfl, SqT.of a1, atI_nat (j := 3) rfl, _, _, rfl, .inr (SqT.of a4), _, rfl, by omega, by rw [List.length_map, hal]; omega, for_range (n := ((((rga.map V.ref).length : Nat) : Int)).toNat)
        (fun j σ H2 => H2 = H' ∧ (∀ (i : Nat) (r r2 : Int × Int), i < j → g.rng[i]? = some r → g2.rng[i]? = some r2 → okP (r, r2) = true) ∧ ∃ z3 : Option V, σ = [some (.ref c), some (.ref c2), some (.int (k : Nat)), z3]) ⟨rfl, fun i r r2 h => absurd h (Nat.not_lt_zero _), _, rfl⟩ ?_ ?_⟩
      · rintro j σ H2 hj ⟨rfl, hin, z3, rfl⟩
        rw [Int.toNat_natCast, List.length_map, hal] at hj
        rw [Int.zero_add]
        obtain ⟨r, hr'⟩ : ∃ r, g.rng[j]? = some r := ⟨_, List.getElem?_eq_getElem hj⟩
        obtain ⟨r2, hr2⟩ : ∃ r2, g2.rng[j]? = some r2 := ⟨_, List.getElem?_eq_getElem (by omega)⟩
        obtain ⟨e, he, hre⟩ := a5.of hr'
        obtain ⟨e2, he2, hre2⟩ := c5.of hr2
        have heV : (rga.map V.ref)[j]? = some (.ref e) := by rw [List.getElem?_map, he]; rfl
        have heV2 : (rga2.map V.ref)[j]? = some (.ref e2) := by rw [List.getElem?_map, he2]; rfl
        have bad : okP (r, r2) = false → inD d d2 = false := fun z => zip_not hg hg2 (zip_not hr' hr2 z)
        refine ⟨_, rfl, _, _, _, _, rfl, rfl, SqT.of hc.top, atI_nat (j := 1) rfl, _, rfl, _, _, _, _, rfl, rfl, SqT.of hc.gts, atI_nat hbV, _, _, _, _, rfl, rfl, SqT.of a1, atI_nat (j := 3) rfl, _, rfl, _, _, _, _, rfl, rfl, SqT.of a4, atI_nat heV, _, _, _, _, rfl, rfl, SqT.of hre, atI_nat (j := 0) rfl,
          _, rfl, _, _, _, _, rfl, rfl, SqT.of hc2.top, atI_nat (j := 1) rfl, _, rfl, _, _, _, _, rfl, rfl, SqT.of hc2.gts, atI_nat hbV2, _, _, _, _, rfl, rfl, SqT.of c1, atI_nat (j := 3) rfl, _, rfl, _, _, _, _, rfl, rfl, SqT.of c4, atI_nat heV2, _, _, _, _, rfl, rfl, SqT.of hre2, atI_nat (j := 0) rfl, _, _, rfl, rfl, _, rfl, ite2 (fun h1 => ?_) (fun h1 => ?_)⟩
        · have h1 := of_decide_eq_true h1
          rw [bad (by show (!(decide (r.1 < r2.1) || decide (r.2 > r2.2))) = false; rw [decide_eq_true h1]; rfl)] at q
          exact q
        · refine ⟨_, rfl, _, _, _, _, rfl, rfl, SqT.of hc.top, atI_nat (j := 1) rfl, _, rfl, _, _, _, _, rfl, rfl, SqT.of hc.gts, atI_nat hbV, _, _, _, _, rfl, rfl, SqT.of a1, atI_nat (j := 3) rfl, _, rfl, _, _, _, _, rfl, rfl, SqT.of a4, atI_nat heV, _, _, _, _, rfl, rfl, SqT.of hre, atI_nat (j := 1) rfl,
            _, rfl, _, _, _, _, rfl, rfl, SqT.of hc2.top, atI_nat (j := 1) rfl, _, rfl, _, _, _, _, rfl, rfl, SqT.of hc2.gts, atI_nat hbV2, _, _, _, _, rfl, rfl, SqT.of c1, atI_nat (j := 3) rfl, _, rfl, _, _, _, _, rfl, rfl, SqT.of c4, atI_nat heV2, _, _, _, _, rfl, rfl, SqT.of hre2, atI_nat (j := 1) rfl, _, _, rfl, rfl, _, rfl, ite2 (fun h2 => ?_) (fun h2 => ?_)⟩
          · have h2 := of_decide_eq_true h2
            rw [bad (by show (!(decide (r.1 < r2.1) || decide (r.2 > r2.2))) = false; rw [decide_eq_true h2, Bool.or_true]; rfl)] at q
            exact q
          · refine ⟨rfl, fun i s s2 hi q1 q2 => ?_, _, rfl⟩
            rcases Nat.lt_succ_iff_lt_or_eq.mp hi with z | z
            · exact hin i s s2 z q1 q2
            · subst z
              rw [hr'] at q1
              rw [hr2] at q2
              cases q1
              cases q2
              show (!(decide (r.1 < r2.1) || decide (r.2 > r2.2))) = true
              rw [decide_eq_false (fun z => h1 (decide_eq_true z)), decide_eq_false (fun z => h2 (decide_eq_true z))]
              rfl
      · rintro σ H2 ⟨rfl, hin, z3, rfl⟩
        rw [Int.toNat_natCast, List.length_map, hal] at hin
        refine ⟨rfl, fun j s s2 hj q1 q2 => ?_, _, _, rfl⟩
        rcases Nat.lt_succ_iff_lt_or_eq.mp hj with z | z
        · exact hall j s s2 z q1 q2
        · subst z
          rw [hg] at q1
          rw [hg2] at q2
          cases q1
          cases q2
          exact zip_all fun i r r2 h1 h2 => hin i r r2 (List.getElem?_eq_some_iff.mp h1).1 h1 h2
    · rintro σ H' ⟨rfl, hall, z2, z3, rfl⟩
      rw [Int.toNat_natCast, List.length_map, hgl] at hall
      have : inD d d2 = true := zip_all fun k g g2 h1 h2 => hall k g g2 (List.getElem?_eq_some_iff.mp h1).1 h1 h2
      rw [this] at q
      exact q
theorem strOk_zz : PyData.strOk ("zz" : Str) = true ∧ PyData.strOk ("i0" : Str) = true := by decide +kernel
/-- a circuit that is not like d -/
def Odd (d e : CircD) : Prop := stripD d ≠ stripD e ∧ Fine e
theorem odd_ins {d : CircD} (h : Fine d) : Odd d { d with ins := d.ins ++ [("zz" : Str)] } := by
  refine ⟨fun z => ?_, h.gates, ⟨fun x hx => ?_, h.tx.gates, h.tx.regs, h.tx.outs⟩, h.rw, h.rng⟩
  · have := congrArg (fun x => x.1.length) z
    simp [stripD] at this
  · rcases List.mem_append.mp hx with y | y
    · exact h.tx.ins x y
    · rw [List.mem_singleton.mp y]; exact strOk_zz.1
theorem odd_outs {d : CircD} (h : Fine d) : Odd d { d with outs := d.outs ++ [(("zz" : Str), ("i0" : Str))] } := by
  refine ⟨fun z => ?_, h.gates, ⟨h.tx.ins, h.tx.gates, h.tx.regs, fun o ho => ?_⟩, h.rw, h.rng⟩
  · have := congrArg (fun x => x.2.2.2.length) z
    simp [stripD] at this
  · rcases List.mem_append.mp ho with y | y
    · exact h.tx.outs o y
    · rw [List.mem_singleton.mp y]; exact strOk_zz
def zzReg : RegD := ⟨"zz", "i0", (0, 0), (0, 1), 0, 0, true⟩
theorem odd_regs {d : CircD} (h : Fine d) : Odd d { d with regs := d.regs ++ [zzReg] } := by
  refine ⟨fun z => ?_, h.gates, ⟨h.tx.ins, h.tx.gates, fun r hr => ?_, h.tx.outs⟩, h.rw, h.rng⟩
  · have := congrArg (fun x => x.2.2.1.length) z
    simp [stripD] at this
  · rcases List.mem_append.mp hr with y | y
    · exact h.tx.regs r y
    · rw [List.mem_singleton.mp y]; exact strOk_zz
def zzGate : GateD := ⟨"zz", [true], [], []⟩
theorem odd_more {d : CircD} (h : Fine d) (hn : d.gates.length ≤ 900) : Odd d { d with gates := d.gates ++ [zzGate] } := by
  refine ⟨fun z => ?_, by rw [List.length_append]; show _ + 1 ≤ 1000; omega, ⟨h.tx.ins, fun g hg => ?_, h.tx.regs, h.tx.outs⟩, fun g hg => ?_, fun g hg => ?_⟩
  · have := congrArg (fun x => x.2.1.length) z
    simp [stripD] at this
  · rcases List.mem_append.mp hg with y | y
    · exact h.tx.gates g y
    · rw [List.mem_singleton.mp y]; exact ⟨strOk_zz.1, fun x hx => by cases hx⟩
  · rcases List.mem_append.mp hg with y | y
    · exact h.rw g y
    · rw [List.mem_singleton.mp y]; rfl
  · rcases List.mem_append.mp hg with y | y
    · exact h.rng g y
    · rw [List.mem_singleton.mp y]; exact Nat.zero_le _
def flipG (g : GateD) : GateD := { g with tab := g.tab.map (!·) }
theorem odd_flip {d : CircD} {g : GateD} (h : Fine d) (hg : d.gates[0]? = some g) (ht : 0 < g.tab.length) : Odd d { d with gates := flipG g :: d.gates.drop 1 } := by
  obtain ⟨r, hr⟩ : ∃ r, d.gates = g :: r := by
    cases e : d.gates with
    | nil => rw [e] at hg; cases hg
    | cons a r => rw [e] at hg; cases hg; exact ⟨r, rfl⟩
  have mem : ∀ {x}, x ∈ d.gates.drop 1 → x ∈ d.gates := fun hx => List.mem_of_mem_drop hx
  have mg : g ∈ d.gates := List.mem_of_getElem? hg
  refine ⟨fun z => ?_, ?_, ⟨h.tx.ins, fun x hx => ?_, h.tx.regs, h.tx.outs⟩, fun x hx => ?_, fun x hx => ?_⟩
  · have := congrArg (fun x => x.2.1) z
    simp only [stripD, hr, List.map_cons] at this
    have := (List.cons.inj this).1
    have h2 := congrArg (fun x => x.2.1) this
    simp only [gateS, flipG] at h2
    cases e : g.tab with
    | nil => rw [e] at ht; cases ht
    | cons b bs => rw [e] at h2; cases b <;> simp at h2
  · have := h.gates
    rw [hr] at this ⊢
    simpa using this
  · rcases List.mem_cons.mp hx with y | y
    · rw [y]; exact h.tx.gates g mg
    · exact h.tx.gates x (mem y)
  · rcases List.mem_cons.mp hx with y | y
    · rw [y]; exact h.rw g mg
    · exact h.rw x (mem y)
  · rcases List.mem_cons.mp hx with y | y
    · rw [y]; exact h.rng g mg
    · exact h.rng x (mem y)
def spOther : Sp := fun vs H Q _ => ∃ (p a c : Addr) (d : CircD), vs = [.ref p, .ref c] ∧ PoolOk p a H ∧ CircX H c d ∧ Fine d ∧ d.gates.length ≤ 900 ∧ d.ins.length ≤ 1000 ∧ d.regs.length ≤ 1000 ∧ d.outs.length ≤ 1000 ∧ (∀ g ∈ d.gates, 0 < g.tab.length ∧ g.tab.length ≤ 1000) ∧
  ∀ (c' : Addr) (e : CircD) (H' : Hp), Px p a H H' → Odd d e → CircX H' c' e → Q (.ref c') H'
theorem exN {H H' : Hp} {l : Addr} (e : Ex H H') (n : H' l = none) : H l = none := by
  cases h : H l with
  | none => rfl
  | some o => rw [e _ _ h] at n; cases n
/-- the forms so far -/
def Forms (d : CircD) (H' : Hp) (L : Addr) (n : Nat) : Prop := ∃ (cs : List Addr) (es : List CircD), H' L = some (.lst (cs.map V.ref)) ∧ es.length = n ∧ All2 (CircX H') cs es ∧ ∀ e ∈ es, Odd d e
theorem CircX.tex {H H' : Hp} {c : Addr} {d : CircD} (h : CircX H c d) (e : TEx H H') : CircX H' c d := by
  obtain ⟨it, gt, rt, ot, ga, ra, oa, hc⟩ := h
  exact ⟨it, gt, rt, ot, ga, ra, oa, hc.te e⟩
theorem Forms.more {d e : CircD} {H1 H2 : Hp} {L c : Addr} {n : Nat} (F : Forms d H1 L n) (E : Ex H1 H2) (X : CircX H2 c e) (O : Odd d e) :
    ∃ cs : List Addr, H2 L = some (.lst (cs.map V.ref)) ∧ cs.length = n ∧ Forms d (upd H2 L (.lst (cs.map V.ref ++ [.ref c]))) L (n + 1) := by
  obtain ⟨cs, es, hL, hn, hA, hO⟩ := F
  have hL2 := E _ _ hL
  refine ⟨cs, hL2, by rw [hA.1, hn], cs ++ [c], es ++ [e], by rw [upd_same, List.map_append]; rfl, by rw [List.length_append, hn]; rfl, (hA.imp fun _ _ z => (z.ex E).tex (TEx.mut hL2)).snoc (X.tex (TEx.mut hL2)), fun x hx => ?_⟩
  rcases List.mem_append.mp hx with y | y
  · exact hO x y
  · rw [List.mem_singleton.mp y]; exact O
theorem sc_law_other : FnScope ["pool", "circuit", "forms", "gate", "flipped", "bit"] ["pool", "circuit"] (defScope s_law_other) := ⟨rfl, rfl, rfl, by decide +kernel, rfl, by decide +kernel, by decide +kernel⟩
theorem ok_law_other (D : Dfd K mg "_law_other" s_law_other ["pool", "circuit"]) (T : TxtM3 mg) (C1 : Has P w K mg base 2 "_law_draw" ["pool", "many"] spDrawX) : Has P w K mg base 3 "_law_other" ["pool", "circuit"] spOther := by
  obtain ⟨f_law_draw, d_law_draw, G_law_draw, g_law_draw, k_law_draw, b_law_draw⟩ := C1
  refine D.has fun f fd F => F.ok sc_law_other (fun vs H Q E h => ?_) (fun cdv A outer s H vs Q E hr h => ?_)
  · obtain ⟨p, a, c, d, rfl, _⟩ := h
    rfl
  · obtain ⟨p, a, c, d, rfl, hp, ⟨it, gt, rt, ot, ga, ra, oa, hc⟩, hF, hn, hil, hrl, hol, htab, q⟩ := h
    refine ⟨_, (pss_cons (ps_set (i := 2) sc_law_other.nd rfl (.inl rfl) (pe_lst (pa_cons (pe_tup (pa_cons (pe_op op_catA (pe_ix ix_tup (pv 1) pe_int (fun _ _ => rfl)) (pe_tup (pa_cons pe_str pa_nil))) (pa_cons (pe_ix ix_tup (pv 1) pe_int (fun _ _ => rfl)) (pa_cons (pe_ix ix_tup (pv 1) pe_int (fun _ _ => rfl)) (pa_cons (pe_ix ix_tup (pv 1) pe_int (fun _ _ => rfl)) pa_nil))))) pa_nil)))
    (pss_cons (ps_expr (pe_bm PySem.F.plainAttrs_list PySem.F.slot_list_append PySem.F.type_list_append mt_append (pv 2) (pa_cons (pe_tup (pa_cons (pe_ix ix_tup (pv 1) pe_int (fun _ _ => rfl)) (pa_cons (pe_ix ix_tup (pv 1) pe_int (fun _ _ => rfl)) (pa_cons (pe_ix ix_tup (pv 1) pe_int (fun _ _ => rfl)) (pa_cons (pe_op op_catA (pe_ix ix_tup (pv 1) pe_int (fun _ _ => rfl)) (pe_tup (pa_cons (pe_tup (pa_cons pe_str (pa_cons pe_str pa_nil))) pa_nil))) pa_nil))))) pa_nil)))
    (pss_cons (ps_expr (pe_bm PySem.F.plainAttrs_list PySem.F.slot_list_append PySem.F.type_list_append mt_append (pv 2) (pa_cons (pe_tup (pa_cons (pe_ix ix_tup (pv 1) pe_int (fun _ _ => rfl)) (pa_cons (pe_ix ix_tup (pv 1) pe_int (fun _ _ => rfl)) (pa_cons (pe_op op_catA (pe_ix ix_tup (pv 1) pe_int (fun _ _ => rfl)) (pe_tup (pa_cons (pe_tup (pa_cons pe_str (pa_cons pe_str (pa_cons (pe_tup (pa_cons pe_int (pa_cons pe_int pa_nil))) (pa_cons (pe_tup (pa_cons pe_int (pa_cons pe_int pa_nil))) (pa_cons pe_int (pa_cons pe_int (pa_cons pe_bl pa_nil)))))))) pa_nil))) (pa_cons (pe_ix ix_tup (pv 1) pe_int (fun _ _ => rfl)) pa_nil))))) pa_nil)))
    (pss_cut (ps_if (pt_cmpR op_gt (pe_callB call_len_seq (by rfl) T.len (by decide +kernel) (pa_cons (pe_ix ix_tup (pv 1) pe_int (fun _ _ => rfl)) pa_nil)) pe_int (nomark _))
      (pss_cons (ps_set (i := 3) sc_law_other.nd rfl (.inl rfl) (pe_ix ix_tup (pe_ix ix_tup (pv 1) pe_int (fun _ _ => rfl)) pe_int (fun _ _ => rfl)))
      (pss_cons (ps_set (i := 4) sc_law_other.nd rfl (.inl rfl) (pe_callTy call_tuple_of (by rfl) T.tuple (by decide +kernel) (pa_cons (pe_lc (own := [("bit", 5)]) (g := gName 5) (tt := tYes) rfl sc_law_other.nd (pi_tup (pe_ix ix_tup (pv 3) pe_int (fun _ _ => rfl))) (blkOk_by (N := ["pool", "circuit", "forms", "gate", "flipped", "bit"]) (sc := defScope s_law_other) (own := [("bit", 5)]) (by decide +kernel)) (fun _ _ _ _ _ => (pg_name (i := 5) sc_law_other.nd rfl (.inl rfl))) (fun _ _ _ _ _ => pts_nil) (fun _ _ _ _ _ => (pe_not (pv 5)))) pa_nil)))
      (pss_cons (ps_expr (pe_bm PySem.F.plainAttrs_list PySem.F.slot_list_append PySem.F.type_list_append mt_append (pv 2) (pa_cons (pe_tup (pa_cons (pe_ix ix_tup (pv 1) pe_int (fun _ _ => rfl)) (pa_cons (pe_op op_catA (pe_tup (pa_cons (pe_tup (pa_cons (pe_ix ix_tup (pv 3) pe_int (fun _ _ => rfl)) (pa_cons (pv 4) (pa_cons (pe_ix ix_tup (pv 3) pe_int (fun _ _ => rfl)) (pa_cons (pe_ix ix_tup (pv 3) pe_int (fun _ _ => rfl)) pa_nil))))) pa_nil)) (pe_slice sl_tupA (pe_ix ix_tup (pv 1) pe_int (fun _ _ => rfl)) (po_some pe_int) po_none)) (pa_cons (pe_ix ix_tup (pv 1) pe_int (fun _ _ => rfl)) (pa_cons (pe_ix ix_tup (pv 1) pe_int (fun _ _ => rfl)) pa_nil))))) pa_nil)))
      (pss_one (ps_expr (pe_bm PySem.F.plainAttrs_list PySem.F.slot_list_append PySem.F.type_list_append mt_append (pv 2) (pa_cons (pe_tup (pa_cons (pe_ix ix_tup (pv 1) pe_int (fun _ _ => rfl)) (pa_cons (pe_op op_catA (pe_ix ix_tup (pv 1) pe_int (fun _ _ => rfl)) (pe_tup (pa_cons (pe_tup (pa_cons pe_str (pa_cons (pe_tup (pa_cons pe_bl pa_nil)) (pa_cons (pe_tup pa_nil) (pa_cons (pe_tup pa_nil) pa_nil))))) pa_nil))) (pa_cons (pe_ix ix_tup (pv 1) pe_int (fun _ _ => rfl)) (pa_cons (pe_ix ix_tup (pv 1) pe_int (fun _ _ => rfl)) pa_nil))))) pa_nil)))))))
      pss_nil)
    (pss_one (ps_ret (pe_ix ix_list (pv 2) (pe_call G_law_draw (hr.mono (by omega)) (by rfl) g_law_draw k_law_draw b_law_draw .nil pass0 (pa_cons (pv 0) (pa_cons (pe_callB call_len_seq (by rfl) T.len (by decide +kernel) (pa_cons (pv 2) pa_nil)) pa_nil))) (fun _ _ => rfl)))))))), ?_⟩
    have hgl := hc.gates.1
    have hral := hc.regs.1
    have hoal := hc.outs.1
    -- one more input
    refine ⟨_, rfl, _, _, _, _, rfl, rfl, SqT.of hc.top, atI_nat (j := 0) rfl, (by show 1 ≤ sizeLine; decide), fun u nu => cat_tup (K := K) (Ex.new nu _ _ hc.ins) upd_same (sz_of (by rw [List.length_map]; show _ + 1 ≤ _; omega)) fun c1 H2 E2 hc1 => ?_⟩
    have E02 := (Ex.new (o := .tup [.str "zz"]) nu).trans E2
    have hcA := hc.te (.of E02)
    refine ⟨_, rfl, _, _, _, _, rfl, rfl, SqT.of hcA.top, atI_nat (j := 1) rfl, _, rfl, _, _, _, _, rfl, rfl, SqT.of hcA.top, atI_nat (j := 2) rfl, _, rfl, _, _, _, _, rfl, rfl, SqT.of hcA.top, atI_nat (j := 3) rfl, (by show 4 ≤ sizeLine; decide), fun c2 nc2 => ⟨(by show 1 ≤ sizeLine; decide), fun L nL => ?_⟩⟩
    have E4 : Ex H (upd (upd H2 c2 (.tup [.ref c1, .ref gt, .ref rt, .ref ot])) L (.lst [.ref c2])) := E02.trans ((Ex.new nc2).trans (Ex.new nL))
    have nL0 : H L = none := exN (E02.trans (Ex.new nc2)) nL
    have hLp : L ≠ p := hp.ne nL0
    have F1 : Forms d (upd (upd H2 c2 (.tup [.ref c1, .ref gt, .ref rt, .ref ot])) L (.lst [.ref c2])) L 1 := by
      have hcB := hc.te (.of E4)
      refine ⟨[c2], [{ d with ins := d.ins ++ [("zz" : Str)] }], upd_same, rfl, .cons ⟨c1, gt, rt, ot, ga, ra, oa, ⟨Ex.new nL _ _ upd_same, ?_, hcB.gts, hcB.rgs, hcB.ots, hcB.gates, hcB.regs, hcB.outs⟩⟩ .nil, fun e he => by rw [List.mem_singleton.mp he]; exact odd_ins hF⟩
      have := ((Ex.new (o := .tup [.ref c1, .ref gt, .ref rt, .ref ot]) nc2).trans (Ex.new (o := .lst [.ref c2]) nL)) _ _ hc1
      rw [this, List.map_append]
      rfl
    generalize upd (upd H2 c2 (.tup [.ref c1, .ref gt, .ref rt, .ref ot])) L (.lst [.ref c2]) = H4 at *
    -- one more output
    have hcB := hc.te (.of E4)
    obtain ⟨cs1, es1, hL4, r1⟩ := id F1
    refine ⟨_, rfl, .inl ⟨rfl, _, SqL.of hL4⟩, _, rfl, _, _, _, _, rfl, rfl, SqT.of hcB.top, atI_nat (j := 0) rfl, _, rfl, _, _, _, _, rfl, rfl, SqT.of hcB.top, atI_nat (j := 1) rfl, _, rfl, _, _, _, _, rfl, rfl, SqT.of hcB.top, atI_nat (j := 2) rfl, _, rfl, _, _, _, _, rfl, rfl, SqT.of hcB.top, atI_nat (j := 3) rfl, (by show 2 ≤ sizeLine; decide), fun t nt => ⟨(by show 1 ≤ sizeLine; decide), fun u2 nu2 => cat_tup (K := K) (((Ex.new nt).trans (Ex.new nu2)) _ _ hcB.ots) upd_same (sz_of (by rw [List.length_map]; show _ + 1 ≤ _; omega)) fun c3 H5 E5 hc3 => ⟨(by show 4 ≤ sizeLine; decide), fun c4 nc4 => ?_⟩⟩⟩
    have E45 : Ex H4 H5 := ((Ex.new nt).trans (Ex.new nu2)).trans E5
    have ht5 : H5 t = some (.tup [.str "zz", .str "i0"]) := ((Ex.new nu2).trans E5) _ _ upd_same
    have E46 : Ex H4 (upd H5 c4 (.tup [.ref it, .ref gt, .ref rt, .ref c3])) := E45.trans (Ex.new nc4)
    have hc4 : upd H5 c4 (.tup [.ref it, .ref gt, .ref rt, .ref c3]) c4 = some (.tup [.ref it, .ref gt, .ref rt, .ref c3]) := upd_same
    have E56 : Ex H5 (upd H5 c4 (.tup [.ref it, .ref gt, .ref rt, .ref c3])) := Ex.new nc4
    generalize upd H5 c4 (.tup [.ref it, .ref gt, .ref rt, .ref c3]) = H6 at *
    have hcC := hcB.te (.of E46)
    have X2 : CircX H6 c4 { d with outs := d.outs ++ [(("zz" : Str), ("i0" : Str))] } := by
      refine ⟨it, gt, rt, c3, ga, ra, oa ++ [t], ⟨hc4, hcC.ins, hcC.gts, hcC.rgs, ?_, hcC.gates, hcC.regs, hcC.outs.snoc (E56 _ _ ht5)⟩⟩
      rw [E56 _ _ hc3, List.map_append]
      rfl
    obtain ⟨cs2, hL6, hn2, F2⟩ := F1.more E46 X2 (odd_outs hF)
    refine ⟨L, _, _, rfl, rfl, hL6, sz_lt (by rw [List.length_map, hn2]; decide), ?_⟩
    have E7 : Ex H (upd H6 L (.lst (cs2.map V.ref ++ [.ref c4]))) := (E4.trans E46).mut nL0
    generalize upd H6 L (.lst (cs2.map V.ref ++ [.ref c4])) = H7 at *
    -- one more register
    have hcD := hc.te (.of E7)
    obtain ⟨cs3, es3, hL7, r3⟩ := id F2
    refine ⟨_, rfl, .inl ⟨rfl, _, SqL.of hL7⟩, _, rfl, _, _, _, _, rfl, rfl, SqT.of hcD.top, atI_nat (j := 0) rfl, _, rfl, _, _, _, _, rfl, rfl, SqT.of hcD.top, atI_nat (j := 1) rfl, _, rfl, _, _, _, _, rfl, rfl, SqT.of hcD.top, atI_nat (j := 2) rfl, (by show 2 ≤ sizeLine; decide), fun t1 nt1 => ⟨(by show 2 ≤ sizeLine; decide), fun t2 nt2 => ⟨(by show 7 ≤ sizeLine; decide), fun t3 nt3 => ⟨(by show 1 ≤ sizeLine; decide), fun u3 nu3 => cat_tup (K := K) (((Ex.new nt1).trans ((Ex.new nt2).trans ((Ex.new nt3).trans (Ex.new nu3)))) _ _ hcD.rgs) upd_same (sz_of (by rw [List.length_map]; show _ + 1 ≤ _; omega)) fun c5 H8 E8 hc5 => ⟨_, rfl, _, _, _, _, rfl, rfl, SqT.of (hcD.te (.of (((Ex.new nt1).trans ((Ex.new nt2).trans ((Ex.new nt3).trans (Ex.new nu3)))).trans E8))).top, atI_nat (j := 3) rfl, (by show 4 ≤ sizeLine; decide), fun c6 nc6 => ?_⟩⟩⟩⟩⟩
    have E78 : Ex H7 H8 := ((Ex.new nt1).trans ((Ex.new nt2).trans ((Ex.new nt3).trans (Ex.new nu3)))).trans E8
    have g1 : H8 t1 = some (.tup [.int 0, .int 0]) := ((Ex.new nt2).trans ((Ex.new nt3).trans ((Ex.new nu3).trans E8))) _ _ upd_same
    have g2 : H8 t2 = some (.tup [.int 0, .int 1]) := ((Ex.new nt3).trans ((Ex.new nu3).trans E8)) _ _ upd_same
    have g3 : H8 t3 = some (.tup [.str "zz", .str "i0", .ref t1, .ref t2, .int 0, .int 0, .bl true]) := ((Ex.new nu3).trans E8) _ _ upd_same
    have E89 : Ex H8 (upd H8 c6 (.tup [.ref it, .ref gt, .ref c5, .ref ot])) := Ex.new nc6
    have hc6 : upd H8 c6 (.tup [.ref it, .ref gt, .ref c5, .ref ot]) c6 = some (.tup [.ref it, .ref gt, .ref c5, .ref ot]) := upd_same
    generalize upd H8 c6 (.tup [.ref it, .ref gt, .ref c5, .ref ot]) = H9 at *
    have E79 := E78.trans E89
    have hcE := hcD.te (.of E79)
    have X3 : CircX H9 c6 { d with regs := d.regs ++ [zzReg] } := by
      refine ⟨it, gt, c5, ot, ga, ra ++ [t3], oa, ⟨hc6, hcE.ins, hcE.gts, ?_, hcE.ots, hcE.gates, hcE.regs.snoc ⟨t1, t2, E89 _ _ g3, E89 _ _ g1, E89 _ _ g2⟩, hcE.outs⟩⟩
      rw [E89 _ _ hc5, List.map_append]
      rfl
    obtain ⟨cs4, hL9, hn4, F3⟩ := F2.more E79 X3 (odd_regs hF)
    refine ⟨L, _, _, rfl, rfl, hL9, sz_lt (by rw [List.length_map, hn4]; decide), ?_⟩
    have E10 : Ex H (upd H9 L (.lst (cs4.map V.ref ++ [.ref c6]))) := (E7.trans E79).mut nL0
    generalize upd H9 L (.lst (cs4.map V.ref ++ [.ref c6])) = H10 at *
    have hcG := hc.te (.of E10)
    refine ⟨fun σ H' => ∃ (n : Nat) (z3 z4 : Option V), 0 < n ∧ n ≤ 5 ∧ Ex H H' ∧ Forms d H' L n ∧ σ = [some (.ref p), some (.ref c), some (.ref L), z3, z4, none], ?_, ?_⟩
    · refine ⟨_, rfl, _, _, _, _, rfl, rfl, SqT.of hcG.top, atI_nat (j := 1) rfl, _, _, rfl, .inr (SqT.of hcG.gts), _, _, rfl, rfl, _, rfl, ite2 (fun h1 => ?_) (fun _ => ⟨3, _, _, by decide, by decide, E10, F3, rfl⟩)⟩
      have h1 := of_decide_eq_true h1
      rw [List.length_map, hgl] at h1
      have hpos : 0 < d.gates.length := by omega
      obtain ⟨g, hg⟩ : ∃ g, d.gates[0]? = some g := ⟨_, List.getElem?_eq_getElem hpos⟩
      obtain ⟨b, hb, t0, pt, rgt, rga, a1, a2, a3, a4, a5⟩ := hcG.gates.of hg
      have hbV : (ga.map V.ref)[0]? = some (.ref b) := by rw [List.getElem?_map, hb]; rfl
      obtain ⟨ht1, ht2⟩ := htab g (List.mem_of_getElem? hg)
      refine ⟨_, rfl, _, _, _, _, rfl, rfl, SqT.of hcG.top, atI_nat (j := 1) rfl, _, _, _, _, rfl, rfl, SqT.of hcG.gts, atI_nat (j := 0) hbV, ?_⟩
      refine ⟨_, rfl, _, _, _, _, rfl, rfl, SqT.of a1, atI_nat (j := 1) rfl, t0, rfl, ⟨_, SqT.of a2⟩, fun BL nBL => wk_tup (K := K) (a := t0) (xs := g.tab.map V.bl) (fun k H11 => Ex H10 H11 ∧ H11 BL = some (.lst (((g.tab.take k).map (!·)).map V.bl))) ⟨Ex.new nBL, upd_same⟩ (fun k H11 _ z => SqT.of (z.1 _ _ a2)) ?_ ?_⟩
      · rintro k x H11 hx ⟨E11, hBL⟩
        rw [List.getElem?_map] at hx
        cases e : g.tab[k]? with
        | none => rw [e] at hx; cases hx
        | some bb =>
          rw [e] at hx
          cases hx
          refine ⟨(by rw [wipe_set (by decide), wipe_wipe]), tYes_in ?_⟩
          simp only [wipe, _root_.L2.start, List.map_cons, List.map_nil, List.length_cons, List.length_nil, Nat.reduceAdd, Nat.reduceSub, List.replicate_succ, List.replicate_zero, List.cons_append, List.nil_append, List.set_cons_zero, List.set_cons_succ]
          refine ⟨_, rfl, _, rfl, _, hBL, sz_lt (by rw [List.length_map, List.length_map, List.length_take]; omega), E11.mut nBL, ?_⟩
          rw [upd_same, take_snoc1 e, List.map_append, List.map_append]
          rfl
      · rintro H11 ⟨E11, hBL⟩
        rw [List.length_map, List.take_length] at hBL
        refine ⟨BL, _, rfl, .inl ⟨SqL.of hBL, fun ft nft => ?_⟩⟩
        have E12 := E11.trans (Ex.new (o := .tup ((g.tab.map (!·)).map V.bl)) nft)
        have hft : upd H11 ft (.tup ((g.tab.map (!·)).map V.bl)) ft = some (.tup ((g.tab.map (!·)).map V.bl)) := upd_same
        generalize upd H11 ft (.tup ((g.tab.map (!·)).map V.bl)) = H12 at *
        have hcH := hcG.te (.of E12)
        have a1' := E12 _ _ a1
        obtain ⟨cs5, es5, hL10, r5⟩ := id F3
        refine ⟨_, rfl, .inl ⟨rfl, _, SqL.of (E12 _ _ hL10)⟩, _, rfl, _, _, _, _, rfl, rfl, SqT.of hcH.top, atI_nat (j := 0) rfl, _, rfl, _, _, _, _, rfl, rfl, SqT.of a1', atI_nat (j := 0) rfl, _, rfl, _, rfl, _, _, _, _, rfl, rfl, SqT.of a1', atI_nat (j := 2) rfl, _, rfl, _, _, _, _, rfl, rfl, SqT.of a1', atI_nat (j := 3) rfl, (by show 4 ≤ sizeLine; decide), fun ng nng => ⟨(by show 1 ≤ sizeLine; decide), fun u4 nu4 => ?_⟩⟩
        have E14 := (Ex.new (o := .tup [.str g.name, .ref ft, .ref pt, .ref rgt]) nng).trans (Ex.new (o := .tup [.ref ng]) nu4)
        have hng : upd (upd H12 ng (.tup [.str g.name, .ref ft, .ref pt, .ref rgt])) u4 (.tup [.ref ng]) ng = some (.tup [.str g.name, .ref ft, .ref pt, .ref rgt]) := Ex.new nu4 _ _ upd_same
        have hu4 : upd (upd H12 ng (.tup [.str g.name, .ref ft, .ref pt, .ref rgt])) u4 (.tup [.ref ng]) u4 = some (.tup [.ref ng]) := upd_same
        generalize upd (upd H12 ng (.tup [.str g.name, .ref ft, .ref pt, .ref rgt])) u4 (.tup [.ref ng]) = H14 at *
        have hcI := hcH.te (.of E14)
        refine ⟨_, rfl, _, _, _, _, rfl, rfl, SqT.of hcI.top, atI_nat (j := 1) rfl, ?_⟩
        refine ⟨_, rfl, ?_⟩
        unfold tNoPart
        dsimp only
        refine cut_tup (K := K) hcI.gts fun cc H15 E15 hcc => ?_
        have ecc : cutV (ga.map V.ref) (some 1) none = (ga.drop 1).map V.ref := by
          rw [List.map_drop]
          exact cutV_tail (k := 1) (by rw [List.length_map, hgl]; exact hpos)
        rw [ecc] at hcc
        refine cat_tup (K := K) (E15 _ _ hu4) hcc (sz_of (by rw [List.length_map, List.length_drop]; show 1 + _ ≤ _; omega)) fun c7 H16 E16 hc7 => ?_
        have E46' := E15.trans E16
        have hcJ := hcI.te (.of E46')
        refine ⟨_, rfl, _, _, _, _, rfl, rfl, SqT.of hcJ.top, atI_nat (j := 2) rfl, _, rfl, _, _, _, _, rfl, rfl, SqT.of hcJ.top, atI_nat (j := 3) rfl, (by show 4 ≤ sizeLine; decide), fun c8 nc8 => ?_⟩
        have E17 : Ex H16 (upd H16 c8 (.tup [.ref it, .ref c7, .ref rt, .ref ot])) := Ex.new nc8
        have hc8 : upd H16 c8 (.tup [.ref it, .ref c7, .ref rt, .ref ot]) c8 = some (.tup [.ref it, .ref c7, .ref rt, .ref ot]) := upd_same
        generalize upd H16 c8 (.tup [.ref it, .ref c7, .ref rt, .ref ot]) = H17 at *
        have E1017 := E12.trans (E14.trans (E46'.trans E17))
        have hcK := hcG.te (.of E1017)
        have E1217 := E14.trans (E46'.trans E17)
        have X4 : CircX H17 c8 { d with gates := flipG g :: d.gates.drop 1 } := by
          refine ⟨it, c7, rt, ot, ng :: ga.drop 1, ra, oa, ⟨hc8, hcK.ins, E17 _ _ hc7, hcK.rgs, hcK.ots, .cons ⟨ft, pt, rgt, rga, (E46'.trans E17) _ _ hng, E1217 _ _ hft, E1017 _ _ a3, E1017 _ _ a4, a5.imp fun _ _ z => E1017 _ _ z⟩ ?_, hcK.regs, hcK.outs⟩⟩
          refine ⟨by rw [List.length_drop, List.length_drop, hgl], fun i x y h1 h2 => ?_⟩
          rw [List.getElem?_drop] at h1 h2
          exact hcK.gates.2 _ x y h1 h2
        obtain ⟨cs6, hL17, hn6, F4⟩ := F3.more E1017 X4 (odd_flip hF hg ht1)
        refine ⟨L, _, _, rfl, rfl, hL17, sz_lt (by rw [List.length_map, hn6]; decide), ?_⟩
        have E18 : Ex H (upd H17 L (.lst (cs6.map V.ref ++ [.ref c8]))) := (E10.trans E1017).mut nL0
        generalize upd H17 L (.lst (cs6.map V.ref ++ [.ref c8])) = H18 at *
        -- one more gate
        have hcM := hc.te (.of E18)
        obtain ⟨cs7, es7, hL18, r7⟩ := id F4
        refine ⟨_, rfl, .inl ⟨rfl, _, SqL.of hL18⟩, _, rfl, _, _, _, _, rfl, rfl, SqT.of hcM.top, atI_nat (j := 0) rfl, _, rfl, _, _, _, _, rfl, rfl, SqT.of hcM.top, atI_nat (j := 1) rfl, (by show 1 ≤ sizeLine; decide), fun t1 nt1 => ⟨Nat.zero_le _, fun t2 nt2 => ⟨Nat.zero_le _, fun t3 nt3 => ⟨(by show 4 ≤ sizeLine; decide), fun t4 nt4 => ⟨(by show 1 ≤ sizeLine; decide), fun u5 nu5 => cat_tup (K := K) (((Ex.new nt1).trans ((Ex.new nt2).trans ((Ex.new nt3).trans ((Ex.new nt4).trans (Ex.new nu5))))) _ _ hcM.gts) upd_same (sz_of (by rw [List.length_map]; show _ + 1 ≤ _; omega)) fun c9 H19 E19 hc9 => ?_⟩⟩⟩⟩⟩
        have E1819 : Ex H18 H19 := ((Ex.new nt1).trans ((Ex.new nt2).trans ((Ex.new nt3).trans ((Ex.new nt4).trans (Ex.new nu5))))).trans E19
        have g1 : H19 t1 = some (.tup [.bl true]) := ((Ex.new nt2).trans ((Ex.new nt3).trans ((Ex.new nt4).trans ((Ex.new nu5).trans E19)))) _ _ upd_same
        have g2 : H19 t2 = some (.tup []) := ((Ex.new nt3).trans ((Ex.new nt4).trans ((Ex.new nu5).trans E19))) _ _ upd_same
        have g3 : H19 t3 = some (.tup []) := ((Ex.new nt4).trans ((Ex.new nu5).trans E19)) _ _ upd_same
        have g4 : H19 t4 = some (.tup [.str "zz", .ref t1, .ref t2, .ref t3]) := ((Ex.new nu5).trans E19) _ _ upd_same
        have hcN := hcM.te (.of E1819)
        refine ⟨_, rfl, _, _, _, _, rfl, rfl, SqT.of hcN.top, atI_nat (j := 2) rfl, _, rfl, _, _, _, _, rfl, rfl, SqT.of hcN.top, atI_nat (j := 3) rfl, (by show 4 ≤ sizeLine; decide), fun c10 nc10 => ?_⟩
        have E20 : Ex H19 (upd H19 c10 (.tup [.ref it, .ref c9, .ref rt, .ref ot])) := Ex.new nc10
        have hc10 : upd H19 c10 (.tup [.ref it, .ref c9, .ref rt, .ref ot]) c10 = some (.tup [.ref it, .ref c9, .ref rt, .ref ot]) := upd_same
        generalize upd H19 c10 (.tup [.ref it, .ref c9, .ref rt, .ref ot]) = H20 at *
        have E1820 := E1819.trans E20
        have hcO := hcM.te (.of E1820)
        have X5 : CircX H20 c10 { d with gates := d.gates ++ [zzGate] } := by
          refine ⟨it, c9, rt, ot, ga ++ [t4], ra, oa, ⟨hc10, hcO.ins, ?_, hcO.rgs, hcO.ots, hcO.gates.snoc ⟨t1, t2, t3, [], E20 _ _ g4, E20 _ _ g1, E20 _ _ g2, E20 _ _ g3, .nil⟩, hcO.regs, hcO.outs⟩⟩
          rw [E20 _ _ hc9, List.map_append]
          rfl
        obtain ⟨cs8, hL20, hn8, F5⟩ := F4.more E1820 X5 (odd_more hF hn)
        refine ⟨L, _, _, rfl, rfl, hL20, sz_lt (by rw [List.length_map, hn8]; decide), ?_⟩
        exact ⟨5, _, _, by decide, by decide, (E18.trans E1820).mut nL0, F5, rfl⟩
    · rintro σ H11 ⟨n, z3, z4, n0, n5, E11, ⟨cs, es, hL, hen, hA, hO⟩, rfl⟩
      have hX := Px.ofEx hp E11
      have hcl : cs.length = n := by rw [hA.1, hen]
      have hLh : hid p H11 L = some (.lst (cs.map V.ref)) := by rw [hid_ne hLp]; exact hL
      refine ⟨_, rfl, _, rfl, _, rfl, _, _, rfl, .inl (SqL.of hL), p, a, ((cs.map V.ref).length : Nat), rfl, by rw [List.length_map, hcl]; omega, by rw [List.length_map, hcl]; omega, hX.pool, fun v H12 hv X12 kp => ?_⟩
      rw [List.length_map, hcl] at hv
      have hvn : v < n := by omega
      obtain ⟨cc, hcc⟩ : ∃ cc, cs[v]? = some cc := ⟨_, List.getElem?_eq_getElem (by omega)⟩
      obtain ⟨e, he, Xe⟩ := hA.at_ hcc
      have hccV : (cs.map V.ref)[v]? = some (.ref cc) := by rw [List.getElem?_map, hcc]; rfl
      exact ⟨_, _, _, _, rfl, rfl, SqL.of (hid_get (X12.get hLh)), atI_nat hccV, q cc e H12 (hX.trans X12) (hO e (List.mem_of_getElem? he)) (Xe.tex (TEx.px X12))⟩
end
end G
namespace G
open PySem PySem.Spec PyProof.Rows L2 Evl TL
/-! ## circuits with other ranges -/
def LikeD (d e : CircD) : Prop := ∃ R : List (List (Int × Int)), ShapeD d.gates R ∧ e = { d with gates := withD d.gates R }
theorem withD_len {gs : List GateD} {R : List (List (Int × Int))} (h : ShapeD gs R) : (withD gs R).length = gs.length := by
  unfold withD
  rw [List.length_zipWith, h.1, Nat.min_self]
theorem withD_get {gs : List GateD} {R : List (List (Int × Int))} {k : Nat} {g : GateD} {r : List (Int × Int)} (hg : gs[k]? = some g) (hr : R[k]? = some r) : (withD gs R)[k]? = some { g with rng := r } := by
  unfold withD
  rw [List.getElem?_zipWith, hg, hr]
theorem withD_un {gs : List GateD} {R : List (List (Int × Int))} {k : Nat} {x : GateD} (h : (withD gs R)[k]? = some x) : ∃ g r, gs[k]? = some g ∧ R[k]? = some r ∧ x = { g with rng := r } := by
  unfold withD at h
  rw [List.getElem?_zipWith] at h
  cases e1 : gs[k]? with
  | none => rw [e1] at h; cases h
  | some g =>
    cases e2 : R[k]? with
    | none => rw [e1, e2] at h; cases h
    | some r => rw [e1, e2] at h; cases h; exact ⟨g, r, rfl, rfl, rfl⟩
theorem withD_strip {gs : List GateD} {R : List (List (Int × Int))} (h : ShapeD gs R) : (withD gs R).map gateS = gs.map gateS := by
  refine List.ext_getElem? fun k => ?_
  rw [List.getElem?_map, List.getElem?_map]
  cases e : gs[k]? with
  | none => rw [List.getElem?_eq_none (by rw [withD_len h]; exact List.getElem?_eq_none_iff.mp e)]
  | some g =>
    have hk : k < R.length := by rw [h.1]; exact (List.getElem?_eq_some_iff.mp e).1
    rw [withD_get e (List.getElem?_eq_getElem hk)]
    rfl
theorem withD_mem {gs : List GateD} {R : List (List (Int × Int))} (h : ShapeD gs R) {x : GateD} (hx : x ∈ withD gs R) : ∃ g ∈ gs, gateS x = gateS g ∧ x.rng.length = g.rng.length := by
  obtain ⟨k, hk, e⟩ := List.getElem_of_mem hx
  obtain ⟨g, r, h1, h2, h3⟩ := withD_un (by rw [List.getElem?_eq_getElem hk, e])
  exact ⟨g, List.mem_of_getElem? h1, by rw [h3]; rfl, by rw [h3]; exact h.2 k g r h1 h2⟩
theorem withD_twice {gs : List GateD} {R R2 : List (List (Int × Int))} (h : ShapeD gs R) (h2 : R2.length = gs.length) : withD (withD gs R) R2 = withD gs R2 := by
  refine List.ext_getElem? fun k => ?_
  cases e : gs[k]? with
  | none =>
    have hk := List.getElem?_eq_none_iff.mp e
    rw [List.getElem?_eq_none (by unfold withD; rw [List.length_zipWith, List.length_zipWith, h.1]; omega), List.getElem?_eq_none (by unfold withD; rw [List.length_zipWith]; omega)]
  | some g =>
    have hk : k < gs.length := (List.getElem?_eq_some_iff.mp e).1
    rw [withD_get e (List.getElem?_eq_getElem (by rw [h2]; exact hk) : R2[k]? = some R2[k])]
    rw [withD_get (withD_get e (List.getElem?_eq_getElem (by rw [h.1]; exact hk))) (List.getElem?_eq_getElem (by rw [h2]; exact hk) : R2[k]? = some R2[k])]
theorem LikeD.strip {d e : CircD} (h : LikeD d e) : stripD d = stripD e := by
  obtain ⟨R, hS, rfl⟩ := h
  unfold stripD
  rw [show ({ d with gates := withD d.gates R } : CircD).gates = withD d.gates R from rfl, withD_strip hS]
theorem LikeD.len {d e : CircD} (h : LikeD d e) : e.gates.length = d.gates.length := by
  obtain ⟨R, hS, rfl⟩ := h
  exact withD_len hS
theorem LikeD.at_ {d e : CircD} (h : LikeD d e) {k : Nat} {g : GateD} (hg : d.gates[k]? = some g) : ∃ g', e.gates[k]? = some g' ∧ g'.name = g.name ∧ g'.tab = g.tab ∧ g'.pins = g.pins ∧ g'.rng.length = g.rng.length := by
  obtain ⟨R, hS, rfl⟩ := h
  have hk : k < R.length := by rw [hS.1]; exact (List.getElem?_eq_some_iff.mp hg).1
  exact ⟨_, withD_get hg (List.getElem?_eq_getElem hk), rfl, rfl, rfl, hS.2 k g _ hg (List.getElem?_eq_getElem hk)⟩
theorem LikeD.mem {d e : CircD} (h : LikeD d e) {x : GateD} (hx : x ∈ e.gates) : ∃ g ∈ d.gates, gateS x = gateS g ∧ x.rng.length = g.rng.length := by
  obtain ⟨R, hS, rfl⟩ := h
  exact withD_mem hS hx
theorem LikeD.trans {d e f : CircD} (h : LikeD d e) (h2 : LikeD e f) : LikeD d f := by
  obtain ⟨R, hS, rfl⟩ := h
  obtain ⟨R2, hS2, rfl⟩ := h2
  have e0 : R2.length = d.gates.length := hS2.1.trans (withD_len hS)
  refine ⟨R2, ⟨e0, fun k g r h1 h2 => ?_⟩, ?_⟩
  · have hk : k < R.length := by rw [hS.1]; exact (List.getElem?_eq_some_iff.mp h1).1
    have := hS2.2 k _ r (withD_get h1 (List.getElem?_eq_getElem hk)) h2
    rw [this]
    exact hS.2 k g _ h1 (List.getElem?_eq_getElem hk)
  · show ({ d with gates := withD (withD d.gates R) R2 } : CircD) = _
    rw [withD_twice hS e0]
theorem LikeD.fine {d e : CircD} (h : LikeD d e) (hF : Fine d) : Fine e := by
  refine ⟨by rw [h.len]; exact hF.gates, ⟨?_, fun x hx => ?_, ?_, ?_⟩, fun x hx => ?_, fun x hx => ?_⟩
  · obtain ⟨R, _, rfl⟩ := h; exact hF.tx.ins
  · obtain ⟨g, hg, e1, e2⟩ := h.mem hx
    have n1 : x.name = g.name := congrArg (fun y => y.1) e1
    have n2 : x.pins = g.pins := congrArg (fun y => y.2.2) e1
    rw [n1, n2]
    exact hF.tx.gates g hg
  · obtain ⟨R, _, rfl⟩ := h; exact hF.tx.regs
  · obtain ⟨R, _, rfl⟩ := h; exact hF.tx.outs
  · obtain ⟨g, hg, e1, e2⟩ := h.mem hx
    have n2 : x.pins = g.pins := congrArg (fun y => y.2.2) e1
    rw [e2, n2]
    exact hF.rw g hg
  · obtain ⟨g, hg, e1, e2⟩ := h.mem hx
    rw [e2]
    exact hF.rng g hg
theorem LikeD.few {d e : CircD} (h : LikeD d e) (hF : CircFew d) : CircFew e := by
  refine ⟨?_, by rw [h.len]; exact hF.gates, fun x hx => ?_, ?_, ?_⟩
  · obtain ⟨R, _, rfl⟩ := h; exact hF.ins
  · obtain ⟨g, hg, e1, e2⟩ := h.mem hx
    have n1 : x.tab = g.tab := congrArg (fun y => y.2.1) e1
    have n2 : x.pins = g.pins := congrArg (fun y => y.2.2) e1
    rw [n1, n2, e2]
    exact hF.gate g hg
  · obtain ⟨R, _, rfl⟩ := h; exact hF.regs
  · obtain ⟨R, _, rfl⟩ := h; exact hF.outs
/-! ### the joined circuit -/
theorem rows_shape (d : CircD) (ds : List CircD) : ShapeD d.gates (rowsD d ds) := by
  refine ⟨by unfold rowsD; rw [List.length_map, List.length_range], fun k g r h1 h2 => ?_⟩
  unfold rowsD at h2
  rw [List.getElem?_map, List.getElem?_range (List.getElem?_eq_some_iff.mp h1).1] at h2
  cases h2
  rw [List.length_map, List.length_range, gaD_at h1]
theorem like_merged (d : CircD) (ds : List CircD) : LikeD d (mergedD d ds) := ⟨_, rows_shape d ds, rfl⟩
theorem gaD_like {d e : CircD} (h : LikeD d e) {k : Nat} (hk : k < d.gates.length) : (gaD e k).rng.length = (gaD d k).rng.length := by
  obtain ⟨g', h1, _, _, _, h5⟩ := h.at_ (List.getElem?_eq_getElem hk)
  rw [gaD_at h1, gaD_at (List.getElem?_eq_getElem hk)]
  exact h5
theorem merged_like {d e : CircD} (h : LikeD d e) (ds : List CircD) : mergedD e ds = mergedD d ds := by
  have er : rowsD e ds = rowsD d ds := by
    unfold rowsD
    rw [h.len]
    exact List.map_congr_left fun k hk => by rw [gaD_like h (List.mem_range.mp hk)]
  unfold mergedD
  rw [er]
  obtain ⟨R, hS, rfl⟩ := h
  show ({ d with gates := withD (withD d.gates R) (rowsD d ds) } : CircD) = _
  rw [withD_twice hS (rows_shape d ds).1]
theorem merged_at {d : CircD} {ds : List CircD} {k j : Nat} (hk : k < d.gates.length) (hj : j < (gaD d k).rng.length) : rgJ (gaD (mergedD d ds) k) j = joinAt (colD ds k) j := by
  have e : (mergedD d ds).gates[k]? = some { d.gates[k] with rng := (List.range (gaD d k).rng.length).map (joinAt (colD ds k)) } := withD_get (List.getElem?_eq_getElem hk) (by unfold rowsD; rw [List.getElem?_map, List.getElem?_range hk]; rfl)
  rw [gaD_at e]
  exact rgJ_at (by show ((List.range _).map _)[j]? = _; rw [List.getElem?_map, List.getElem?_range hj]; rfl)
theorem inD_iff {a b : CircD} (h : b.gates.length = a.gates.length) (hr : ∀ k, k < a.gates.length → (gaD b k).rng.length = (gaD a k).rng.length) :
    inD a b = true ↔ ∀ k j, k < a.gates.length → j < (gaD a k).rng.length → (rgJ (gaD b k) j).1 ≤ (rgJ (gaD a k) j).1 ∧ (rgJ (gaD a k) j).2 ≤ (rgJ (gaD b k) j).2 := by
  constructor
  · intro z k j hk hj
    have hk2 : k < b.gates.length := by omega
    have ea := gaD_at (List.getElem?_eq_getElem hk)
    have eb := gaD_at (List.getElem?_eq_getElem hk2)
    have hj2 : j < b.gates[k].rng.length := by rw [← eb, hr k hk]; exact hj
    rw [ea] at hj
    by_cases q : okP (a.gates[k].rng[j], b.gates[k].rng[j]) = true
    · rw [ea, eb, rgJ_at (List.getElem?_eq_getElem hj), rgJ_at (List.getElem?_eq_getElem hj2)]
      have q : (!(decide (a.gates[k].rng[j].1 < b.gates[k].rng[j].1) || decide (a.gates[k].rng[j].2 > b.gates[k].rng[j].2))) = true := q
      simp only [Bool.not_eq_true', Bool.or_eq_false_iff, decide_eq_false_iff_not] at q
      omega
    · have : inD a b = false := zip_not (List.getElem?_eq_getElem hk) (List.getElem?_eq_getElem hk2) (zip_not (List.getElem?_eq_getElem hj) (List.getElem?_eq_getElem hj2) (by simpa using q))
      rw [this] at z
      cases z
  · intro z
    refine zip_all fun k x y hx hy => zip_all fun j p q hp hq => ?_
    have hk := (List.getElem?_eq_some_iff.mp hx).1
    have := z k j hk (by rw [gaD_at hx]; exact (List.getElem?_eq_some_iff.mp hp).1)
    rw [gaD_at hx, gaD_at hy, rgJ_at hp, rgJ_at hq] at this
    show (!(decide (p.1 < q.1) || decide (p.2 > q.2))) = true
    rw [decide_eq_false (by omega), decide_eq_false (by omega)]
    rfl
theorem inD_like {d a b : CircD} (ha : LikeD d a) (hb : LikeD d b) : inD a b = true ↔ ∀ k j, k < d.gates.length → j < (gaD d k).rng.length → (rgJ (gaD b k) j).1 ≤ (rgJ (gaD a k) j).1 ∧ (rgJ (gaD a k) j).2 ≤ (rgJ (gaD b k) j).2 := by
  rw [inD_iff (by rw [hb.len, ha.len]) (fun k hk => by rw [ha.len] at hk; rw [gaD_like ha hk, gaD_like hb hk]), ha.len]
  constructor
  · intro z k j hk hj
    exact z k j hk (by rw [gaD_like ha hk]; exact hj)
  · intro z k j hk hj
    exact z k j hk (by rw [← gaD_like ha hk]; exact hj)
theorem merged_in {d o : CircD} {ds : List CircD} (hd : ∀ e ∈ ds, LikeD d e) (ho : LikeD d o) (h0 : 0 < ds.length) : inD (mergedD d ds) o = (ds.map fun e => inD e o).all id := by
  rw [Bool.eq_iff_iff, inD_like (like_merged d ds) ho, List.all_eq_true]
  have lo : ∀ {k j : Nat} {e : CircD}, e ∈ ds → (joinAt (colD ds k) j).1 ≤ (rgJ (gaD e k) j).1 := fun {k j e} he => minI_le (List.mem_map.mpr ⟨gaD e k, List.mem_map.mpr ⟨e, he, rfl⟩, rfl⟩)
  have hi : ∀ {k j : Nat} {e : CircD}, e ∈ ds → (rgJ (gaD e k) j).2 ≤ (joinAt (colD ds k) j).2 := fun {k j e} he => le_maxI (List.mem_map.mpr ⟨gaD e k, List.mem_map.mpr ⟨e, he, rfl⟩, rfl⟩)
  have ex1 : ∀ (k j : Nat), ∃ e ∈ ds, (joinAt (colD ds k) j).1 = (rgJ (gaD e k) j).1 := fun k j => by
    have := minI_mem (l := (colD ds k).map fun g => (rgJ g j).1) (by unfold colD; rw [List.length_map, List.length_map]; exact h0)
    obtain ⟨g, hg, e1⟩ := List.mem_map.mp this
    obtain ⟨e, he, rfl⟩ := List.mem_map.mp hg
    exact ⟨e, he, e1.symm⟩
  have ex2 : ∀ (k j : Nat), ∃ e ∈ ds, (joinAt (colD ds k) j).2 = (rgJ (gaD e k) j).2 := fun k j => by
    have := maxI_mem (l := (colD ds k).map fun g => (rgJ g j).2) (by unfold colD; rw [List.length_map, List.length_map]; exact h0)
    obtain ⟨g, hg, e1⟩ := List.mem_map.mp this
    obtain ⟨e, he, rfl⟩ := List.mem_map.mp hg
    exact ⟨e, he, e1.symm⟩
  constructor
  · intro z b hb
    obtain ⟨e, he, rfl⟩ := List.mem_map.mp hb
    refine (inD_like (hd e he) ho).mpr fun k j hk hj => ?_
    have := z k j hk hj
    rw [merged_at hk hj] at this
    have a1 := lo (k := k) (j := j) he
    have a2 := hi (k := k) (j := j) he
    omega
  · intro z k j hk hj
    rw [merged_at hk hj]
    obtain ⟨e, he, q1⟩ := ex1 k j
    obtain ⟨e', he', q2⟩ := ex2 k j
    have b1 := (inD_like (hd e he) ho).mp (z _ (List.mem_map.mpr ⟨e, he, rfl⟩)) k j hk hj
    have b2 := (inD_like (hd e' he') ho).mp (z _ (List.mem_map.mpr ⟨e', he', rfl⟩)) k j hk hj
    omega
theorem in_merged {d e : CircD} {ds : List CircD} (hd : LikeD d e) (he : e ∈ ds) : inD e (mergedD d ds) = true := by
  refine (inD_like hd (like_merged d ds)).mpr fun k j hk hj => ?_
  rw [merged_at hk hj]
  exact ⟨minI_le (List.mem_map.mpr ⟨gaD e k, List.mem_map.mpr ⟨e, he, rfl⟩, rfl⟩), le_maxI (List.mem_map.mpr ⟨gaD e k, List.mem_map.mpr ⟨e, he, rfl⟩, rfl⟩)⟩
/-! ### whole circuits as data for == -/
def gateQ (g : GateD) : PyData := .tuple [.str g.name, tabP g.tab, strsP g.pins, .tuple (g.rng.map pairP)]
def circQ (d : CircD) : PyData := .tuple [strsP d.ins, .tuple (d.gates.map gateQ), .tuple (d.regs.map regP), .tuple (d.outs.map outP)]
theorem dp_circQ {K : PySem.W.Frag} {H : Hp} {c : Addr} {d : CircD} (h : CircX H c d) : Dp K H (.ref c) (circQ d) := by
  obtain ⟨it, gt, rt, ot, ga, ra, oa, hc⟩ := h
  refine .tup (SqT.of hc.top) (.cons (dp_strsT hc.ins) (.cons (.tup (SqT.of hc.gts) (dpAll_all2 (fun a g z => ?_) hc.gates)) (.cons (.tup (SqT.of hc.rgs) (dpAll_all2 (fun _ _ z => dp_regT z) hc.regs)) (.cons (.tup (SqT.of hc.ots) (dpAll_all2 (fun _ _ z => dp_outT z) hc.outs)) .nil))))
  obtain ⟨t, pt, rt, ra, h1, h2, h3, h4, h5⟩ := z
  exact .tup (SqT.of h1) (.cons (.str _) (.cons (dp_tabT h2) (.cons (dp_strsT h3) (.cons (.tup (SqT.of h4) (dpAll_all2 (fun _ _ z => dp_pairT z) h5)) .nil))))
theorem lay_circQ {d : CircD} (h : CircTx d) : (circQ d).canLay0 = true ∧ (circQ d).depth ≤ 5 := by
  have h1 := lay_strsP h.ins
  have h2 := lay_map (f := gateQ) (n := 3) (l := d.gates) fun g hg => by
    have a := lay_tabP g.tab
    have b := lay_strsP (h.gates g hg).2
    have c := lay_map (f := pairP) (n := 1) (l := g.rng) fun p hp => by
      refine ⟨by simp [pairP, PyData.canLay0, PyData.canLayAll0], ?_⟩
      simp [pairP, PyData.depth, PyData.depthAll]
    refine ⟨by simp [gateQ, PyData.canLay0, PyData.canLayAll0, a.1, b.1, c.1, (h.gates g hg).1], ?_⟩
    simp only [gateQ, PyData.depth, PyData.depthAll]; have := a.2; have := b.2; have := c.2; omega
  have h3 := lay_map (f := regP) (n := 2) (l := d.regs) fun r hr => by
    refine ⟨by simp [regP, pairP, PyData.canLay0, PyData.canLayAll0, (h.regs r hr).1, (h.regs r hr).2], ?_⟩
    simp [regP, pairP, PyData.depth, PyData.depthAll]
  have h4 := lay_map (f := outP) (n := 1) (l := d.outs) fun o ho => by
    refine ⟨by simp [outP, PyData.canLay0, PyData.canLayAll0, (h.outs o ho).1, (h.outs o ho).2], ?_⟩
    simp [outP, PyData.depth, PyData.depthAll]
  refine ⟨by simp [circQ, PyData.canLay0, PyData.canLayAll0, h1.1, h2.1, h3.1, h4.1], ?_⟩
  simp only [circQ, PyData.depth, PyData.depthAll]
  have := h1.2; have := h2.2; have := h3.2; have := h4.2
  omega
theorem circs_same {ds : List CircD} (h : ∀ d ∈ ds, CircTx d) : SeqAt.shaped (.list (ds.map circQ)) = true ∧ PyData.eqv (.list (ds.map circQ)) (.list (ds.map circQ)) = true := by
  have z := lay_map (f := circQ) (n := 5) (l := ds) fun d hd => lay_circQ (h d hd)
  have c0 : (PyData.list (ds.map circQ)).canLay0 = true := by simp [PyData.canLay0, z.1]
  refine ⟨?_, PySem.SeqAt.eqv_refl _ c0⟩
  unfold SeqAt.shaped
  rw [Bool.and_eq_true]
  refine ⟨c0, decide_eq_true ?_⟩
  have := z.2
  simp only [PyData.depth]
  omega
end G
namespace G
open PySem PySem.Spec PyProof.Rows L2 Evl TL
theorem it0M {b : Bool} {A B : Prop} (h : b = false) (a : B) : if b = true then A else B := by rw [if_neg (by rw [h]; decide)]; exact a
theorem fine_of {most : Nat} {d : CircD} {Gs : List GateD} (W : CircWf most d Gs) (hm : most ≤ 15) : Fine d := by
  refine ⟨by have := W.glen; omega, W.tx hm, fun g hg => (W.gsm hg).many, fun g hg => ?_⟩
  have := (W.gsm hg).many
  have := (W.gsm hg).few
  omega
theorem row_at {H : Hp} {c : Addr} {e : CircD} {k j : Nat} (X : CircX H c e) (hk : k < e.gates.length) (hj : j < (gaD e k).rng.length) :
    ∃ (it gt rt ot b t pt rgt q : Addr) (gv rv : List V), H c = some (.tup [.ref it, .ref gt, .ref rt, .ref ot]) ∧ H gt = some (.tup gv) ∧ gv[k]? = some (.ref b) ∧ H b = some (.tup [.str (gaD e k).name, .ref t, .ref pt, .ref rgt]) ∧ H rgt = some (.tup rv) ∧ rv[j]? = some (.ref q) ∧ H q = some (.tup [.int (rgJ (gaD e k) j).1, .int (rgJ (gaD e k) j).2]) := by
  obtain ⟨it, gt, rt, ot, ga, ra, oa, A⟩ := X
  have hg : e.gates[k]? = some e.gates[k] := List.getElem?_eq_getElem hk
  rw [gaD_at hg] at hj ⊢
  obtain ⟨b, hb, t, pt, rgt, rga, a1, a2, a3, a4, a5⟩ := A.gates.of hg
  obtain ⟨q, hq, hqa⟩ := a5.of (List.getElem?_eq_getElem hj)
  rw [rgJ_at (List.getElem?_eq_getElem hj)]
  exact ⟨it, gt, rt, ot, b, t, pt, rgt, q, _, _, A.top, A.gts, by rw [List.getElem?_map, hb]; rfl, a1, a4, by rw [List.getElem?_map, hq]; rfl, hqa⟩
section
variable {P : Program} {w : World} {K : PySem.W.Frag} {mg : Str → Option Value} {base : Heap}
structure TxtM6 (mg : Str → Option Value) : Prop where
  range : mg "range" = none
  len : mg "len" = none
  min : mg "min" = none
  max : mg "max" = none
  tuple : mg "tuple" = none
  list : mg "list" = none
  all : mg "all" = none
def spLaw (K : PySem.W.Frag) : Sp := fun vs H Q _ => ∃ (a : Addr) (ns : List Int), vs = [.ref a] ∧ SqL K H a (ns.map V.int) ∧ ns.length ≤ 63 ∧ ∀ H', Q (.bl true) H'
theorem sc_law : FnScope ["script", "pool", "turn", "circuit", "k", "circuits", "gates", "ranges", "j", "lows", "due", "given", "wide", "other", "strange", "row"] ["script"] (defScope s_law) := ⟨rfl, rfl, rfl, by decide +kernel, rfl, by decide +kernel, by decide +kernel⟩
theorem fn_law {C : Addr} {f : Addr} {fd : FuncData} (F : Fun K "law" "law" s_law f fd) (T : TxtM6 mg) (C1 : Has P w K mg base 1 "_law_pool" ["script"] (spPool K)) (C2 : Has P w K mg base 2 "_law_draw" ["pool", "many"] spDrawX) (C3 : Has P w K mg base 4 "_law_circuit" ["pool", "most"] spCirc)
    (C4 : Has P w K mg base 3 "_law_ranged" ["pool", "circuit", "wide"] spRanged) (C5 : HasX P w K mg base 3 "merged" ["circuits"] (spMerged C)) (C6 : Has P w K mg base 3 "within" ["circuit", "other"] spWithin) (C7 : Has P w K mg base 6 "_law_same" ["actual", "due"] (spSame 6))
    (C8 : Has P w K mg base 1 "_law_inside" ["circuit", "other"] spInside) (C9 : Has P w K mg base 3 "_law_other" ["pool", "circuit"] spOther) (C10 : Has P w K mg base 4 "_law_refused" ["circuits"] spRefM) : FnOk P w K mg base CX0 7 f fd ["script"] (spLaw K) := by
  obtain ⟨f_law_pool, d_law_pool, G_law_pool, g_law_pool, k_law_pool, b_law_pool⟩ := C1
  obtain ⟨f_law_draw, d_law_draw, G_law_draw, g_law_draw, k_law_draw, b_law_draw⟩ := C2
  obtain ⟨f_law_circuit, d_law_circuit, G_law_circuit, g_law_circuit, k_law_circuit, b_law_circuit⟩ := C3
  obtain ⟨f_law_ranged, d_law_ranged, G_law_ranged, g_law_ranged, k_law_ranged, b_law_ranged⟩ := C4
  obtain ⟨f_merged, d_merged, G_merged, g_merged, k_merged, b_merged⟩ := C5
  obtain ⟨f_within, d_within, G_within, g_within, k_within, b_within⟩ := C6
  obtain ⟨f_law_same, d_law_same, G_law_same, g_law_same, k_law_same, b_law_same⟩ := C7
  obtain ⟨f_law_inside, d_law_inside, G_law_inside, g_law_inside, k_law_inside, b_law_inside⟩ := C8
  obtain ⟨f_law_other, d_law_other, G_law_other, g_law_other, k_law_other, b_law_other⟩ := C9
  obtain ⟨f_law_refused, d_law_refused, G_law_refused, g_law_refused, k_law_refused, b_law_refused⟩ := C10
  refine F.ok sc_law (fun vs H Q E h => ?_) (fun cdv A outer s H vs Q E hr h => ?_)
  · obtain ⟨a, ns, rfl, _⟩ := h
    rfl
  · obtain ⟨sa, ns, rfl, hs, hn, q⟩ := h
    refine ⟨_, (pss_cons (ps_set (i := 1) sc_law.nd rfl (.inr rfl) (pe_call G_law_pool (hr.mono (by omega)) (by rfl) g_law_pool k_law_pool b_law_pool .nil pass0 (pa_cons (pv 0) pa_nil)))
    (pss_cons (ps_for PassesOwn.never rfl (pi_range1 rfl T.range (pa_cons pe_int pa_nil)) (pg_name (i := 2) sc_law.nd rfl (.inl rfl))
      (pss_cons (ps_set (i := 3) sc_law.nd rfl (.inr rfl) (pe_call G_law_circuit (hr.mono (by omega)) (by rfl) g_law_circuit k_law_circuit b_law_circuit .nil pass0 (pa_cons (pv 1) (pa_cons pe_int pa_nil))))
      (pss_cons (ps_setLc (i := 5) (own := [("k", 4)]) (g := gName 4) (tt := tYes) rfl sc_law.nd rfl rfl (sw_true rfl rfl rfl (by decide +kernel)) (pi_range1 rfl T.range (pa_cons (pe_op op_add pe_int (pe_call G_law_draw (hr.mono (by omega)) (by rfl) g_law_draw k_law_draw b_law_draw .nil pass0 (pa_cons (pv 1) (pa_cons pe_int pa_nil)))) pa_nil)) (blkOk_by (N := ["script", "pool", "turn", "circuit", "k", "circuits", "gates", "ranges", "j", "lows", "due", "given", "wide", "other", "strange", "row"]) (sc := defScope s_law) (own := [("k", 4)]) (by decide +kernel)) (fun _ _ _ _ _ => (pg_name (i := 4) sc_law.nd rfl (.inl rfl))) (fun _ _ _ _ _ => pts_nil) (fun _ _ _ _ _ => (pe_call G_law_ranged (hr.mono (by omega)) (by rfl) g_law_ranged k_law_ranged b_law_ranged .nil pass0 (pa_cons (pv 1) (pa_cons (pv 3) (pa_cons pe_int pa_nil))))))
      (pss_cons (ps_set (i := 6) sc_law.nd rfl (.inl rfl) (pe_lst pa_nil))
      (pss_cons (ps_for PassesOwn.never rfl (pi_range1 rfl T.range (pa_cons (pe_callB call_len_seq (by rfl) T.len (by decide +kernel) (pa_cons (pe_ix ix_tup (pv 3) pe_int (fun _ _ => rfl)) pa_nil)) pa_nil)) (pg_name (i := 4) sc_law.nd rfl (.inr rfl))
        (pss_cons (ps_set (i := 7) sc_law.nd rfl (.inl rfl) (pe_lst pa_nil))
        (pss_cons (ps_for PassesOwn.never rfl (pi_range1 rfl T.range (pa_cons (pe_callB call_len_seq (by rfl) T.len (by decide +kernel) (pa_cons (pe_ix ix_tup (pe_ix ix_tup (pe_ix ix_tup (pv 3) pe_int (fun _ _ => rfl)) (pv 4) (fun _ _ => rfl)) pe_int (fun _ _ => rfl)) pa_nil)) pa_nil)) (pg_name (i := 8) sc_law.nd rfl (.inr rfl))
          (pss_cons (ps_setLc (i := 9) (own := [("row", 15)]) (g := gName 15) (tt := tYes) rfl sc_law.nd rfl rfl (sw_true rfl rfl rfl (by decide +kernel)) (pi_list (pv 5)) (blkOk_by (N := ["script", "pool", "turn", "circuit", "k", "circuits", "gates", "ranges", "j", "lows", "due", "given", "wide", "other", "strange", "row"]) (sc := defScope s_law) (own := [("row", 15)]) (by decide +kernel)) (fun _ _ _ _ _ => (pg_name (i := 15) sc_law.nd rfl (.inl rfl))) (fun _ _ _ _ _ => pts_nil) (fun _ _ _ _ _ => (pe_ix (kIxT (K := K) rfl) (pe_ix (kIxT (K := K) rfl) (pe_ix (kIxT (K := K) rfl) (pe_ix (kIxT (K := K) rfl) (pe_ix (kIxT (K := K) rfl) (pv 15) pe_int (fun _ _ => rfl)) (pv 4) (fun _ _ => rfl)) pe_int (fun _ _ => rfl)) (pv 8) (fun _ _ => rfl)) pe_int (fun _ _ => rfl))))
          (pss_one (ps_expr (pe_bm PySem.F.plainAttrs_list PySem.F.slot_list_append PySem.F.type_list_append mt_append (pv 7) (pa_cons (pe_tup (pa_cons (pe_callB (cr_min rfl) (by rfl) T.min (by decide +kernel) (pa_cons (pv 9) pa_nil)) (pa_cons (pe_callB (cr_max rfl) (by rfl) T.max (by decide +kernel) (pa_cons (pe_lc (own := [("row", 15)]) (g := gName 15) (tt := tYes) rfl sc_law.nd (pi_list (pv 5)) (blkOk_by (N := ["script", "pool", "turn", "circuit", "k", "circuits", "gates", "ranges", "j", "lows", "due", "given", "wide", "other", "strange", "row"]) (sc := defScope s_law) (own := [("row", 15)]) (by decide +kernel)) (fun _ _ _ _ _ => (pg_name (i := 15) sc_law.nd rfl (.inl rfl))) (fun _ _ _ _ _ => pts_nil) (fun _ _ _ _ _ => (pe_ix (kIxT (K := K) rfl) (pe_ix (kIxT (K := K) rfl) (pe_ix (kIxT (K := K) rfl) (pe_ix (kIxT (K := K) rfl) (pe_ix (kIxT (K := K) rfl) (pv 15) pe_int (fun _ _ => rfl)) (pv 4) (fun _ _ => rfl)) pe_int (fun _ _ => rfl)) (pv 8) (fun _ _ => rfl)) pe_int (fun _ _ => rfl)))) pa_nil)) pa_nil))) pa_nil))))))
        (pss_one (ps_expr (pe_bm PySem.F.plainAttrs_list PySem.F.slot_list_append PySem.F.type_list_append mt_append (pv 6) (pa_cons (pe_tup (pa_cons (pe_ix ix_tup (pe_ix ix_tup (pe_ix ix_tup (pv 3) pe_int (fun _ _ => rfl)) (pv 4) (fun _ _ => rfl)) pe_int (fun _ _ => rfl)) (pa_cons (pe_ix ix_tup (pe_ix ix_tup (pe_ix ix_tup (pv 3) pe_int (fun _ _ => rfl)) (pv 4) (fun _ _ => rfl)) pe_int (fun _ _ => rfl)) (pa_cons (pe_ix ix_tup (pe_ix ix_tup (pe_ix ix_tup (pv 3) pe_int (fun _ _ => rfl)) (pv 4) (fun _ _ => rfl)) pe_int (fun _ _ => rfl)) (pa_cons (pe_callTy call_tuple_of (by rfl) T.tuple (by decide +kernel) (pa_cons (pv 7) pa_nil)) pa_nil))))) pa_nil)))))))
      (pss_cons (ps_set (i := 10) sc_law.nd rfl (.inl rfl) (pe_tup (pa_cons (pe_ix ix_tup (pv 3) pe_int (fun _ _ => rfl)) (pa_cons (pe_callTy call_tuple_of (by rfl) T.tuple (by decide +kernel) (pa_cons (pv 6) pa_nil)) (pa_cons (pe_ix ix_tup (pv 3) pe_int (fun _ _ => rfl)) (pa_cons (pe_ix ix_tup (pv 3) pe_int (fun _ _ => rfl)) pa_nil))))))
      (pss_cons (ps_set (i := 11) sc_law.nd rfl (.inl rfl) (pe_callTy call_list_of (by rfl) T.list (by decide +kernel) (pa_cons (pv 5) pa_nil)))
      (pss_cut (ps_if (PW.pt (pw_or (pt_not (pt_val (pe_call G_law_same (hr.mono (by omega)) (by rfl) g_law_same k_law_same b_law_same .nil pass0 (pa_cons (pe_call G_merged (hr.mono (by omega)) (by rfl) g_merged k_merged b_merged .nil passX0 (pa_cons (pv 11) pa_nil)) (pa_cons (pv 10) pa_nil))))) (pw_or1 (pt_cmpR (op_neD hr.units) (pv 11) (pv 5) (nomark _)))))
        (pss_one (ps_ret pe_bl))
        pss_nil)
      (pss_cons (ps_for PassesOwn.never rfl (pi_list (pe_lst (pa_cons pe_int (pa_cons pe_int (pa_cons pe_int (pa_cons pe_int pa_nil)))))) (pg_name (i := 12) sc_law.nd rfl (.inl rfl))
        (pss_cons (ps_set (i := 13) sc_law.nd rfl (.inr rfl) (pe_call G_law_ranged (hr.mono (by omega)) (by rfl) g_law_ranged k_law_ranged b_law_ranged .nil pass0 (pa_cons (pv 1) (pa_cons (pv 10) (pa_cons (pv 12) pa_nil)))))
        (pss_cons (ps_if (pt_not (pt_val (pe_call G_law_same (hr.mono (by omega)) (by rfl) g_law_same k_law_same b_law_same .nil pass0 (pa_cons (pe_call G_within (hr.mono (by omega)) (by rfl) g_within k_within b_within .nil pass0 (pa_cons (pv 10) (pa_cons (pv 13) pa_nil))) (pa_cons (pe_call G_law_inside (hr.mono (by omega)) (by rfl) g_law_inside k_law_inside b_law_inside .nil pass0 (pa_cons (pv 10) (pa_cons (pv 13) pa_nil))) pa_nil)))))
          (pss_one (ps_ret pe_bl))
          pss_nil)
        (pss_one (ps_if (PW.pt (pw_or (pt_cmpR op_ne (pe_call G_law_inside (hr.mono (by omega)) (by rfl) g_law_inside k_law_inside b_law_inside .nil pass0 (pa_cons (pv 10) (pa_cons (pv 13) pa_nil))) (pe_callB (cr_all rfl) (by rfl) T.all (by decide +kernel) (pa_cons (pe_lc (own := [("row", 15)]) (g := gName 15) (tt := tYes) rfl sc_law.nd (pi_list (pv 5)) (blkOk_by (N := ["script", "pool", "turn", "circuit", "k", "circuits", "gates", "ranges", "j", "lows", "due", "given", "wide", "other", "strange", "row"]) (sc := defScope s_law) (own := [("row", 15)]) (by decide +kernel)) (fun _ _ _ _ _ => (pg_name (i := 15) sc_law.nd rfl (.inl rfl))) (fun _ _ _ _ _ => pts_nil) (fun _ _ _ _ _ => (pe_call G_within (hr.mono (by omega)) (by rfl) g_within k_within b_within .nil pass0 (pa_cons (pv 15) (pa_cons (pv 13) pa_nil))))) pa_nil)) (nomark _)) (pw_or1 (pt_not (pt_val (pe_call G_within (hr.mono (by omega)) (by rfl) g_within k_within b_within .nil pass0 (pa_cons (pe_ix ix_list (pv 5) pe_int (fun _ _ => rfl)) (pa_cons (pv 10) pa_nil))))))))
          (pss_one (ps_ret pe_bl))
          pss_nil)))))
      (pss_cons (ps_set (i := 14) sc_law.nd rfl (.inl rfl) (pe_call G_law_other (hr.mono (by omega)) (by rfl) g_law_other k_law_other b_law_other .nil pass0 (pa_cons (pv 1) (pa_cons (pv 3) pa_nil))))
      (pss_cut (ps_if (PW.pt (pw_or (pt_not (pt_val (pe_call G_law_refused (hr.mono (by omega)) (by rfl) g_law_refused k_law_refused b_law_refused .nil pass0 (pa_cons (pe_lst pa_nil) pa_nil)))) (pw_or (pt_not (pt_val (pe_call G_law_refused (hr.mono (by omega)) (by rfl) g_law_refused k_law_refused b_law_refused .nil pass0 (pa_cons (pe_op op_cat (pv 5) (pe_lst (pa_cons (pv 14) pa_nil))) pa_nil)))) (pw_or1 (pt_not (pt_val (pe_call G_law_refused (hr.mono (by omega)) (by rfl) g_law_refused k_law_refused b_law_refused .nil pass0 (pa_cons (pe_op op_cat (pe_lst (pa_cons (pv 14) pa_nil)) (pv 5)) pa_nil))))))))
        (pss_one (ps_ret pe_bl))
        pss_nil)
      (pss_one (ps_if (PW.pt (pw_or (pt_cmpR op_notBl (pe_call G_within (hr.mono (by omega)) (by rfl) g_within k_within b_within .nil pass0 (pa_cons (pv 3) (pa_cons (pv 14) pa_nil))) pe_bl (nomark _)) (pw_or1 (pt_cmpR op_notBl (pe_call G_within (hr.mono (by omega)) (by rfl) g_within k_within b_within .nil pass0 (pa_cons (pv 14) (pa_cons (pv 3) pa_nil))) pe_bl (nomark _)))))
        (pss_one (ps_ret pe_bl))
        pss_nil)))))))))))))
    (pss_one (ps_ret pe_bl)))), ?_⟩
    refine ⟨_, rfl, sa, ns, rfl, hs, by omega, fun p a H0 hp _ _ => ⟨2, rfl, by decide, by decide, for_range (n := 2)
      (fun _ σ H' => Px p a H0 H' ∧ ∃ (x2 x3 x4 x5 x6 x7 x8 x9 x10 x11 x12 x13 x14 : Option V), σ = [some (.ref sa), some (.ref p), x2, x3, x4, x5, x6, x7, x8, x9, x10, x11, x12, x13, x14, none]) ⟨Px.refl hp, _, _, _, _, _, _, _, _, _, _, _, _, _, rfl⟩ ?_ ?_⟩⟩
    · rintro turn σ H1 _ ⟨X1, x2, x3, x4, x5, x6, x7, x8, x9, x10, x11, x12, x13, x14, rfl⟩
      refine ⟨_, rfl, p, a, 6, rfl, by decide, X1.pool, fun c d Gs it gt rt ot ga ra oa H2 Y2 hc2 W => ?_⟩
      have X2 := X1.trans Y2
      have hF := fine_of W (by decide)
      have hX2 : CircX H2 c d := ⟨it, gt, rt, ot, ga, ra, oa, hc2⟩
      -- the circuits
      refine ⟨_, rfl, p, a, 4, rfl, by decide, by decide, X2.pool, fun v0 H3 hv0 X3 _ => ⟨_, _, rfl, rfl, 1 + (v0 : Int), rfl, by omega, by omega, fun LS nLS => wk_it walk_range (fun j H' => Px p a H3 H' ∧ ∃ (cs : List Addr) (ds : List CircD), hid p H' LS = some (.lst (cs.map V.ref)) ∧ All2 (CircX H') cs ds ∧ ds.length = j ∧ ∀ e ∈ ds, LikeD d e)
        ⟨(Px.refl X3.pool).new nLS, [], [], by rw [hid_ne (X3.pool.ne nLS)]; exact upd_same, .nil, rfl, fun _ h => nomatch h⟩ (fun _ _ _ _ => trivial) ?_ ?_⟩⟩
      · rintro j x H4 H5 hj ⟨X4, cs, ds, hLS, hA, hdl, hlk⟩ ⟨rfl, ez⟩
        subst ez
        have hc4 := hc2.te ((TEx.px X3).trans (TEx.px X4))
        refine ⟨rfl, tYes_in ?_⟩
        simp only [wipe, _root_.L2.start, List.map_cons, List.map_nil, List.length_cons, List.length_nil, Nat.reduceAdd, Nat.reduceSub, List.replicate_succ, List.replicate_zero, List.cons_append, List.nil_append, List.set_cons_zero, List.set_cons_succ]
        have hLp := X3.pool.ne nLS
        refine ⟨_, rfl, _, rfl, p, a, c, 5, d, it, gt, rt, ot, ga, ra, oa, rfl, X4.pool, by decide, by decide, hc4, hF.gates, hF.rng, fun R c' gt' ga' H6 X6 nc' hS hc' => ?_⟩
        have hLS6 := X6.get hLS
        have TM : ∀ {l : List V}, TEx H6 (upd H6 LS (.lst l)) := fun {l} => TEx.mut (hid_get hLS6)
        refine ⟨_, hid_get hLS6, sz_lt (by rw [List.length_map, hA.1, hdl]; have : (j : Int) < 4 := (by have : j < (1 + (v0 : Int)).toNat := hj; omega); omega), (X4.trans X6).mut nLS, cs ++ [c'], ds ++ [{ d with gates := withD d.gates R }], ?_, ?_, ?_, ?_⟩
        · rw [hid_new hLp, List.map_append]; rfl
        · exact (hA.imp fun _ _ z => (z.tex (TEx.px X6)).tex TM).snoc (CircX.tex ⟨it, gt', rt, ot, ga', ra, oa, hc'⟩ TM)
        · rw [List.length_append, hdl]; rfl
        · intro e he
          rcases List.mem_append.mp he with z | z
          · exact hlk e z
          · rw [List.mem_singleton.mp z]; exact ⟨R, hS, rfl⟩
      · rintro H4 ⟨X4, cs, ds, hLS, hA, hdl, hlk⟩
        have hdn : ds.length = (1 + (v0 : Int)).toNat := hdl
        have hd4 : ds.length ≤ 4 := by omega
        have hd0 : 0 < ds.length := by omega
        have hcl := hA.1
        have X24 := X3.trans X4
        have hc4 := hc2.te (TEx.px X24)
        have hL4 := hid_get hLS
        refine ⟨Nat.zero_le _, fun GL nGL => ?_⟩
        have hG5 : upd H4 GL (.lst []) GL = some (.lst []) := upd_same
        have E5 : Ex H4 (upd H4 GL (.lst [])) := Ex.new nGL
        generalize upd H4 GL (.lst []) = H5 at *
        have hc5 := hc4.te (.of E5)
        have hgl := hc2.gates.1
        have hdn' : d.gates.length ≤ 1000 := hF.gates
        have rows_at : ∀ {k : Nat}, k < d.gates.length → (rowsD d ds)[k]? = some ((List.range (gaD d k).rng.length).map (joinAt (colD ds k))) := fun {k} hk => by unfold rowsD; rw [List.getElem?_map, List.getElem?_range hk]; rfl
        refine ⟨_, rfl, _, _, _, _, rfl, rfl, SqT.of hc5.top, atI_nat (j := 1) rfl, _, _, rfl, .inr (SqT.of hc5.gts), _, rfl, by omega, by rw [List.length_map, hgl]; omega, for_range (n := ((((ga.map V.ref).length : Nat) : Int)).toNat)
          (fun k σ H' => Ex H4 H' ∧ (∃ as : List Addr, H' GL = some (.lst (as.map V.ref)) ∧ All2 (GateAt H') as (withD (d.gates.take k) ((rowsD d ds).take k))) ∧
            ∃ y4 y7 y8 y9 : Option V, σ = [some (.ref sa), some (.ref p), some (.int (0 + (turn : Int))), some (.ref c), y4, some (.ref LS), some (.ref GL), y7, y8, y9, x10, x11, x12, x13, x14, none])
          ⟨E5, ⟨[], hG5, .nil⟩, _, _, _, _, rfl⟩ ?_ ?_⟩
        · rintro k σ H6 hk ⟨E6, ⟨as, hG6, hAs⟩, y4, y7, y8, y9, rfl⟩
          rw [Int.toNat_natCast, List.length_map, hgl] at hk
          rw [Int.zero_add]
          obtain ⟨g, hg⟩ : ∃ g, d.gates[k]? = some g := ⟨_, List.getElem?_eq_getElem hk⟩
          obtain ⟨b, hb, t, pt, rgt, rga, a1, a2, a3, a4, a5⟩ := hc4.gates.of hg
          have hbV : (ga.map V.ref)[k]? = some (.ref b) := by rw [List.getElem?_map, hb]; rfl
          have egk := gaD_at hg
          have hgr := hF.rng g (List.mem_of_getElem? hg)
          have hal := a5.1
          -- ranges
          refine ⟨Nat.zero_le _, fun RL nRL => ?_⟩
          have hR7 : upd H6 RL (.lst []) RL = some (.lst []) := upd_same
          have E7 : Ex H6 (upd H6 RL (.lst [])) := Ex.new nRL
          generalize upd H6 RL (.lst []) = H7 at *
          have e7 := E6.trans E7
          have hc7 := hc4.te (.of e7)
          refine ⟨_, rfl, _, _, _, _, rfl, rfl, SqT.of hc7.top, atI_nat (j := 1) rfl, _, rfl, _, _, _, _, rfl, rfl, SqT.of hc7.gts, atI_nat hbV, _, _, _, _, rfl, rfl, SqT.of (e7 _ _ a1), atI_nat (j := 3) rfl, _, _, rfl, .inr (SqT.of (e7 _ _ a4)), _, rfl, by omega, by rw [List.length_map, hal]; omega, for_range (n := ((((rga.map V.ref).length : Nat) : Int)).toNat)
            (fun j σ H' => Ex H6 H' ∧ (∃ bs : List Addr, H' RL = some (.lst (bs.map V.ref)) ∧ All2 (IntsAt H') bs ((List.range j).map (joinAt (colD ds k)))) ∧
              ∃ z8 z9 : Option V, σ = [some (.ref sa), some (.ref p), some (.int (0 + (turn : Int))), some (.ref c), some (.int (k : Nat)), some (.ref LS), some (.ref GL), some (.ref RL), z8, z9, x10, x11, x12, x13, x14, none])
            ⟨E7, ⟨[], hR7, .nil⟩, _, _, rfl⟩ ?_ ?_⟩
          · rintro j σ H8 hj ⟨E8, ⟨bs, hR8, hB⟩, z8, z9, rfl⟩
            rw [Int.toNat_natCast, List.length_map, hal] at hj
            rw [Int.zero_add]
            have e8 := E6.trans E8
            have hL8 := e8 _ _ hL4
            have rowL : ∀ {i : Nat} {ci : Addr} {e : CircD} {H' : Hp}, Ex H8 H' → cs[i]? = some ci → ds[i]? = some e → CircX H' ci e ∧ k < e.gates.length ∧ j < (gaD e k).rng.length := fun {i ci e H'} E9 h1 h2 => by
              have lk := hlk e (List.mem_of_getElem? h2)
              exact ⟨((hA.2 i ci e h1 h2).ex (e8.trans E9)), by rw [lk.len]; exact hk, by rw [gaD_like lk hk, egk]; exact hj⟩
            -- lows
            refine ⟨_, rfl, LS, rfl, ⟨_, SqL.of hL8⟩, fun ML nML => wk_list (K := K) (a := LS) (xs := cs.map V.ref) (fun i H' => Ex H8 H' ∧ H' ML = some (.lst (((ds.take i).map fun e => (rgJ (gaD e k) j).1).map V.int)))
              ⟨Ex.new nML, upd_same⟩ (fun i H' _ z => SqL.of (z.1 _ _ hL8)) ?_ ?_⟩
            · rintro i x H9 hx ⟨E9, hM9⟩
              obtain ⟨ci, hci, rfl⟩ := refs_get hx
              obtain ⟨e, he, _⟩ := hA.at_ hci
              obtain ⟨Xe, hke, hje⟩ := rowL E9 hci he
              obtain ⟨it', gt', rt', ot', b', t', pt', rgt', q', gv, rv, r1, r2, r3, r4, r5, r6, r7⟩ := row_at Xe hke hje
              have hil := (List.getElem?_eq_some_iff.mp he).1
              refine ⟨(by rw [wipe_set (by decide), wipe_wipe]), tYes_in ?_⟩
              simp only [wipe, _root_.L2.start, List.map_cons, List.map_nil, List.length_cons, List.length_nil, Nat.reduceAdd, Nat.reduceSub, List.replicate_succ, List.replicate_zero, List.cons_append, List.nil_append, List.set_cons_zero, List.set_cons_succ]
              refine ⟨_, rfl, _, _, _, _, rfl, rfl, SqT.of r1, atI_nat (j := 1) rfl, _, rfl, _, _, _, _, rfl, rfl, SqT.of r2, atI_nat r3, _, _, _, _, rfl, rfl, SqT.of r4, atI_nat (j := 3) rfl, _, rfl, _, _, _, _, rfl, rfl, SqT.of r5, atI_nat r6, _, _, _, _, rfl, rfl, SqT.of r7, atI_nat (j := 0) rfl, _, hM9, sz_lt (by rw [List.length_map, List.length_map, List.length_take]; omega), E9.mut nML, ?_⟩
              rw [upd_same, take_snoc1 he, List.map_append, List.map_append]
              rfl
            · rintro H9 ⟨E9, hM9⟩
              rw [List.length_map, hcl, List.take_length] at hM9
              have hL9 := E9 _ _ hL8
              refine ⟨_, rfl, .inl ⟨rfl, _, SqL.of (E9 _ _ hR8)⟩, _, rfl, ML, _, rfl, SqL.of hM9, by rw [List.length_map]; exact hd0, fun lo lo1 lo2 => ?_⟩
              have elo := minI_eq lo1 lo2
              subst elo
              refine ⟨_, rfl, LS, rfl, ⟨_, SqL.of hL9⟩, fun NL nNL => wk_list (K := K) (a := LS) (xs := cs.map V.ref) (fun i H' => Ex H9 H' ∧ H' NL = some (.lst (((ds.take i).map fun e => (rgJ (gaD e k) j).2).map V.int)))
                ⟨Ex.new nNL, upd_same⟩ (fun i H' _ z => SqL.of (z.1 _ _ hL9)) ?_ ?_⟩
              · rintro i x H10 hx ⟨E10, hN10⟩
                obtain ⟨ci, hci, rfl⟩ := refs_get hx
                obtain ⟨e, he, _⟩ := hA.at_ hci
                obtain ⟨Xe, hke, hje⟩ := rowL (E9.trans E10) hci he
                obtain ⟨it', gt', rt', ot', b', t', pt', rgt', q', gv, rv, r1, r2, r3, r4, r5, r6, r7⟩ := row_at Xe hke hje
                have hil := (List.getElem?_eq_some_iff.mp he).1
                refine ⟨(by rw [wipe_set (by decide), wipe_wipe]), tYes_in ?_⟩
                simp only [wipe, _root_.L2.start, List.map_cons, List.map_nil, List.length_cons, List.length_nil, Nat.reduceAdd, Nat.reduceSub, List.replicate_succ, List.replicate_zero, List.cons_append, List.nil_append, List.set_cons_zero, List.set_cons_succ]
                refine ⟨_, rfl, _, _, _, _, rfl, rfl, SqT.of r1, atI_nat (j := 1) rfl, _, rfl, _, _, _, _, rfl, rfl, SqT.of r2, atI_nat r3, _, _, _, _, rfl, rfl, SqT.of r4, atI_nat (j := 3) rfl, _, rfl, _, _, _, _, rfl, rfl, SqT.of r5, atI_nat r6, _, _, _, _, rfl, rfl, SqT.of r7, atI_nat (j := 1) rfl, _, hN10, sz_lt (by rw [List.length_map, List.length_map, List.length_take]; omega), E10.mut nNL, ?_⟩
                rw [upd_same, take_snoc1 he, List.map_append, List.map_append]
                rfl
              · rintro H10 ⟨E10, hN10⟩
                rw [List.length_map, hcl, List.take_length] at hN10
                refine ⟨NL, _, rfl, SqL.of hN10, by rw [List.length_map]; exact hd0, fun hi hi1 hi2 => ?_⟩
                have ehi := maxI_eq hi1 hi2
                subst ehi
                refine ⟨(by show 2 ≤ sizeLine; decide), fun q5 nq5 => ?_⟩
                have ejn : joinAt (colD ds k) j = (minI (ds.map fun e => (rgJ (gaD e k) j).1), maxI (ds.map fun e => (rgJ (gaD e k) j).2)) := by
                  unfold joinAt colD
                  rw [List.map_map, List.map_map]
                  rfl
                have E11 : Ex H10 (upd H10 q5 (.tup [.int (minI (ds.map fun e => (rgJ (gaD e k) j).1)), .int (maxI (ds.map fun e => (rgJ (gaD e k) j).2))])) := Ex.new nq5
                have hq11 : upd H10 q5 (.tup [.int (minI (ds.map fun e => (rgJ (gaD e k) j).1)), .int (maxI (ds.map fun e => (rgJ (gaD e k) j).2))]) q5 = some (.tup [.int (minI (ds.map fun e => (rgJ (gaD e k) j).1)), .int (maxI (ds.map fun e => (rgJ (gaD e k) j).2))]) := upd_same
                generalize upd H10 q5 (.tup [.int (minI (ds.map fun e => (rgJ (gaD e k) j).1)), .int (maxI (ds.map fun e => (rgJ (gaD e k) j).2))]) = H11 at *
                have e811 := E9.trans (E10.trans E11)
                have hR11 := e811 _ _ hR8
                refine ⟨RL, _, _, rfl, rfl, hR11, sz_lt (by rw [List.length_map, hB.1, List.length_map, List.length_range]; omega), (E8.trans e811).mut nRL, ⟨bs ++ [q5], by rw [upd_same, List.map_append]; rfl, ?_⟩, _, _, rfl⟩
                rw [List.range_succ, List.map_append]
                refine (hB.imp fun _ _ z => (z.te (.of e811)).te (TEx.mut hR11)).snoc ?_
                refine TEx.mut hR11 _ _ ?_
                rw [hq11, ejn]
          · rintro σ H8 ⟨E8, ⟨bs, hR8, hB⟩, z8, z9, rfl⟩
            rw [Int.toNat_natCast, List.length_map, hal] at hB
            have e8 := E6.trans E8
            have hc8 := hc4.te (.of e8)
            have b1 := e8 _ _ a1
            refine ⟨_, rfl, .inl ⟨rfl, _, SqL.of (E8 _ _ hG6)⟩, _, rfl, _, _, _, _, rfl, rfl, SqT.of hc8.top, atI_nat (j := 1) rfl, _, rfl, _, _, _, _, rfl, rfl, SqT.of hc8.gts, atI_nat hbV, _, _, _, _, rfl, rfl, SqT.of b1, atI_nat (j := 0) rfl,
              _, rfl, _, _, _, _, rfl, rfl, SqT.of hc8.top, atI_nat (j := 1) rfl, _, rfl, _, _, _, _, rfl, rfl, SqT.of hc8.gts, atI_nat hbV, _, _, _, _, rfl, rfl, SqT.of b1, atI_nat (j := 1) rfl,
              _, rfl, _, _, _, _, rfl, rfl, SqT.of hc8.top, atI_nat (j := 1) rfl, _, rfl, _, _, _, _, rfl, rfl, SqT.of hc8.gts, atI_nat hbV, _, _, _, _, rfl, rfl, SqT.of b1, atI_nat (j := 2) rfl,
              _, rfl, _, _, rfl, .inl ⟨SqL.of hR8, fun rt' nrt => ⟨(by show 4 ≤ sizeLine; decide), fun cg ncg => ?_⟩⟩⟩
            have E10 := (Ex.new (o := .tup (bs.map V.ref)) nrt).trans (Ex.new (o := .tup [.str g.name, .ref t, .ref pt, .ref rt']) ncg)
            have hrt : upd (upd H8 rt' (.tup (bs.map V.ref))) cg (.tup [.str g.name, .ref t, .ref pt, .ref rt']) rt' = some (.tup (bs.map V.ref)) := Ex.new ncg _ _ upd_same
            have hcg : upd (upd H8 rt' (.tup (bs.map V.ref))) cg (.tup [.str g.name, .ref t, .ref pt, .ref rt']) cg = some (.tup [.str g.name, .ref t, .ref pt, .ref rt']) := upd_same
            generalize upd (upd H8 rt' (.tup (bs.map V.ref))) cg (.tup [.str g.name, .ref t, .ref pt, .ref rt']) = H10 at *
            have e610 := E8.trans E10
            have hG10 := e610 _ _ hG6
            have TM : ∀ {l : List V}, TEx H10 (upd H10 GL (.lst l)) := fun {l} => TEx.mut hG10
            refine ⟨GL, _, _, rfl, rfl, hG10, sz_lt (by rw [List.length_map, hAs.1]; unfold withD; rw [List.length_zipWith, List.length_take]; omega), (E6.trans e610).mut nGL, ⟨as ++ [cg], by rw [upd_same, List.map_append]; rfl, ?_⟩, _, _, _, _, rfl⟩
            rw [withD_snoc hg (rows_at hk), egk]
            have e410 := E6.trans e610
            exact (hAs.imp fun _ _ z => (z.te (.of e610)).te TM).snoc ⟨t, pt, rt', bs, TM _ _ hcg, TM _ _ (e410 _ _ a2), TM _ _ (e410 _ _ a3), TM _ _ hrt, hB.imp fun _ _ z => (z.te (.of E10)).te TM⟩
        · rintro σ H6 ⟨E6, ⟨as, hG6, hAs⟩, y4, y7, y8, y9, rfl⟩
          rw [Int.toNat_natCast, List.length_map, hgl, List.take_length, List.take_of_length_le (by rw [(rows_shape d ds).1]; exact Nat.le_refl _)] at hAs
          have hc6 := hc4.te (.of E6)
          refine ⟨_, rfl, _, _, _, _, rfl, rfl, SqT.of hc6.top, atI_nat (j := 0) rfl, _, rfl, _, _, rfl, .inl ⟨SqL.of hG6, fun g2 ng2 => ⟨_, rfl, _, _, _, _, rfl, rfl, SqT.of (hc6.te (.of (Ex.new ng2))).top, atI_nat (j := 2) rfl, _, rfl, _, _, _, _, rfl, rfl, SqT.of (hc6.te (.of (Ex.new ng2))).top, atI_nat (j := 3) rfl, (by show 4 ≤ sizeLine; decide), fun cd ncd => ?_⟩⟩⟩
          have E8 := (Ex.new (o := .tup (as.map V.ref)) ng2).trans (Ex.new (o := .tup [.ref it, .ref g2, .ref rt, .ref ot]) ncd)
          have hg8 : upd (upd H6 g2 (.tup (as.map V.ref))) cd (.tup [.ref it, .ref g2, .ref rt, .ref ot]) g2 = some (.tup (as.map V.ref)) := Ex.new ncd _ _ upd_same
          have hcd8 : upd (upd H6 g2 (.tup (as.map V.ref))) cd (.tup [.ref it, .ref g2, .ref rt, .ref ot]) cd = some (.tup [.ref it, .ref g2, .ref rt, .ref ot]) := upd_same
          generalize upd (upd H6 g2 (.tup (as.map V.ref))) cd (.tup [.ref it, .ref g2, .ref rt, .ref ot]) = H8 at *
          have e8 := E6.trans E8
          have hcx := hc4.te (.of e8)
          have hdue : CircAt H8 cd (mergedD d ds) it g2 rt ot as ra oa := ⟨hcd8, hcx.ins, hg8, hcx.rgs, hcx.ots, hAs.imp fun _ _ z => z.te (.of E8), hcx.regs, hcx.outs⟩
          refine ⟨_, rfl, LS, _, rfl, .inl (SqL.of (e8 _ _ hL4)), fun gv ngv => ?_⟩
          have E9 : Ex H8 (upd H8 gv (.lst (cs.map V.ref))) := Ex.new ngv
          have hgv : upd H8 gv (.lst (cs.map V.ref)) gv = some (.lst (cs.map V.ref)) := upd_same
          generalize upd H8 gv (.lst (cs.map V.ref)) = H9 at *
          have e9 := e8.trans E9
          have hdue9 := hdue.te (.of E9)
          have hA9 : All2 (CircX H9) cs ds := hA.imp fun _ _ z => z.ex e9
          have hfd : ∀ e ∈ ds, Fine e := fun e he => (hlk e he).fine hF
          have hM := like_merged d ds
          have hMF := hM.fine hF
          obtain ⟨c1, hc1⟩ : ∃ c1, cs[0]? = some c1 := ⟨_, List.getElem?_eq_getElem (by omega)⟩
          obtain ⟨d1, hd1, X1c⟩ := hA9.at_ hc1
          have hc1V : (cs.map V.ref)[0]? = some (.ref c1) := by rw [List.getElem?_map, hc1]; rfl
          have lk1 := hlk d1 (List.mem_of_getElem? hd1)
          have noBad : ¬ (ds = [] ∨ ∃ d0 d', ds[0]? = some d0 ∧ d' ∈ ds ∧ stripD d0 ≠ stripD d') := fun z => by
            rcases z with z | ⟨d0, d', h1, h2, h3⟩
            · rw [z] at hd0; cases hd0
            · exact h3 ((hlk d0 (List.mem_of_getElem? h1)).strip.symm.trans (hlk d' h2).strip)
          refine ⟨fun σ H' => Ex H9 H' ∧ σ = [some (.ref sa), some (.ref p), some (.int (0 + (turn : Int))), some (.ref c), y4, some (.ref LS), some (.ref GL), y7, y8, y9, some (.ref cd), some (.ref gv), x12, x13, x14, none], ?_, ?_⟩
          · refine ⟨_, rfl, gv, cs, ds, rfl, hgv, hA9, by omega, hfd, fun z => absurd z noBad, fun d0 h0 _ => ⟨hd4, fun c' H10 E10 _ hX' => ?_⟩⟩
            rw [hd1] at h0
            cases h0
            rw [merged_like lk1 ds] at hX'
            obtain ⟨it', gt', rt', ot', ga', ra', oa', hc'⟩ := hX'
            refine ⟨_, rfl, _, _, circD (mergedD d ds), rfl, rep_circ hc', rep_circ (hdue9.te (.of E10)), ok_circD (hM.few (W.circFew (by decide))), _, rfl, iteF ?_⟩
            obtain ⟨sh, ev⟩ := circs_same (fun e he => (hfd e he).tx)
            have hdp : ∀ {l : Addr}, H10 l = some (.lst (cs.map V.ref)) → Dp K H10 (.ref l) (.list (ds.map circQ)) := fun h => .lst (SqL.of h) (dpAll_all2 (fun _ _ z => dp_circQ z) (hA9.imp fun _ _ z => z.ex E10))
            refine ⟨_, rfl, _, rfl, _, _, hdp (E10 _ _ hgv), hdp ((E9.trans E10) _ _ (e8 _ _ hL4)), sh, sh, _, rfl, it0M (by rw [ev]; rfl) ?_⟩
            exact ⟨E10, rfl⟩
          · rintro σ H10 ⟨E10, rfl⟩
            refine ⟨(by show 4 ≤ sizeLine; decide), fun wl nwl => ?_⟩
            have e10 := e9.trans E10
            have hwl : upd H10 wl (.lst [.int 1, .int 2, .int 6, .int 12]) wl = some (.lst [.int 1, .int 2, .int 6, .int 12]) := upd_same
            have E11 : Ex H10 (upd H10 wl (.lst [.int 1, .int 2, .int 6, .int 12])) := Ex.new nwl
            have nwp : wl ≠ p := (X4.more e10).pool.ne nwl
            generalize upd H10 wl (.lst [.int 1, .int 2, .int 6, .int 12]) = H11 at *
            have e11 := e10.trans E11
            have P11 := (X4.more e11).pool
            have hwh : hid p H11 wl = some (.lst [.int 1, .int 2, .int 6, .int 12]) := by rw [hid_ne nwp]; exact hwl
            have hLp : LS ≠ p := X3.pool.ne nLS
            have hLh : hid p H11 LS = some (.lst (cs.map V.ref)) := by rw [hid_ne hLp]; exact e11 _ _ hL4
            have hdue11 := hdue9.te (.of (E10.trans E11))
            have hA11 : All2 (CircX H11) cs ds := hA9.imp fun _ _ z => z.ex (E10.trans E11)
            refine ⟨wl, rfl, ⟨_, SqL.of hwl⟩, for_list (K := K) (a := wl) (xs := [.int 1, .int 2, .int 6, .int 12])
              (fun i σ H' => Px p a H11 H' ∧ ∃ z12 z13 : Option V, σ = [some (.ref sa), some (.ref p), some (.int (0 + (turn : Int))), some (.ref c), y4, some (.ref LS), some (.ref GL), y7, y8, y9, some (.ref cd), some (.ref gv), z12, z13, x14, none])
              ⟨Px.refl P11, _, _, rfl⟩ (fun i σ H' _ z => SqL.of (hid_get (z.1.get hwh))) ?_ ?_⟩
            · rintro i x σ H12 hx ⟨X12, z12, z13, rfl⟩
              obtain ⟨wd, rfl, wd0, wd1⟩ : ∃ wd : Int, x = .int wd ∧ 0 < wd ∧ wd ≤ 100 := by
                match i, hx with
                | 0, hx => cases hx; exact ⟨1, rfl, by decide, by decide⟩
                | 1, hx => cases hx; exact ⟨2, rfl, by decide, by decide⟩
                | 2, hx => cases hx; exact ⟨6, rfl, by decide, by decide⟩
                | 3, hx => cases hx; exact ⟨12, rfl, by decide, by decide⟩
              refine ⟨_, rfl, _, rfl, _, rfl, p, a, cd, wd, mergedD d ds, it, g2, rt, ot, as, ra, oa, rfl, X12.pool, wd0, wd1, hdue11.te (TEx.px X12), hMF.gates, hMF.rng, fun R co gto gao H13 X13 nco hS hco => ?_⟩
              have X1213 := X12.trans X13
              have T13 := TEx.px X1213
              have hlo : LikeD (mergedD d ds) { mergedD d ds with gates := withD (mergedD d ds).gates R } := ⟨R, hS, rfl⟩
              generalize hO : ({ mergedD d ds with gates := withD (mergedD d ds).gates R } : CircD) = o at *
              have hdo := hM.trans hlo
              have hoF := hdo.fine hF
              have hd13 := hdue11.te T13
              have hXd13 : CircX H13 cd (mergedD d ds) := ⟨_, _, _, _, _, _, _, hd13⟩
              have hXo13 : CircX H13 co o := ⟨_, _, _, _, _, _, _, hco⟩
              have est : stripD (mergedD d ds) = stripD o := hlo.strip
              have lens : (mergedD d ds).gates.length = o.gates.length := hlo.len.symm
              have rngs : ∀ (k : Nat) (g g2 : GateD), (mergedD d ds).gates[k]? = some g → o.gates[k]? = some g2 → g.rng.length = g2.rng.length := fun k g g2 h1 h2 => by
                obtain ⟨g', q1, _, _, _, q5⟩ := hlo.at_ h1
                rw [h2] at q1
                cases q1
                exact q5.symm
              refine ⟨_, rfl, _, rfl, cd, co, mergedD d ds, o, it, g2, rt, ot, as, ra, oa, it, gto, rt, ot, gao, ra, oa, rfl, hd13, hco, hMF.gates, hoF.gates, hMF.tx, hoF.tx, hMF.rw, hoF.rw, fun H14 E14 => ?_⟩
              rw [decide_eq_true est, Bool.true_and]
              refine ⟨_, rfl, _, rfl, cd, co, mergedD d ds, o, rfl, hXd13.ex E14, hXo13.ex E14, hMF.gates, hMF.rng, lens, rngs, ?_⟩
              refine ⟨_, _, .bl (inD (mergedD d ds) o), rfl, .bl _, .bl _, ok_bl _, _, rfl, iteF ?_⟩
              refine ⟨_, rfl, _, rfl, cd, co, mergedD d ds, o, rfl, hXd13.ex E14, hXo13.ex E14, hMF.gates, hMF.rng, lens, rngs, ?_⟩
              have hL14 : H14 LS = some (.lst (cs.map V.ref)) := E14 _ _ (hid_get (X1213.get hLh))
              have hA14 : All2 (CircX H14) cs ds := hA11.imp fun _ _ z => (z.tex T13).ex E14
              refine ⟨_, rfl, LS, rfl, ⟨_, SqL.of hL14⟩, fun BL nBL => wk_list (K := K) (a := LS) (xs := cs.map V.ref) (fun i H' => Ex H14 H' ∧ H' BL = some (.lst (((ds.take i).map fun e => inD e o).map V.bl)))
                ⟨Ex.new nBL, upd_same⟩ (fun i H' _ z => SqL.of (z.1 _ _ hL14)) ?_ ?_⟩
              · rintro i x H15 hx ⟨E15, hB15⟩
                obtain ⟨ci, hci, rfl⟩ := refs_get hx
                obtain ⟨e, he, Xe⟩ := hA14.at_ hci
                have lke := hlk e (List.mem_of_getElem? he)
                have feF := lke.fine hF
                obtain ⟨it', gt', rt', ot', ga', ra', oa', hce⟩ := Xe.ex E15
                have hil := (List.getElem?_eq_some_iff.mp he).1
                refine ⟨(by rw [wipe_set (by decide), wipe_wipe]), tYes_in ?_⟩
                simp only [wipe, _root_.L2.start, List.map_cons, List.map_nil, List.length_cons, List.length_nil, Nat.reduceAdd, Nat.reduceSub, List.replicate_succ, List.replicate_zero, List.cons_append, List.nil_append, List.set_cons_zero, List.set_cons_succ]
                refine ⟨_, rfl, _, rfl, ci, co, e, o, it', gt', rt', ot', ga', ra', oa', it, gto, rt, ot, gao, ra, oa, rfl, hce, hco.te (.of (E14.trans E15)), feF.gates, hoF.gates, feF.tx, hoF.tx, feF.rw, hoF.rw, fun H16 E16 => ?_⟩
                rw [decide_eq_true (lke.strip.symm.trans hdo.strip), Bool.true_and]
                refine ⟨_, E16 _ _ hB15, sz_lt (by rw [List.length_map, List.length_map, List.length_take]; omega), (E15.trans E16).mut nBL, ?_⟩
                rw [upd_same, take_snoc1 he, List.map_append, List.map_append]
                rfl
              · rintro H15 ⟨E15, hB15⟩
                rw [List.length_map, hcl, List.take_length] at hB15
                have eall : inD (mergedD d ds) o = (ds.map fun e => inD e o).all id := merged_in hlk hdo hd0
                have hd1c := hdue11.te (T13.trans (.of (E14.trans E15)))
                have hA15 : All2 (CircX H15) cs ds := hA14.imp fun _ _ z => z.ex E15
                obtain ⟨it1, gt1, rt1, ot1, ga1, ra1, oa1, hcc1⟩ := hA15.2 0 c1 d1 hc1 hd1
                have f1 := lk1.fine hF
                refine ⟨BL, _, rfl, SqL.of hB15, rfl, _, rfl, it0M (by rw [eall, decide_eq_true rfl]; rfl) ?_⟩
                refine ⟨_, rfl, _, _, _, _, rfl, rfl, SqL.of (E15 _ _ hL14), atI_nat (j := 0) hc1V, _, rfl, c1, cd, d1, mergedD d ds, it1, gt1, rt1, ot1, ga1, ra1, oa1, it, g2, rt, ot, as, ra, oa, rfl, hcc1, hd1c, f1.gates, hMF.gates, f1.tx, hMF.tx, f1.rw, hMF.rw, fun H16 E16 => ?_⟩
                rw [decide_eq_true (lk1.strip.symm.trans hM.strip), Bool.true_and, in_merged lk1 (List.mem_of_getElem? hd1)]
                exact ⟨_, rfl, iteF ⟨X1213.more (E14.trans (E15.trans E16)), _, _, rfl⟩⟩
            · rintro σ H12 ⟨X12, z12, z13, rfl⟩
              have hF9 : d.gates.length ≤ 900 := by have := W.glen; omega
              have T12 := TEx.px X12
              have hc12 : CircX H12 c d := (hX2.tex ((TEx.px X24).trans (.of e11))).tex T12
              refine ⟨_, rfl, _, rfl, p, a, c, d, rfl, X12.pool, hc12, hF, hF9, by have := W.ilen; omega, by have := W.rlen; omega, by have := W.olen; omega, fun g hg => ?_, fun co o H13 X13 hO hXo => ?_⟩
              · have := (W.gsm hg).tab
                have h3 := (W.gsm hg).few
                have : g.pins.length = 0 ∨ g.pins.length = 1 ∨ g.pins.length = 2 ∨ g.pins.length = 3 := by omega
                rcases this with z | z | z | z <;> (rw [z] at this; omega)
              have X1113 := X12.trans X13
              have hL13 := X1113.get hLh
              have hA13 : All2 (CircX H13) cs ds := hA11.imp fun _ _ z => z.tex (TEx.px X1113)
              have hc13 := hc12.tex (TEx.px X13)
              refine ⟨fun σ H' => Ex H13 H' ∧ σ = [some (.ref sa), some (.ref p), some (.int (0 + (turn : Int))), some (.ref c), y4, some (.ref LS), some (.ref GL), y7, y8, y9, some (.ref cd), some (.ref gv), z12, z13, some (.ref co), none], ?_, ?_⟩
              · have hodd1 : stripD d1 ≠ stripD o := fun z => hO.1 (lk1.strip.trans z)
                refine ⟨Nat.zero_le _, fun l0 n0 => ⟨l0, [], [], rfl, upd_same, .nil, Nat.zero_le _, (fun _ h => nomatch h), .inl rfl, fun H14 E14 => ⟨_, rfl, iteF ?_⟩⟩⟩
                have e14 : Ex H13 H14 := (Ex.new n0).trans E14
                have hL14 := e14 _ _ (hid_get hL13)
                refine ⟨_, rfl, _, rfl, (by show 1 ≤ sizeLine; decide), fun l1 n1 => ⟨LS, l1, _, _, rfl, rfl, Ex.new n1 _ _ hL14, upd_same, sz_of (by rw [List.length_map]; show _ + 1 ≤ _; omega), fun l2 n2 => ?_⟩⟩
                have E16 := (Ex.new (o := .lst [.ref co]) n1).trans (Ex.new (o := .lst (cs.map V.ref ++ [.ref co])) n2)
                have h16 : upd (upd H14 l1 (.lst [.ref co])) l2 (.lst (cs.map V.ref ++ [.ref co])) l2 = some (.lst (cs.map V.ref ++ [.ref co])) := upd_same
                generalize upd (upd H14 l1 (.lst [.ref co])) l2 (.lst (cs.map V.ref ++ [.ref co])) = H16 at *
                have e16 := e14.trans E16
                refine ⟨l2, cs ++ [co], ds ++ [o], rfl, by rw [h16, List.map_append]; rfl, (hA13.imp fun _ _ z => z.ex e16).snoc (hXo.ex e16), by rw [List.length_append]; show _ + 1 ≤ _; omega, fun e he => ?_, .inr ⟨d1, o, by rw [List.getElem?_append_left hd0]; exact hd1, List.mem_append.mpr (.inr List.mem_cons_self), hodd1⟩, fun H17 E17 => ⟨_, rfl, iteF ?_⟩⟩
                · rcases List.mem_append.mp he with z | z
                  · exact hfd e z
                  · rw [List.mem_singleton.mp z]; exact hO.2
                have e17 := e16.trans E17
                have hL17 := e17 _ _ (hid_get hL13)
                refine ⟨_, rfl, (by show 1 ≤ sizeLine; decide), fun l3 n3 => ⟨_, rfl, l3, LS, _, _, rfl, rfl, upd_same, Ex.new n3 _ _ hL17, sz_of (by rw [List.length_map]; show 1 + _ ≤ _; omega), fun l4 n4 => ?_⟩⟩
                have E19 := (Ex.new (o := .lst [.ref co]) n3).trans (Ex.new (o := .lst ([.ref co] ++ cs.map V.ref)) n4)
                have h19 : upd (upd H17 l3 (.lst [.ref co])) l4 (.lst ([.ref co] ++ cs.map V.ref)) l4 = some (.lst ([.ref co] ++ cs.map V.ref)) := upd_same
                generalize upd (upd H17 l3 (.lst [.ref co])) l4 (.lst ([.ref co] ++ cs.map V.ref)) = H19 at *
                have e19 := e17.trans E19
                refine ⟨l4, co :: cs, o :: ds, rfl, h19, .cons (hXo.ex e19) (hA13.imp fun _ _ z => z.ex e19), by rw [List.length_cons]; omega, fun e he => ?_, .inr ⟨o, d1, rfl, List.mem_cons_of_mem _ (List.mem_of_getElem? hd1), Ne.symm hodd1⟩, fun H20 E20 => ⟨_, rfl, iteF ⟨e19.trans E20, rfl⟩⟩⟩
                rcases List.mem_cons.mp he with z | z
                · rw [z]; exact hO.2
                · exact hfd e z
              · rintro σ H14 ⟨E14, rfl⟩
                obtain ⟨it1, gt1, rt1, ot1, ga1, ra1, oa1, hcc⟩ := hc13.ex E14
                obtain ⟨it2, gt2, rt2, ot2, ga2, ra2, oa2, hco⟩ := hXo.ex E14
                refine ⟨_, rfl, _, rfl, c, co, d, o, it1, gt1, rt1, ot1, ga1, ra1, oa1, it2, gt2, rt2, ot2, ga2, ra2, oa2, rfl, hcc, hco, hF.gates, hO.2.gates, hF.tx, hO.2.tx, hF.rw, hO.2.rw, fun H15 E15 => ?_⟩
                rw [decide_eq_false hO.1, Bool.false_and]
                refine ⟨_, _, rfl, rfl, _, rfl, it0M (by rfl) ?_⟩
                refine ⟨_, rfl, _, rfl, co, c, o, d, it2, gt2, rt2, ot2, ga2, ra2, oa2, it1, gt1, rt1, ot1, ga1, ra1, oa1, rfl, hco.te (.of E15), hcc.te (.of E15), hO.2.gates, hF.gates, hO.2.tx, hF.tx, hO.2.rw, hF.rw, fun H16 E16 => ?_⟩
                rw [decide_eq_false (Ne.symm hO.1), Bool.false_and]
                exact ⟨_, _, rfl, rfl, _, rfl, it0M (by rfl) ⟨(X2.trans (X24.more e11)).trans (X1113.more (E14.trans (E15.trans E16))), _, _, _, _, _, _, _, _, _, _, _, _, _, rfl⟩⟩
    · rintro σ H1 ⟨X1, x2, x3, x4, x5, x6, x7, x8, x9, x10, x11, x12, x13, x14, rfl⟩
      exact q H1
end
end G
namespace G
open PySem PySem.Spec PyProof.Rows L2
/-- the defs and the built-in names as the top has left them -/
structure All (K : PySem.W.Frag) (mg : Str → Option Value) : Prop where
  d_with_ranges : Dfd K mg "with_ranges" s_with_ranges ["circuit", "rows"]
  d_merged : Dfd K mg "merged" s_merged ["circuits"]
  d_within : Dfd K mg "within" s_within ["circuit", "other"]
  d_joined_ranges : Dfd K mg "_joined_ranges" s_joined_ranges ["gates"]
  d_alike : Dfd K mg "_alike" s_alike ["circuit", "other"]
  d_without_ranges : Dfd K mg "_without_ranges" s_without_ranges ["circuit"]
  d_law_pool : Dfd K mg "_law_pool" s_law_pool ["script"]
  d_law_spread : Dfd K mg "_law_spread" s_law_spread ["cell"]
  d_law_draw : Dfd K mg "_law_draw" s_law_draw ["pool", "many"]
  d_law_same : Dfd K mg "_law_same" s_law_same ["actual", "due"]
  d_law_bits : Dfd K mg "_law_bits" s_law_bits ["index", "many"]
  d_law_table : Dfd K mg "_law_table" s_law_table ["pool", "many"]
  d_law_register : Dfd K mg "_law_register" s_law_register ["pool", "name", "net"]
  d_law_shuffled : Dfd K mg "_law_shuffled" s_law_shuffled ["pool", "rows"]
  d_law_circuit : Dfd K mg "_law_circuit" s_law_circuit ["pool", "most"]
  d_law_refused : Dfd K mg "_law_refused" s_law_refused ["circuits"]
  d_law_ranged : Dfd K mg "_law_ranged" s_law_ranged ["pool", "circuit", "wide"]
  d_law_inside : Dfd K mg "_law_inside" s_law_inside ["circuit", "other"]
  d_law_other : Dfd K mg "_law_other" s_law_other ["pool", "circuit"]
  z_tuple : mg "tuple" = none
  z_zip : mg "zip" = none
  z_len : mg "len" = none
  z_min : mg "min" = none
  z_max : mg "max" = none
  z_int : mg "int" = none
  z_list : mg "list" = none
  z_range : mg "range" = none
  z_isinstance : mg "isinstance" = none
  z_bool : mg "bool" = none
  z_str : mg "str" = none
  z_all : mg "all" = none
  z_ValueError : mg "ValueError" = none
  e_BadArgument : ∃ C : Addr, ExcH K mg "BadArgument" C
end G
namespace G
open PySem PySem.Spec PyProof.Rows L2
theorem glue {P : Program} {w : World} {K : PySem.W.Frag} {mg : Str → Option Value} {base : Heap} (A : All K mg) {f : Addr} {fd : FuncData} (F : Fun K "law" "law" s_law f fd) : FnOk P w K mg base CX0 7 f fd ["script"] (spLaw K) := by
  have TL : TxtL mg := ⟨A.z_int, A.z_len, A.z_list, A.z_range⟩
  have TS : TxtS mg := ⟨A.z_isinstance, A.z_tuple, A.z_list, A.z_len, A.z_range, A.z_bool, A.z_int, A.z_str⟩
  have TA : TxtA mg := ⟨A.z_zip, A.z_tuple⟩
  have TJ : TxtJ mg := ⟨A.z_zip, A.z_min, A.z_max⟩
  have T3 : TxtM3 mg := ⟨A.z_max, A.z_tuple, A.z_len, A.z_range⟩
  obtain ⟨C, U⟩ := A.e_BadArgument
  have hd := drawX (P := P) (w := w) (base := base) (ok_law_draw A.d_law_draw TL (ok_law_spread A.d_law_spread TL))
  have hb := ok_law_bits (P := P) (w := w) (base := base) A.d_law_bits TS
  have hal := ok_alike (P := P) (w := w) (base := base) A.d_alike (ok_without_ranges A.d_without_ranges)
  have hm := ok_merged (P := P) (w := w) (base := base) A.d_merged U.u TJ A.z_len hal (ok_with_ranges A.d_with_ranges TA) (ok_joined_ranges A.d_joined_ranges TJ)
  exact fn_law F ⟨A.z_range, A.z_len, A.z_min, A.z_max, A.z_tuple, A.z_list, A.z_all⟩ (ok_law_pool A.d_law_pool TL) hd (ok_law_circuit A.d_law_circuit TS hd (ok_law_table A.d_law_table TS hd hb) (ok_law_register A.d_law_register hd) (ok_law_shuffled A.d_law_shuffled TS hd))
    (ok_law_ranged A.d_law_ranged T3 hd) hm (ok_within A.d_within TA hal) (ok_law_same A.d_law_same TS 6) (ok_law_inside A.d_law_inside T3) (ok_law_other A.d_law_other T3 hd) (ok_law_refused A.d_law_refused U hm)
end G
namespace G
open PySem PySem.Spec PyProof.Rows L2
theorem all_mk {l : PySem.W.OpenLaw} {w : World} {K : PySem.W.Frag} {h : Heap} {mg : Str → Option Value} {fa f0 f1 f2 f3 f4 f5 f6 f7 f8 f9 f10 f11 f12 f13 f14 f15 f16 f17 f18 f19 : Addr} (X : K.In h) (G : h.Ns mainGlobals mg) (hfa : mg "law" = some (.ref fa))
    {od0 an0 od1 an1 od2 an2 od3 an3 od4 an4 od5 an5 od6 an6 od7 an7 od8 an8 od9 an9 od10 an10 od11 an11 od12 an12 od13 an13 od14 an14 od15 an15 od16 an16 od17 an17 od18 an18 od19 an19 : Option Addr} {sl0 sl1 sl2 sl3 sl4 sl5 sl6 sl7 sl8 sl9 sl10 sl11 sl12 sl13 sl14 sl15 sl16 sl17 sl18 sl19 : Array (Option Value)} {oc0 kv0 dc0 pm0 cd0 ct0 oc1 kv1 dc1 pm1 cd1 ct1 oc2 kv2 dc2 pm2 cd2 ct2 oc3 kv3 dc3 pm3 cd3 ct3 oc4 kv4 dc4 pm4 cd4 ct4 oc5 kv5 dc5 pm5 cd5 ct5 oc6 kv6 dc6 pm6 cd6 ct6 oc7 kv7 dc7 pm7 cd7 ct7 oc8 kv8 dc8 pm8 cd8 ct8 oc9 kv9 dc9 pm9 cd9 ct9 oc10 kv10 dc10 pm10 cd10 ct10 oc11 kv11 dc11 pm11 cd11 ct11 oc12 kv12 dc12 pm12 cd12 ct12 oc13 kv13 dc13 pm13 cd13 ct13 oc14 kv14 dc14 pm14 cd14 ct14 oc15 kv15 dc15 pm15 cd15 ct15 oc16 kv16 dc16 pm16 cd16 ct16 oc17 kv17 dc17 pm17 cd17 ct17 oc18 kv18 dc18 pm18 cd18 ct18 oc19 kv19 dc19 pm19 cd19 ct19 : Value}
    (a0 : PySem.W.nsIn K mainGlobals "with_ranges" = some (some (.ref f0))) (l0 : K.lookup f0 = some ⟨oc0, od0, .func (PySem.W.fnOf "with_ranges" "with_ranges" (defArgs s_with_ranges) (defBody s_with_ranges) (defScope s_with_ranges) .none kv0 dc0 pm0 an0 cd0 ct0), sl0⟩) (c0 : PySem.W.codeIn K cd0 "with_ranges" = true) (k0 : PySem.W.keepIn K (.ref f0) = true)
    (a1 : PySem.W.nsIn K mainGlobals "merged" = some (some (.ref f1))) (l1 : K.lookup f1 = some ⟨oc1, od1, .func (PySem.W.fnOf "merged" "merged" (defArgs s_merged) (defBody s_merged) (defScope s_merged) .none kv1 dc1 pm1 an1 cd1 ct1), sl1⟩) (c1 : PySem.W.codeIn K cd1 "merged" = true) (k1 : PySem.W.keepIn K (.ref f1) = true)
    (a2 : PySem.W.nsIn K mainGlobals "within" = some (some (.ref f2))) (l2 : K.lookup f2 = some ⟨oc2, od2, .func (PySem.W.fnOf "within" "within" (defArgs s_within) (defBody s_within) (defScope s_within) .none kv2 dc2 pm2 an2 cd2 ct2), sl2⟩) (c2 : PySem.W.codeIn K cd2 "within" = true) (k2 : PySem.W.keepIn K (.ref f2) = true)
    (a3 : PySem.W.nsIn K mainGlobals "_joined_ranges" = some (some (.ref f3))) (l3 : K.lookup f3 = some ⟨oc3, od3, .func (PySem.W.fnOf "_joined_ranges" "_joined_ranges" (defArgs s_joined_ranges) (defBody s_joined_ranges) (defScope s_joined_ranges) .none kv3 dc3 pm3 an3 cd3 ct3), sl3⟩) (c3 : PySem.W.codeIn K cd3 "_joined_ranges" = true) (k3 : PySem.W.keepIn K (.ref f3) = true)
    (a4 : PySem.W.nsIn K mainGlobals "_alike" = some (some (.ref f4))) (l4 : K.lookup f4 = some ⟨oc4, od4, .func (PySem.W.fnOf "_alike" "_alike" (defArgs s_alike) (defBody s_alike) (defScope s_alike) .none kv4 dc4 pm4 an4 cd4 ct4), sl4⟩) (c4 : PySem.W.codeIn K cd4 "_alike" = true) (k4 : PySem.W.keepIn K (.ref f4) = true)
    (a5 : PySem.W.nsIn K mainGlobals "_without_ranges" = some (some (.ref f5))) (l5 : K.lookup f5 = some ⟨oc5, od5, .func (PySem.W.fnOf "_without_ranges" "_without_ranges" (defArgs s_without_ranges) (defBody s_without_ranges) (defScope s_without_ranges) .none kv5 dc5 pm5 an5 cd5 ct5), sl5⟩) (c5 : PySem.W.codeIn K cd5 "_without_ranges" = true) (k5 : PySem.W.keepIn K (.ref f5) = true)
    (a6 : PySem.W.nsIn K mainGlobals "_law_pool" = some (some (.ref f6))) (l6 : K.lookup f6 = some ⟨oc6, od6, .func (PySem.W.fnOf "_law_pool" "_law_pool" (defArgs s_law_pool) (defBody s_law_pool) (defScope s_law_pool) .none kv6 dc6 pm6 an6 cd6 ct6), sl6⟩) (c6 : PySem.W.codeIn K cd6 "_law_pool" = true) (k6 : PySem.W.keepIn K (.ref f6) = true)
    (a7 : PySem.W.nsIn K mainGlobals "_law_spread" = some (some (.ref f7))) (l7 : K.lookup f7 = some ⟨oc7, od7, .func (PySem.W.fnOf "_law_spread" "_law_spread" (defArgs s_law_spread) (defBody s_law_spread) (defScope s_law_spread) .none kv7 dc7 pm7 an7 cd7 ct7), sl7⟩) (c7 : PySem.W.codeIn K cd7 "_law_spread" = true) (k7 : PySem.W.keepIn K (.ref f7) = true)
    (a8 : PySem.W.nsIn K mainGlobals "_law_draw" = some (some (.ref f8))) (l8 : K.lookup f8 = some ⟨oc8, od8, .func (PySem.W.fnOf "_law_draw" "_law_draw" (defArgs s_law_draw) (defBody s_law_draw) (defScope s_law_draw) .none kv8 dc8 pm8 an8 cd8 ct8), sl8⟩) (c8 : PySem.W.codeIn K cd8 "_law_draw" = true) (k8 : PySem.W.keepIn K (.ref f8) = true)
    (a9 : PySem.W.nsIn K mainGlobals "_law_same" = some (some (.ref f9))) (l9 : K.lookup f9 = some ⟨oc9, od9, .func (PySem.W.fnOf "_law_same" "_law_same" (defArgs s_law_same) (defBody s_law_same) (defScope s_law_same) .none kv9 dc9 pm9 an9 cd9 ct9), sl9⟩) (c9 : PySem.W.codeIn K cd9 "_law_same" = true) (k9 : PySem.W.keepIn K (.ref f9) = true)
    (a10 : PySem.W.nsIn K mainGlobals "_law_bits" = some (some (.ref f10))) (l10 : K.lookup f10 = some ⟨oc10, od10, .func (PySem.W.fnOf "_law_bits" "_law_bits" (defArgs s_law_bits) (defBody s_law_bits) (defScope s_law_bits) .none kv10 dc10 pm10 an10 cd10 ct10), sl10⟩) (c10 : PySem.W.codeIn K cd10 "_law_bits" = true) (k10 : PySem.W.keepIn K (.ref f10) = true)
    (a11 : PySem.W.nsIn K mainGlobals "_law_table" = some (some (.ref f11))) (l11 : K.lookup f11 = some ⟨oc11, od11, .func (PySem.W.fnOf "_law_table" "_law_table" (defArgs s_law_table) (defBody s_law_table) (defScope s_law_table) .none kv11 dc11 pm11 an11 cd11 ct11), sl11⟩) (c11 : PySem.W.codeIn K cd11 "_law_table" = true) (k11 : PySem.W.keepIn K (.ref f11) = true)
    (a12 : PySem.W.nsIn K mainGlobals "_law_register" = some (some (.ref f12))) (l12 : K.lookup f12 = some ⟨oc12, od12, .func (PySem.W.fnOf "_law_register" "_law_register" (defArgs s_law_register) (defBody s_law_register) (defScope s_law_register) .none kv12 dc12 pm12 an12 cd12 ct12), sl12⟩) (c12 : PySem.W.codeIn K cd12 "_law_register" = true) (k12 : PySem.W.keepIn K (.ref f12) = true)
    (a13 : PySem.W.nsIn K mainGlobals "_law_shuffled" = some (some (.ref f13))) (l13 : K.lookup f13 = some ⟨oc13, od13, .func (PySem.W.fnOf "_law_shuffled" "_law_shuffled" (defArgs s_law_shuffled) (defBody s_law_shuffled) (defScope s_law_shuffled) .none kv13 dc13 pm13 an13 cd13 ct13), sl13⟩) (c13 : PySem.W.codeIn K cd13 "_law_shuffled" = true) (k13 : PySem.W.keepIn K (.ref f13) = true)
    (a14 : PySem.W.nsIn K mainGlobals "_law_circuit" = some (some (.ref f14))) (l14 : K.lookup f14 = some ⟨oc14, od14, .func (PySem.W.fnOf "_law_circuit" "_law_circuit" (defArgs s_law_circuit) (defBody s_law_circuit) (defScope s_law_circuit) .none kv14 dc14 pm14 an14 cd14 ct14), sl14⟩) (c14 : PySem.W.codeIn K cd14 "_law_circuit" = true) (k14 : PySem.W.keepIn K (.ref f14) = true)
    (a15 : PySem.W.nsIn K mainGlobals "_law_refused" = some (some (.ref f15))) (l15 : K.lookup f15 = some ⟨oc15, od15, .func (PySem.W.fnOf "_law_refused" "_law_refused" (defArgs s_law_refused) (defBody s_law_refused) (defScope s_law_refused) .none kv15 dc15 pm15 an15 cd15 ct15), sl15⟩) (c15 : PySem.W.codeIn K cd15 "_law_refused" = true) (k15 : PySem.W.keepIn K (.ref f15) = true)
    (a16 : PySem.W.nsIn K mainGlobals "_law_ranged" = some (some (.ref f16))) (l16 : K.lookup f16 = some ⟨oc16, od16, .func (PySem.W.fnOf "_law_ranged" "_law_ranged" (defArgs s_law_ranged) (defBody s_law_ranged) (defScope s_law_ranged) .none kv16 dc16 pm16 an16 cd16 ct16), sl16⟩) (c16 : PySem.W.codeIn K cd16 "_law_ranged" = true) (k16 : PySem.W.keepIn K (.ref f16) = true)
    (a17 : PySem.W.nsIn K mainGlobals "_law_inside" = some (some (.ref f17))) (l17 : K.lookup f17 = some ⟨oc17, od17, .func (PySem.W.fnOf "_law_inside" "_law_inside" (defArgs s_law_inside) (defBody s_law_inside) (defScope s_law_inside) .none kv17 dc17 pm17 an17 cd17 ct17), sl17⟩) (c17 : PySem.W.codeIn K cd17 "_law_inside" = true) (k17 : PySem.W.keepIn K (.ref f17) = true)
    (a18 : PySem.W.nsIn K mainGlobals "_law_other" = some (some (.ref f18))) (l18 : K.lookup f18 = some ⟨oc18, od18, .func (PySem.W.fnOf "_law_other" "_law_other" (defArgs s_law_other) (defBody s_law_other) (defScope s_law_other) .none kv18 dc18 pm18 an18 cd18 ct18), sl18⟩) (c18 : PySem.W.codeIn K cd18 "_law_other" = true) (k18 : PySem.W.keepIn K (.ref f18) = true)
    (a19 : PySem.W.nsIn K mainGlobals "law" = some (some (.ref f19))) (l19 : K.lookup f19 = some ⟨oc19, od19, .func (PySem.W.fnOf "law" "law" (defArgs s_law) (defBody s_law) (defScope s_law) .none kv19 dc19 pm19 an19 cd19 ct19), sl19⟩) (c19 : PySem.W.codeIn K cd19 "law" = true) (k19 : PySem.W.keepIn K (.ref f19) = true)
    {xC0 : Addr} (u0_0 : PySem.W.nsIn K mainGlobals "BadArgument" = some (some (.ref xC0))) (u0_1 : PySem.W.excIn K xC0 [.type "ValueError", .type "Exception", .type "BaseException", .type "object"] "ValueError.__new__" = true) (u0_2 : PySem.W.keepIn K (.ref xC0) = true) (u0_3 : PySem.W.subIn K (.ref xC0) (.type "BaseException") = some true) (u0_4 : PySem.W.typeIn K (.ref xC0) = some (.type "type")) (u0_5 : PySem.W.hasDictIn K xC0 = true) (u0_6 : PySem.W.subIn K (.ref xC0) (.ref xC0) = some true)
    (z0 : PySem.W.nsIn K mainGlobals "tuple" = some none) (z1 : PySem.W.nsIn K mainGlobals "zip" = some none) (z2 : PySem.W.nsIn K mainGlobals "len" = some none) (z3 : PySem.W.nsIn K mainGlobals "min" = some none) (z4 : PySem.W.nsIn K mainGlobals "max" = some none) (z5 : PySem.W.nsIn K mainGlobals "int" = some none) (z6 : PySem.W.nsIn K mainGlobals "list" = some none) (z7 : PySem.W.nsIn K mainGlobals "range" = some none) (z8 : PySem.W.nsIn K mainGlobals "isinstance" = some none) (z9 : PySem.W.nsIn K mainGlobals "bool" = some none) (z10 : PySem.W.nsIn K mainGlobals "str" = some none) (z11 : PySem.W.nsIn K mainGlobals "all" = some none) (z12 : PySem.W.nsIn K mainGlobals "ValueError" = some none) :
    ∃ fd : FuncData, (∀ (s : Shared) (v : Value), BindsTo s fd ⟨[v], []⟩ [("script", v)]) ∧ ∀ base : Heap, K.In base → base.Ns mainGlobals mg → FnOk l.prog w K mg base CX0 7 fa fd ["script"] (spLaw K) := by
  have e := hfa.symm.trans (PySem.W.mg_of X G a19)
  cases e
  have F0 := fun_mk (st := s_with_ranges) l0 c0 k0
  have F1 := fun_mk (st := s_merged) l1 c1 k1
  have F2 := fun_mk (st := s_within) l2 c2 k2
  have F3 := fun_mk (st := s_joined_ranges) l3 c3 k3
  have F4 := fun_mk (st := s_alike) l4 c4 k4
  have F5 := fun_mk (st := s_without_ranges) l5 c5 k5
  have F6 := fun_mk (st := s_law_pool) l6 c6 k6
  have F7 := fun_mk (st := s_law_spread) l7 c7 k7
  have F8 := fun_mk (st := s_law_draw) l8 c8 k8
  have F9 := fun_mk (st := s_law_same) l9 c9 k9
  have F10 := fun_mk (st := s_law_bits) l10 c10 k10
  have F11 := fun_mk (st := s_law_table) l11 c11 k11
  have F12 := fun_mk (st := s_law_register) l12 c12 k12
  have F13 := fun_mk (st := s_law_shuffled) l13 c13 k13
  have F14 := fun_mk (st := s_law_circuit) l14 c14 k14
  have F15 := fun_mk (st := s_law_refused) l15 c15 k15
  have F16 := fun_mk (st := s_law_ranged) l16 c16 k16
  have F17 := fun_mk (st := s_law_inside) l17 c17 k17
  have F18 := fun_mk (st := s_law_other) l18 c18 k18
  have F19 := fun_mk (st := s_law) l19 c19 k19
  have A : All K mg := ⟨⟨f0, _, F0, PySem.W.mg_of X G a0, F0.binds (ps := ["circuit", "rows"]) fun _ _ _ _ _ _ us hl => match us, hl with | [_, _], _ => rfl⟩,
    ⟨f1, _, F1, PySem.W.mg_of X G a1, F1.binds (ps := ["circuits"]) fun _ _ _ _ _ _ us hl => match us, hl with | [_], _ => rfl⟩,
    ⟨f2, _, F2, PySem.W.mg_of X G a2, F2.binds (ps := ["circuit", "other"]) fun _ _ _ _ _ _ us hl => match us, hl with | [_, _], _ => rfl⟩,
    ⟨f3, _, F3, PySem.W.mg_of X G a3, F3.binds (ps := ["gates"]) fun _ _ _ _ _ _ us hl => match us, hl with | [_], _ => rfl⟩,
    ⟨f4, _, F4, PySem.W.mg_of X G a4, F4.binds (ps := ["circuit", "other"]) fun _ _ _ _ _ _ us hl => match us, hl with | [_, _], _ => rfl⟩,
    ⟨f5, _, F5, PySem.W.mg_of X G a5, F5.binds (ps := ["circuit"]) fun _ _ _ _ _ _ us hl => match us, hl with | [_], _ => rfl⟩,
    ⟨f6, _, F6, PySem.W.mg_of X G a6, F6.binds (ps := ["script"]) fun _ _ _ _ _ _ us hl => match us, hl with | [_], _ => rfl⟩,
    ⟨f7, _, F7, PySem.W.mg_of X G a7, F7.binds (ps := ["cell"]) fun _ _ _ _ _ _ us hl => match us, hl with | [_], _ => rfl⟩,
    ⟨f8, _, F8, PySem.W.mg_of X G a8, F8.binds (ps := ["pool", "many"]) fun _ _ _ _ _ _ us hl => match us, hl with | [_, _], _ => rfl⟩,
    ⟨f9, _, F9, PySem.W.mg_of X G a9, F9.binds (ps := ["actual", "due"]) fun _ _ _ _ _ _ us hl => match us, hl with | [_, _], _ => rfl⟩,
    ⟨f10, _, F10, PySem.W.mg_of X G a10, F10.binds (ps := ["index", "many"]) fun _ _ _ _ _ _ us hl => match us, hl with | [_, _], _ => rfl⟩,
    ⟨f11, _, F11, PySem.W.mg_of X G a11, F11.binds (ps := ["pool", "many"]) fun _ _ _ _ _ _ us hl => match us, hl with | [_, _], _ => rfl⟩,
    ⟨f12, _, F12, PySem.W.mg_of X G a12, F12.binds (ps := ["pool", "name", "net"]) fun _ _ _ _ _ _ us hl => match us, hl with | [_, _, _], _ => rfl⟩,
    ⟨f13, _, F13, PySem.W.mg_of X G a13, F13.binds (ps := ["pool", "rows"]) fun _ _ _ _ _ _ us hl => match us, hl with | [_, _], _ => rfl⟩,
    ⟨f14, _, F14, PySem.W.mg_of X G a14, F14.binds (ps := ["pool", "most"]) fun _ _ _ _ _ _ us hl => match us, hl with | [_, _], _ => rfl⟩,
    ⟨f15, _, F15, PySem.W.mg_of X G a15, F15.binds (ps := ["circuits"]) fun _ _ _ _ _ _ us hl => match us, hl with | [_], _ => rfl⟩,
    ⟨f16, _, F16, PySem.W.mg_of X G a16, F16.binds (ps := ["pool", "circuit", "wide"]) fun _ _ _ _ _ _ us hl => match us, hl with | [_, _, _], _ => rfl⟩,
    ⟨f17, _, F17, PySem.W.mg_of X G a17, F17.binds (ps := ["circuit", "other"]) fun _ _ _ _ _ _ us hl => match us, hl with | [_, _], _ => rfl⟩,
    ⟨f18, _, F18, PySem.W.mg_of X G a18, F18.binds (ps := ["pool", "circuit"]) fun _ _ _ _ _ _ us hl => match us, hl with | [_, _], _ => rfl⟩,
    PySem.W.mg_none_of X G z0,
    PySem.W.mg_none_of X G z1,
    PySem.W.mg_none_of X G z2,
    PySem.W.mg_none_of X G z3,
    PySem.W.mg_none_of X G z4,
    PySem.W.mg_none_of X G z5,
    PySem.W.mg_none_of X G z6,
    PySem.W.mg_none_of X G z7,
    PySem.W.mg_none_of X G z8,
    PySem.W.mg_none_of X G z9,
    PySem.W.mg_none_of X G z10,
    PySem.W.mg_none_of X G z11,
    PySem.W.mg_none_of X G z12,
    ⟨xC0, ⟨⟨PySem.W.mg_of X G u0_0, u0_1, u0_2, u0_3, u0_4⟩, u0_5, u0_6⟩⟩⟩
  exact ⟨_, fun s v => .of_eq rfl, fun base _ _ => glue A F19⟩
end G
open PySem PySem.W PyProof.Rows
set_option maxRecDepth 100000 in
set_option maxHeartbeats 0 in
theorem PySem.Challenge.cw_signoff_k32_merged_circuits_holds : PySem.Challenge.rw_signoff_k32_merged_circuits.Holds := by
  w_on; o_law; k_head; (case hw => w_witness2)
  k_fill
  refine L2.walk_of (l := PySem.Challenge.rw_signoff_k32_merged_circuits) (n := 63) (k := 7) (x := "script") (CX := fun _ => L2.CX0) (sp := fun w => G.spLaw _) rfl (by decide) rfl ⟨rfl, by decide, by decide⟩ (fun w h Y => PySem.W.kIn_of Y) ?F (fun _ _ a ns hl _ hS => ⟨a, ns, rfl, hS, hl, fun _ => rfl⟩) (fun _ _ _ _ _ h => h)
  case F =>
    intro w mg fa h KX GN hmg
    refine' G.all_mk KX GN hmg ?a0 ?l0 ?c0 ?k0 ?a1 ?l1 ?c1 ?k1 ?a2 ?l2 ?c2 ?k2 ?a3 ?l3 ?c3 ?k3 ?a4 ?l4 ?c4 ?k4 ?a5 ?l5 ?c5 ?k5 ?a6 ?l6 ?c6 ?k6 ?a7 ?l7 ?c7 ?k7 ?a8 ?l8 ?c8 ?k8 ?a9 ?l9 ?c9 ?k9 ?a10 ?l10 ?c10 ?k10 ?a11 ?l11 ?c11 ?k11 ?a12 ?l12 ?c12 ?k12 ?a13 ?l13 ?c13 ?k13 ?a14 ?l14 ?c14 ?k14 ?a15 ?l15 ?c15 ?k15 ?a16 ?l16 ?c16 ?k16 ?a17 ?l17 ?c17 ?k17 ?a18 ?l18 ?c18 ?k18 ?a19 ?l19 ?c19 ?k19 ?xu0_0 ?xu0_1 ?xu0_2 ?xu0_3 ?xu0_4 ?xu0_5 ?xu0_6 ?z0 ?z1 ?z2 ?z3 ?z4 ?z5 ?z6 ?z7 ?z8 ?z9 ?z10 ?z11 ?z12
    (case a0 => k_is)
    (case l0 => k_is)
    (case c0 => k_is)
    (case k0 => k_is)
    (case a1 => k_is)
    (case l1 => k_is)
    (case c1 => k_is)
    (case k1 => k_is)
    (case a2 => k_is)
    (case l2 => k_is)
    (case c2 => k_is)
    (case k2 => k_is)
    (case a3 => k_is)
    (case l3 => k_is)
    (case c3 => k_is)
    (case k3 => k_is)
    (case a4 => k_is)
    (case l4 => k_is)
    (case c4 => k_is)
    (case k4 => k_is)
    (case a5 => k_is)
    (case l5 => k_is)
    (case c5 => k_is)
    (case k5 => k_is)
    (case a6 => k_is)
    (case l6 => k_is)
    (case c6 => k_is)
    (case k6 => k_is)
    (case a7 => k_is)
    (case l7 => k_is)
    (case c7 => k_is)
    (case k7 => k_is)
    (case a8 => k_is)
    (case l8 => k_is)
    (case c8 => k_is)
    (case k8 => k_is)
    (case a9 => k_is)
    (case l9 => k_is)
    (case c9 => k_is)
    (case k9 => k_is)
    (case a10 => k_is)
    (case l10 => k_is)
    (case c10 => k_is)
    (case k10 => k_is)
    (case a11 => k_is)
    (case l11 => k_is)
    (case c11 => k_is)
    (case k11 => k_is)
    (case a12 => k_is)
    (case l12 => k_is)
    (case c12 => k_is)
    (case k12 => k_is)
    (case a13 => k_is)
    (case l13 => k_is)
    (case c13 => k_is)
    (case k13 => k_is)
    (case a14 => k_is)
    (case l14 => k_is)
    (case c14 => k_is)
    (case k14 => k_is)
    (case a15 => k_is)
    (case l15 => k_is)
    (case c15 => k_is)
    (case k15 => k_is)
    (case a16 => k_is)
    (case l16 => k_is)
    (case c16 => k_is)
    (case k16 => k_is)
    (case a17 => k_is)
    (case l17 => k_is)
    (case c17 => k_is)
    (case k17 => k_is)
    (case a18 => k_is)
    (case l18 => k_is)
    (case c18 => k_is)
    (case k18 => k_is)
    (case a19 => k_is)
    (case l19 => k_is)
    (case c19 => k_is)
    (case k19 => k_is)
    (case xu0_0 => first | k_exc | k_is | rfl)
    (case xu0_1 => first | k_exc | k_is | rfl)
    (case xu0_2 => first | k_exc | k_is | rfl)
    (case xu0_3 => first | k_exc | k_is | rfl)
    (case xu0_4 => first | k_exc | k_is | rfl)
    (case xu0_5 => first | k_exc | k_is | rfl)
    (case xu0_6 => first | k_exc | k_is | rfl)
    (case z0 => k_is)
    (case z1 => k_is)
    (case z2 => k_is)
    (case z3 => k_is)
    (case z4 => k_is)
    (case z5 => k_is)
    (case z6 => k_is)
    (case z7 => k_is)
    (case z8 => k_is)
    (case z9 => k_is)
    (case z10 => k_is)
    (case z11 => k_is)
    (case z12 => k_is)
#print axioms PySem.Challenge.cw_signoff_k32_merged_circuits_holds
