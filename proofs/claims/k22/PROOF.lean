import PyProof.Rows.All
import Wide.All
import OpenK.AllK
import Wide.FinOn
import HandS.ForMost
import HandS.Evl
import HandS.Wide
import HandS.WideBits
import HandS.Flow
import HandS.IsInst
import HandS.TupAny
import HandS.Walk
import HandS.Zip
import HandS.Steps
import KE.GoesMore
import KE.GoesEnum
import KE.KEqSeq
import HandS.StrMore
import PyProof.StrLawsFirst
import HandS.DictComp
import HandS.ForExc
import HandS.Small
import HandS.FStr
import HandS.SetKeys
import HandS.Strs
import HandS.ExcIs
import PySem.Challenge.RW_signoff_k22_readers_and_cones
set_option Elab.async false
set_option linter.all false
set_option maxRecDepth 100000
set_option maxHeartbeats 4000000
set_option Elab.async false
set_option linter.all false
set_option maxRecDepth 100000
set_option maxHeartbeats 4000000
namespace G
open PySem PySem.Spec PyProof.Rows L2 Evl
/-! ## defs by name -/
def Dfd (K : PySem.W.Frag) (mg : Str → Option Value) (x : Str) (st : Stmt) (ps : List Str) : Prop := ∃ (f : Addr) (fd : FuncData), Fun K x x st f fd ∧ mg x = some (.ref f) ∧ Binds K fd ps []
def Has (P : Program) (w : World) (K : PySem.W.Frag) (mg : Str → Option Value) (base : Heap) (k : Nat) (x : Str) (ps : List Str) (sp : Sp) : Prop :=
  ∃ (f : Addr) (fd : FuncData), FnOk P w K mg base CX0 k f fd ps sp ∧ mg x = some (.ref f) ∧ PySem.W.keepIn K (.ref f) = true ∧ Binds K fd ps []
section
variable {P : Program} {w : World} {K : PySem.W.Frag} {mg : Str → Option Value} {base : Heap}
theorem Dfd.has {x : Str} {st : Stmt} {ps : List Str} {k : Nat} {sp : Sp} (d : Dfd K mg x st ps) (h : ∀ f fd, Fun K x x st f fd → FnOk P w K mg base CX0 k f fd ps sp) : Has P w K mg base k x ps sp := by
  obtain ⟨f, fd, F, g, b⟩ := d
  exact ⟨f, fd, h f fd F, g, F.kp, b⟩
theorem Has.mono {x : Str} {ps : List Str} {j k : Nat} {sp : Sp} (h : Has P w K mg base j x ps sp) (l : j ≤ k) : Has P w K mg base k x ps sp := by
  obtain ⟨f, fd, F, g⟩ := h
  exact ⟨f, fd, F.mono l, g⟩
theorem Has.imp {x : Str} {ps : List Str} {k : Nat} {sp sp' : Sp} (h : Has P w K mg base k x ps sp) (i : ∀ vs H Q E, sp' vs H Q E → sp vs H Q E) : Has P w K mg base k x ps sp' := by
  obtain ⟨f, fd, F, g⟩ := h
  exact ⟨f, fd, F.imp i, g⟩
end
/-! ## heaps -/
theorem sq_ex {K : PySem.W.Frag} {H H' : Hp} {a : Addr} {xs : List V} (e : Ex H H') (h : SqL K H a xs) : SqL K H' a xs := ex_l e h
/-- the heap without what stands at p -/
def hid (p : Addr) (H : Hp) : Hp := fun b => if b = p then none else H b
theorem hid_self {p : Addr} {H : Hp} : hid p H p = none := by unfold hid; rw [if_pos rfl]
theorem hid_ne {p b : Addr} {H : Hp} (h : b ≠ p) : hid p H b = H b := by unfold hid; rw [if_neg h]
theorem hid_get {p b : Addr} {H : Hp} {o : HO} (h : hid p H b = some o) : H b = some o := by
  by_cases e : b = p
  · subst e; rw [hid_self] at h; cases h
  · rw [hid_ne e] at h; exact h
theorem hid_neq {p b : Addr} {H : Hp} {o : HO} (h : hid p H b = some o) : b ≠ p := by
  intro e; subst e; rw [hid_self] at h; cases h
theorem hid_ex {p : Addr} {H : Hp} : Ex (hid p H) H := fun _ _ h => hid_get h
theorem hid_upd {p : Addr} {H : Hp} {o : HO} : hid p (upd H p o) = hid p H := by
  funext b
  by_cases e : b = p
  · subst e; rw [hid_self, hid_self]
  · rw [hid_ne e, hid_ne e, upd_ne e]
theorem hid_upd_ne {p q : Addr} {H : Hp} {o : HO} (h : q ≠ p) : hid p (upd H q o) = upd (hid p H) q o := by
  funext b
  by_cases e2 : b = q
  · subst e2; rw [hid_ne h, upd_same, upd_same]
  · rw [upd_ne e2]
    by_cases e : b = p
    · subst e; rw [hid_self, hid_self]
    · rw [hid_ne e, hid_ne e, upd_ne e2]
theorem hid_none {p b : Addr} {H : Hp} (h : H b = none) : hid p H b = none := by
  unfold hid; split
  · rfl
  · exact h
/-! ## the pool of draws: the list at p, the script's copy at a -/
def PoolOk (p a : Addr) (H : Hp) : Prop := ∃ (ns : List Int) (i : Nat) (c k s : Int), H p = some (.lst [.ref a, .int i, .int c, .int k, .int s]) ∧ hid p H a = some (.lst (ns.map V.int)) ∧ ns.length ≤ 1000
/-- from H to H' all but the pool is kept, and the pool is a pool -/
structure Px (p a : Addr) (H H' : Hp) : Prop where
  was : PoolOk p a H
  pool : PoolOk p a H'
  ex : Ex (hid p H) (hid p H')
section
variable {p a : Addr} {H H1 H2 H' : Hp}
theorem Px.refl (h : PoolOk p a H) : Px p a H H := ⟨h, h, Ex.refl _⟩
theorem Px.trans (x : Px p a H H1) (y : Px p a H1 H2) : Px p a H H2 := ⟨x.was, y.pool, x.ex.trans y.ex⟩
theorem PoolOk.ne {b : Addr} (h : PoolOk p a H) (n : H b = none) : b ≠ p := by
  obtain ⟨_, _, _, _, _, e, _⟩ := h
  exact (ne_of_none e n).symm
theorem PoolOk.ne2 {b : Addr} (h : PoolOk p a H) (n : H b = none) : a ≠ b := by
  obtain ⟨_, _, _, _, _, _, e, _⟩ := h
  exact ne_of_none (hid_get e) n
theorem PoolOk.kept (h : PoolOk p a H) (e : Ex H H') : PoolOk p a H' := by
  obtain ⟨ns, i, c, k, s, h1, h2, h3⟩ := h
  exact ⟨ns, i, c, k, s, e _ _ h1, by rw [hid_ne (hid_neq h2)]; exact e _ _ (hid_get h2), h3⟩
theorem Px.ofEx (h : PoolOk p a H) (e : Ex H H') : Px p a H H' := ⟨h, h.kept e, fun b o hb => by rw [hid_ne (hid_neq hb)]; exact e _ _ (hid_get hb)⟩
theorem Px.more (x : Px p a H H1) (e : Ex H1 H2) : Px p a H H2 := x.trans (Px.ofEx x.pool e)
theorem Px.draw {o : HO} (w : PoolOk p a H) (h : PoolOk p a (upd H p o)) : Px p a H (upd H p o) := ⟨w, h, by rw [hid_upd]; exact Ex.refl _⟩
theorem Px.new (x : Px p a H H1) {l : Addr} {o : HO} (n : H1 l = none) : Px p a H (upd H1 l o) := x.more (Ex.new n)
/-- what H has is kept -/
theorem Px.get (x : Px p a H H1) {b : Addr} {o : HO} (h : hid p H b = some o) : hid p H1 b = some o := x.ex _ _ h
theorem Px.at_ (x : Px p a H H1) {b : Addr} {o : HO} (h : hid p H b = some o) : H1 b = some o := hid_get (x.ex _ _ h)
theorem Px.free (x : Px p a H H1) {b : Addr} (n : H1 b = none) : H b = none := by
  cases e : H b with
  | none => rfl
  | some o =>
    have hb : b ≠ p := x.pool.ne n
    have := x.ex b o (by rw [hid_ne hb]; exact e)
    rw [hid_get this] at n; cases n
/-- an object that H does not have may change -/
theorem Px.mut (x : Px p a H H1) {l : Addr} {o : HO} (n : H l = none) : Px p a H (upd H1 l o) := by
  have hl : l ≠ p := x.was.ne n
  have ha : a ≠ l := x.was.ne2 n
  refine ⟨x.was, ?_, ?_⟩
  · obtain ⟨ns, i, c, k, s, h1, h2, h3⟩ := x.pool
    exact ⟨ns, i, c, k, s, by rw [upd_ne hl.symm]; exact h1, by rw [hid_upd_ne hl, upd_ne ha]; exact h2, h3⟩
  · rw [hid_upd_ne hl]; exact Ex.mut x.ex (hid_none n)
/-- a fresh object stands apart from the pool -/
theorem Px.seen (x : Px p a H H1) {l : Addr} {o : HO} (n : H l = none) (e : H1 l = some o) : hid p H1 l = some o := by
  rw [hid_ne (x.was.ne n)]; exact e
end
end G
namespace G
open PySem PySem.Spec PyProof.Rows L2 Evl
/-! ## comprehensions whose elements are plain values -/
theorem given_all {n : Nat} {v : Nat → V} : given n (fun _ => true) v = (List.range n).map v := by
  unfold given
  rw [List.filter_eq_self.mpr (fun _ _ => rfl)]
section
variable {lo : Int} {n j : Nat} {tt : TT} {te : TE} {vs : List Nat} {σ : L2.St} {H1 : Hp} {D : Addr} {Qd : Hp → Prop} {K : PySem.W.Frag} {a : Addr} {xs : List V}
theorem lc_turn {f : Nat → Bool} {v : Nat → V} {i : Nat} {H : Hp} {σ2 : L2.St} (e : H = upd H1 D (.lst (given i f v))) (hi : i < 100000) (ht : Ans tt σ2 H (f i)) (he : f i = true → Val te σ2 H (v i)) :
    tt σ2 H fun b H3 => if b = true then te σ2 H3 fun y H4 => ∃ acc, H4 D = some (.lst acc) ∧ acc.length < sizeLine ∧ (upd H4 D (.lst (acc ++ [y]))) = upd H1 D (.lst (given (i + 1) f v)) else H3 = upd H1 D (.lst (given (i + 1) f v)) := by
  refine ht _ ?_
  subst e
  cases hf : f i with
  | true =>
    refine iteT (he hf _ ⟨_, upd_same, sz_lt (by have := given_len i f v; omega), ?_⟩)
    rw [given_yes hf, upd_upd]
  | false =>
    refine iteF ?_
    rw [given_no hf]
theorem lcR (f : Nat → Bool) (v : Nat → V) (hn : n ≤ 100000) (hw : ∀ x, wipe ((wipe σ vs).set j (some x)) vs = wipe σ vs)
    (ht : ∀ (i : Nat) (H : Hp), i < n → H = upd H1 D (.lst (given i f v)) → Ans tt ((wipe σ vs).set j (some (.int (lo + i)))) H (f i))
    (he : ∀ (i : Nat) (H : Hp), i < n → H = upd H1 D (.lst (given i f v)) → f i = true → Val te ((wipe σ vs).set j (some (.int (lo + i)))) H (v i)) (q : Qd (upd H1 D (.lst (given n f v)))) :
    ∃ W : Nat → Nat → Hp → Prop, (∃ m, W 0 m (upd H1 D (.lst []))) ∧ ∀ i m H, W i m H →
      ((Itr lo n).stop i H ∧ Qd H) ∨ ((Itr lo n).go i H ∧ ∃ Nx : Hp → Prop, (∀ H', Nx H' → ∃ m', m' < m ∧ W (i + 1) m' H') ∧ ∀ x H', (Itr lo n).yld i H x H' → gName j x (wipe σ vs) H' fun σ2 H2 => wipe σ2 vs = wipe σ vs ∧ tt σ2 H2 fun b H3 =>
        if b = true then te σ2 H3 fun y H4 => ∃ acc, H4 D = some (.lst acc) ∧ acc.length < sizeLine ∧ Nx (upd H4 D (.lst (acc ++ [y]))) else Nx H3) :=
  lc_range (fun i H => H = upd H1 D (.lst (given i f v))) rfl (fun i H hi e => ⟨hw _, lc_turn e (by omega) (ht i H hi e) (he i H hi e)⟩) (fun H e => by rw [e]; exact q)
theorem lcRv (v : Nat → V) (hn : n ≤ 100000) (hw : ∀ x, wipe ((wipe σ vs).set j (some x)) vs = wipe σ vs)
    (he : ∀ (i : Nat) (H : Hp), i < n → H = upd H1 D (.lst (given i (fun _ => true) v)) → Val te ((wipe σ vs).set j (some (.int (lo + i)))) H (v i)) (q : Qd (upd H1 D (.lst ((List.range n).map v)))) :
    ∃ W : Nat → Nat → Hp → Prop, (∃ m, W 0 m (upd H1 D (.lst []))) ∧ ∀ i m H, W i m H →
      ((Itr lo n).stop i H ∧ Qd H) ∨ ((Itr lo n).go i H ∧ ∃ Nx : Hp → Prop, (∀ H', Nx H' → ∃ m', m' < m ∧ W (i + 1) m' H') ∧ ∀ x H', (Itr lo n).yld i H x H' → gName j x (wipe σ vs) H' fun σ2 H2 => wipe σ2 vs = wipe σ vs ∧ tYes σ2 H2 fun b H3 =>
        if b = true then te σ2 H3 fun y H4 => ∃ acc, H4 D = some (.lst acc) ∧ acc.length < sizeLine ∧ Nx (upd H4 D (.lst (acc ++ [y]))) else Nx H3) :=
  lcR (fun _ => true) v hn hw (fun _ _ _ _ => fun _ q => q) (fun i H hi e _ => he i H hi e) (by rw [given_all]; exact q)
theorem lcL (f : Nat → Bool) (v : Nat → V) (hx : SqL K H1 a xs) (hD : H1 D = none) (hn : xs.length ≤ 100000) (hw : ∀ x, wipe ((wipe σ vs).set j (some x)) vs = wipe σ vs)
    (ht : ∀ (i : Nat) (x : V) (H : Hp), xs[i]? = some x → H = upd H1 D (.lst (given i f v)) → Ans tt ((wipe σ vs).set j (some x)) H (f i))
    (he : ∀ (i : Nat) (x : V) (H : Hp), xs[i]? = some x → H = upd H1 D (.lst (given i f v)) → f i = true → Val te ((wipe σ vs).set j (some x)) H (v i)) (q : Qd (upd H1 D (.lst (given xs.length f v)))) :
    ∃ W : Nat → Nat → Hp → Prop, (∃ m, W 0 m (upd H1 D (.lst []))) ∧ ∀ i m H, W i m H →
      ((Itl K a).stop i H ∧ Qd H) ∨ ((Itl K a).go i H ∧ ∃ Nx : Hp → Prop, (∀ H', Nx H' → ∃ m', m' < m ∧ W (i + 1) m' H') ∧ ∀ x H', (Itl K a).yld i H x H' → gName j x (wipe σ vs) H' fun σ2 H2 => wipe σ2 vs = wipe σ vs ∧ tt σ2 H2 fun b H3 =>
        if b = true then te σ2 H3 fun y H4 => ∃ acc, H4 D = some (.lst acc) ∧ acc.length < sizeLine ∧ Nx (upd H4 D (.lst (acc ++ [y]))) else Nx H3) :=
  lc_list (fun i H => H = upd H1 D (.lst (given i f v))) rfl (fun i H hi e => by rw [e]; exact ex_l (Ex.new hD) hx) (fun i x H hi e => ⟨hw _, lc_turn e (by have := (List.getElem?_eq_some_iff.mp hi).1; omega) (ht i x H hi e) (he i x H hi e)⟩) (fun H e => by rw [e]; exact q)
theorem lcT (f : Nat → Bool) (v : Nat → V) (hx : SqT K H1 a xs) (hD : H1 D = none) (hn : xs.length ≤ 100000) (hw : ∀ x, wipe ((wipe σ vs).set j (some x)) vs = wipe σ vs)
    (ht : ∀ (i : Nat) (x : V) (H : Hp), xs[i]? = some x → H = upd H1 D (.lst (given i f v)) → Ans tt ((wipe σ vs).set j (some x)) H (f i))
    (he : ∀ (i : Nat) (x : V) (H : Hp), xs[i]? = some x → H = upd H1 D (.lst (given i f v)) → f i = true → Val te ((wipe σ vs).set j (some x)) H (v i)) (q : Qd (upd H1 D (.lst (given xs.length f v)))) :
    ∃ W : Nat → Nat → Hp → Prop, (∃ m, W 0 m (upd H1 D (.lst []))) ∧ ∀ i m H, W i m H →
      ((Itt K a).stop i H ∧ Qd H) ∨ ((Itt K a).go i H ∧ ∃ Nx : Hp → Prop, (∀ H', Nx H' → ∃ m', m' < m ∧ W (i + 1) m' H') ∧ ∀ x H', (Itt K a).yld i H x H' → gName j x (wipe σ vs) H' fun σ2 H2 => wipe σ2 vs = wipe σ vs ∧ tt σ2 H2 fun b H3 =>
        if b = true then te σ2 H3 fun y H4 => ∃ acc, H4 D = some (.lst acc) ∧ acc.length < sizeLine ∧ Nx (upd H4 D (.lst (acc ++ [y]))) else Nx H3) :=
  lc_tup (fun i H => H = upd H1 D (.lst (given i f v))) rfl (fun i H hi e => by rw [e]; exact ex_t (Ex.new hD) hx) (fun i x H hi e => ⟨hw _, lc_turn e (by have := (List.getElem?_eq_some_iff.mp hi).1; omega) (ht i x H hi e) (he i x H hi e)⟩) (fun H e => by rw [e]; exact q)
theorem lcLm (g : V → V) (hx : SqL K H1 a xs) (hD : H1 D = none) (hn : xs.length ≤ 100000) (hw : ∀ x, wipe ((wipe σ vs).set j (some x)) vs = wipe σ vs)
    (he : ∀ (i : Nat) (x : V) (H : Hp), xs[i]? = some x → H = upd H1 D (.lst ((xs.take i).map g)) → Val te ((wipe σ vs).set j (some x)) H (g x)) (q : Qd (upd H1 D (.lst (xs.map g)))) :
    ∃ W : Nat → Nat → Hp → Prop, (∃ m, W 0 m (upd H1 D (.lst []))) ∧ ∀ i m H, W i m H →
      ((Itl K a).stop i H ∧ Qd H) ∨ ((Itl K a).go i H ∧ ∃ Nx : Hp → Prop, (∀ H', Nx H' → ∃ m', m' < m ∧ W (i + 1) m' H') ∧ ∀ x H', (Itl K a).yld i H x H' → gName j x (wipe σ vs) H' fun σ2 H2 => wipe σ2 vs = wipe σ vs ∧ tYes σ2 H2 fun b H3 =>
        if b = true then te σ2 H3 fun y H4 => ∃ acc, H4 D = some (.lst acc) ∧ acc.length < sizeLine ∧ Nx (upd H4 D (.lst (acc ++ [y]))) else Nx H3) :=
  lc_list (fun i H => H = upd H1 D (.lst ((xs.take i).map g))) (by rw [List.take_zero]; rfl) (fun i H hi e => by rw [e]; exact ex_l (Ex.new hD) hx)
    (fun i x H hi e => ⟨hw _, by
      refine iteT (B := H = upd H1 D (.lst ((xs.take (i + 1)).map g))) ?_
      refine he i x H hi e _ ?_
      subst e
      refine ⟨_, upd_same, sz_lt ?_, ?_⟩
      · rw [List.length_map, List.length_take]; have := (List.getElem?_eq_some_iff.mp hi).1; omega
      · rw [upd_upd, List.take_add_one, hi, List.map_append]; rfl⟩) (fun H e => by rw [e, List.take_length]; exact q)
theorem lcTm (g : V → V) (hx : SqT K H1 a xs) (hD : H1 D = none) (hn : xs.length ≤ 100000) (hw : ∀ x, wipe ((wipe σ vs).set j (some x)) vs = wipe σ vs)
    (he : ∀ (i : Nat) (x : V) (H : Hp), xs[i]? = some x → H = upd H1 D (.lst ((xs.take i).map g)) → Val te ((wipe σ vs).set j (some x)) H (g x)) (q : Qd (upd H1 D (.lst (xs.map g)))) :
    ∃ W : Nat → Nat → Hp → Prop, (∃ m, W 0 m (upd H1 D (.lst []))) ∧ ∀ i m H, W i m H →
      ((Itt K a).stop i H ∧ Qd H) ∨ ((Itt K a).go i H ∧ ∃ Nx : Hp → Prop, (∀ H', Nx H' → ∃ m', m' < m ∧ W (i + 1) m' H') ∧ ∀ x H', (Itt K a).yld i H x H' → gName j x (wipe σ vs) H' fun σ2 H2 => wipe σ2 vs = wipe σ vs ∧ tYes σ2 H2 fun b H3 =>
        if b = true then te σ2 H3 fun y H4 => ∃ acc, H4 D = some (.lst acc) ∧ acc.length < sizeLine ∧ Nx (upd H4 D (.lst (acc ++ [y]))) else Nx H3) :=
  lc_tup (fun i H => H = upd H1 D (.lst ((xs.take i).map g))) (by rw [List.take_zero]; rfl) (fun i H hi e => by rw [e]; exact ex_t (Ex.new hD) hx)
    (fun i x H hi e => ⟨hw _, by
      refine iteT (B := H = upd H1 D (.lst ((xs.take (i + 1)).map g))) ?_
      refine he i x H hi e _ ?_
      subst e
      refine ⟨_, upd_same, sz_lt ?_, ?_⟩
      · rw [List.length_map, List.length_take]; have := (List.getElem?_eq_some_iff.mp hi).1; omega
      · rw [upd_upd, List.take_add_one, hi, List.map_append]; rfl⟩) (fun H e => by rw [e, List.take_length]; exact q)
end
end G
namespace G
open PySem PySem.Spec PyProof.Rows L2 Evl
/-! ## rules within a comprehension's block: the written part by its letter -/
section
variable {X : Cx} {K : PySem.W.Frag}
theorem kIxT (h : X.K = K) : IxR X (rIxT K) := by subst h; exact ix_tup
theorem kIxL (h : X.K = K) : IxR X (rIxL K) := by subst h; exact ix_list
theorem kIx (h : X.K = K) : IxR X (rIx K) := by subst h; exact ix_seq
theorem kIn (h : X.K = K) : OpR X (compareOp .In) (rIn K false) := by subst h; exact op_in_seq
theorem kNotIn (h : X.K = K) : OpR X (compareOp .NotIn) (rIn K true) := by subst h; exact op_notIn_seq
theorem kLen (h : X.K = K) : CallR X (.builtin "len") (rLenS K) := by subst h; exact call_len_seq
theorem gStr {x s : Str} {t : Tok} {pos : Pos} (hg : Gl X x) (h : X.mg x = some (.str s t)) (hd : (x == ("__debug__" : Str)) = false := by decide) : PE X (.Name x pos) (tC (.str s)) := pe_glob (v := .str s) hg h ⟨t, rfl⟩ hd
theorem gInt {x : Str} {i : Int} {t : Tok} {pos : Pos} (hg : Gl X x) (h : X.mg x = some (.int i t)) (hd : (x == ("__debug__" : Str)) = false := by decide) : PE X (.Name x pos) (tC (.int i)) := pe_glob (v := .int i) hg h ⟨t, rfl⟩ hd
theorem gRef {x : Str} {a : Addr} {pos : Pos} (hg : Gl X x) (h : X.mg x = some (.ref a)) (hd : (x == ("__debug__" : Str)) = false := by decide) : PE X (.Name x pos) (tC (.ref a)) := pe_glob (v := .ref a) hg h rfl hd
theorem kSlL (h : X.K = K) : SlR X (rSlL K) := by subst h; exact sl_list
theorem kCatA (h : X.K = K) : OpR X (binaryOp .Add) (rCatA K) := by subst h; exact op_catA
theorem kAny (h : X.K = K) (hc : X.calm = true) : CallR X (.builtin "any") (rAny K) := by subst h; exact cr_any hc
theorem kAll (h : X.K = K) (hc : X.calm = true) : CallR X (.builtin "all") (rAll K) := by subst h; exact cr_all hc
theorem kLtT (h : X.K = K) (hu : X.A.units < cLine) : OpR X (compareOp .Lt) (rLtT K) := by subst h; exact op_ltT hu
theorem kPiT {e tg : Expr} {te : TE} (h : X.K = K) (he : PE X e te) : PI X tg e (iTup K te) := by subst h; exact pi_tup he
theorem kPiL {e tg : Expr} {te : TE} (h : X.K = K) (he : PE X e te) : PI X tg e (iList K te) := by subst h; exact pi_list he
theorem kSlA (h : X.K = K) : SlR X (rSlA K) := by subst h; exact sl_tupA
end
end G
namespace G
open PySem PySem.Spec PyProof.Rows L2 Evl
theorem dpAll_map {α : Type} {K : PySem.W.Frag} {H : Hp} {f : α → V} {g : α → PyData} (h : ∀ x, Dp K H (f x) (g x)) : ∀ l : List α, DpAll K H (l.map f) (l.map g)
  | [] => .nil
  | x :: r => .cons (h x) (dpAll_map h r)
theorem dp_ints {K : PySem.W.Frag} {H : Hp} {a : Addr} {ns : List Int} (h : SqL K H a (ns.map V.int)) : Dp K H (.ref a) (.list (ns.map PyData.int)) := .lst h (dpAll_map (fun i => .int i) ns)
theorem dp_nil {K : PySem.W.Frag} {H : Hp} {a : Addr} (h : SqL K H a []) : Dp K H (.ref a) (.list []) := .lst h .nil
theorem eqv_nil (l : List PyData) : PyData.eqv (.list l) (.list []) = l.isEmpty := by cases l <;> rfl
theorem shaped_nil : SeqAt.shaped (.list []) = true := by decide +kernel
end G
/-! enumerate over a tuple -/
namespace PySem
section
variable {prog : Program} {w : World} {A : Around} {E : Value → Shared → Prop} {s : Shared}
theorem G_tupOf {h : Heap} {a : Addr} {xs : Array Value} (p : PyProof.Rows.IsTup h a xs) : h.IsTuple a xs := p
set_option maxHeartbeats 2000000 in
theorem G_enumNew {v : Value} {o : Obj} {Hh : Heap → Prop} (B : Begins v o Hh) :
    Meets (Builtin.«enumerate.__new__» ⟨[.type "enumerate", v], []⟩) (fun _ R s => Hh s.heap ∧
      R (.ok (.ret (.ref (s.heap.push o).objs.size))) { s with heap := (s.heap.push o).push { cls := .type "enumerate", data := .fields #[.none, .bool false, .ref s.heap.objs.size, rawInt 0, .none, .none] } }) :=
  .of_wp fun pr wo ar rr sh hh => by
    obtain ⟨hp, gg, dd, tk, os⟩ := sh; obtain ⟨h1, h2⟩ := hh
    have sub0 := sub_enumerate
    have qq : ∀ {A' : Around} {E : Value → Shared → Prop} {Q : Value → Shared → Prop}, Q (.ref hp.objs.size) ⟨hp.push o, gg, dd, tk, os⟩ → wpAny (model pr wo) A' (pyIter v) Q E ⟨hp, gg, dd, tk, os⟩ :=
      fun z => B.iter pr wo _ _ ⟨hp, gg, dd, tk, os⟩ _ h1 z
    wp_walk using qq
    refine wpAny_stack_any fun _ => wpAny_pure ?_
    split
    · rename_i cc _ _ _ _ _
      cases (cc == Value.type "enumerate") <;> (wp_walk using qq; exact ⟨_, rfl, h2⟩)
    · wp_walk using qq
      exact ⟨_, rfl, h2⟩
theorem G_enumCall {v : Value} {o : Obj} {Hh : Heap → Prop} {Q : Value → Shared → Prop} (B : Begins v o Hh) (h1 : Hh s.heap)
    (k : ∀ h', IsEnum h' (s.heap.objs.size + 1) s.heap.objs.size 0 .none → h'.get? s.heap.objs.size = some o → (∀ b u, s.heap.get? b = some u → h'.get? b = some u) → Q (.ref (s.heap.objs.size + 1)) { s with heap := h' }) :
    wpAny (model prog w) A (call (.type "enumerate") [v]) Q E s := by
  refine callType_new F.called_enumerate (by decide) (F.typeCall_enumerate_1 _) (F.newCall_enumerate_1 _) (fun y => F.args_object_init_2 y _) F.entry_enumerate_new (G_enumNew B) ⟨h1, ?_⟩
  have hz : (s.heap.push o).objs.size = s.heap.objs.size + 1 := Heap.size_push ..
  show _ ∧ _
  rw [hz]
  have he : IsEnum ((s.heap.push o).push { cls := .type "enumerate", data := .fields #[.none, .bool false, .ref s.heap.objs.size, rawInt 0, .none, .none] }) (s.heap.objs.size + 1) s.heap.objs.size 0 .none := by
    have hs := Heap.get?_push_size (s.heap.push o) (o := { cls := .type "enumerate", data := .fields #[.none, .bool false, .ref s.heap.objs.size, rawInt 0, .none, .none] }) rfl
    rw [hz] at hs; exact hs
  exact ⟨⟨_, he, rfl⟩, k _ he (Heap.get?_push_of_some _ (Heap.get?_push_size _ B.free)) fun b u x => Heap.get?_push_of_some _ (Heap.get?_push_of_some _ x)⟩
end
end PySem
namespace G
open PySem PySem.Spec PyProof.Rows L2 Evl
/-- the tuple at a at each turn, each item in a new pair -/
def IteT (K : PySem.W.Frag) (a : Addr) : It :=
  ⟨fun i H => ∃ (xs : List V) (x : V), SqT K H a xs ∧ xs[i]? = some x,
   fun i H v H' => ∃ T x, v = .ref T ∧ H T = none ∧ H' = upd H T (.tup [.int (i : Nat), x]) ∧ ∀ xs, SqT K H a xs → xs[i]? = some x,
   fun i H => ∃ xs : List V, SqT K H a xs ∧ xs.length = i⟩
theorem turn_enumT {P : Program} {w : World} {K : PySem.W.Frag} {elts : List Expr} {kk : Nat} {tpos : Pos} (a e it : Addr) :
    Turn P w K (.Tuple elts kk tpos) (IteT K a) [e, it] e (fun i h => (∃ old, IsEnum h e it ((i : Nat) : Int) old) ∧ h.IsTupleIter it a i ∧ e ≠ it ∧ a ≠ it ∧ a ≠ e) where
  mem := by simp
  obj := fun i h st b hb => by
    obtain ⟨⟨old, he⟩, ⟨o, ho, hc, hd⟩, _⟩ := st
    have hb' : b = e ∨ b = it := by simpa using hb
    rcases hb' with z | z
    · rw [z]; exact ⟨_, he, fun v q => nomatch q⟩
    · rw [z]; exact ⟨o, ho, fun v q => by rw [hd] at q; cases q⟩
  keep := fun i h h' st k => by
    obtain ⟨⟨old, he⟩, hi, hne⟩ := st
    exact ⟨⟨old, k e (by simp) _ he⟩, hi.at fun o q => k it (by simp) o q, hne⟩
  item := by
    intro X hP hw hK hc i pins s σ H E I hf st hg
    subst hP hw hK
    obtain ⟨⟨old, he⟩, hit, hne, hai, hae⟩ := st
    obtain ⟨xs, x, hq, hx⟩ := hg
    obtain ⟨its, rv, p, hz⟩ := I.tuple hq
    obtain ⟨u, hu, ru⟩ := rv.get hx
    have hel : e < s.heap.objs.size := Heap.lt_size he
    have hil : it < s.heap.objs.size := by obtain ⟨_, q, _⟩ := hit; exact Heap.lt_size q
    have hh : X.A.handled = none := I.ok.hd hc
    refine wpAny_pyNext_enum_itemD (Draws.tuple (A := X.A.in1) hh it a hai its.toArray) he ⟨hit, p⟩ ?_ hne ?_ fun y h' tk hy ho hst hT hsz hk => ?_
    · have := (List.getElem?_eq_some_iff.mp hu).1
      simpa using this
    · intro hm
      have hm' : e = it ∨ e = a := by simpa using hm
      rcases hm' with z | z
      · exact hne z
      · exact hae z.symm
    · have ey : y = u := by
        have hy' : its[i]? = some y := by simpa using hy
        exact Option.some.inj (hy'.symm.trans hu)
      subst ey
      refine ⟨_, rfl, wpAny_letOwnedTupleGo_enum (s := { s with heap := h', toks := tk + 1 }) ho fun h'' he' sb => ?_⟩
      have hT2 : h''.get? s.heap.objs.size = some { cls := .type "tuple", data := .seq #[.int i tk, y] } := (sb.2 _ (Nat.ne_of_gt hel)).trans hT
      have new : ObjOk X.prog X.w (upd H s.heap.objs.size (.tup [.int (i : Nat), x])) h'' s.heap.objs.size (.tup [.int (i : Nat), x]) :=
        ⟨by show 2 ≤ sizeLine; decide, [.int i tk, y], .cons ⟨_, rfl⟩ (.cons ru .nil), ⟨_, hT2, rfl, _, rfl⟩⟩
      have I1 : Inv X pins σ (upd H s.heap.objs.size (.tup [.int (i : Nat), x])) { s with heap := h'', toks := tk + 1 } :=
        I.turnedNew (ch := [e, it]) (fun b ob hb q => (sb.2 b (fun z => hb (by simp [z]))).trans (hk b ob (fun z => hb (by simp [z])) (fun z => hb (by simp [z])) q)) hf (Nat.le_refl _) new
      refine ⟨.ref s.heap.objs.size, _, I1, rfl, ⟨_, x, rfl, I.hok.fresh (Nat.le_refl _), rfl, fun ys hy => by rw [I.tuple_inj hy hq]; exact hx⟩, ⟨⟨y, ?_⟩, hst.1.at fun o q => (sb.2 it (Ne.symm hne)).trans q, hne, hai, hae⟩, fun b hb => ?_⟩
      · have e1 : ((i + 1 : Nat) : Int) = (i : Int) + 1 := by omega
        rw [e1]; exact he'
      · have hb' : b < s.heap.objs.size := by
          have hb2 : b = e ∨ b = it := by simpa using hb
          rcases hb2 with z | z
          · rw [z]; exact hel
          · rw [z]; exact hil
        rw [upd_ne (Nat.ne_of_lt hb')]
        exact (hf b hb).1
  done := by
    intro X hP hw hK hc i pins s σ H E I hf st hg
    subst hP hw hK
    obtain ⟨⟨old, he⟩, hit, hne, hai, hae⟩ := st
    obtain ⟨xs, hq, hx⟩ := hg
    obtain ⟨its, rv, p, hz⟩ := I.tuple hq
    obtain ⟨f0, f1, f2, f3, f4, f5⟩ := hf it (by simp)
    have hl := rv.length
    have hh : X.A.handled = none := I.ok.hd hc
    have ei : its.toArray.size = i := by rw [List.size_toArray, ← hl]; exact hx
    have st2 : s.heap.IsTupleIter it a its.toArray.size ∧ s.heap.IsTuple a its.toArray := by rw [ei]; exact ⟨hit, p⟩
    exact wpAny_pyNext_enum_endD (Draws.tuple (A := X.A.in1) hh it a hai its.toArray) he st2 fun h' eb => ⟨rfl, I.turned (t' := s.toks) (fun b o hb q => eb b o hb q) f0 f1 f3 f4 f5⟩
  self := fun A i s Q E st h => by
    obtain ⟨⟨_, he⟩, _⟩ := st
    exact wpAny_pyIter_enum he h
def iEnumT (K : PySem.W.Frag) (ta : TA) : TI := fun σ H R => ta σ H fun vs H1 => ∃ a xs, vs = [.ref a] ∧ SqT K H1 a xs ∧ R (IteT K a) H1
theorem pi_enumT {X : Cx} {e : Expr} {ta : TA} {p pos tpos : Pos} {elts : List Expr} {kk : Nat} (hg : Gl X "enumerate") (hm : X.mg "enumerate" = none) (ha : PA X [e] ta) (hs : starEach [e] X.env = [(false, eval e X.env)] := by rfl) :
    PI X (.Tuple elts kk tpos) (.Call (.Name "enumerate" p) [e] [] pos) (iEnumT X.K ta) := by
  refine ⟨fun pins s σ H R I h => Call_ (ld_blt I hg hm boot_enumerate (PyProof.Rows.callWith_type1 (thn (ha.run pos pins s σ H _ I h) fun us s1 ⟨vs, H1, I1, r1, q1⟩ => ?_) hs rfl))⟩
  obtain ⟨a, xs, rfl, hq, q⟩ := q1
  cases r1 with
  | cons r rr =>
    cases rr
    cases r
    obtain ⟨its, rv, p', hz⟩ := I1.tuple hq
    have hal : a < s1.heap.objs.size := by obtain ⟨o, ho, _⟩ := p'; exact Heap.lt_size ho
    refine G_enumCall (begins_tuple a its.toArray) p' fun h' he hit hk => wpAny_pyIter_enum he ?_
    have I2 : Inv X pins σ H1 { s1 with heap := h' } := I1.kept (t' := s1.toks) hk
    refine ⟨s1.heap.objs.size + 1, [s1.heap.objs.size + 1, s1.heap.objs.size], _, _, H1, rfl, I2, turn_enumT a (s1.heap.objs.size + 1) s1.heap.objs.size,
      ⟨⟨.none, he⟩, ⟨_, hit, rfl, rfl⟩, Nat.succ_ne_self _, Nat.ne_of_lt hal, Nat.ne_of_lt (Nat.lt_succ_of_lt hal)⟩, fun b hb => ?_, q⟩
    have hb' : b = s1.heap.objs.size + 1 ∨ b = s1.heap.objs.size := by simpa using hb
    have hle : s1.heap.objs.size ≤ b := by
      rcases hb' with z | z
      · rw [z]; exact Nat.le_add_right _ _
      · rw [z]; exact Nat.le_refl _
    exact I1.fpOk hle (I1.hok.fresh hle)
theorem walk_enumT {K : PySem.W.Frag} {a : Addr} {xs : List V} : Walk (IteT K a) xs.length (fun H => SqT K H a xs) (YPair (fun i => some (.int (i : Nat))) (fun i => xs[i]?)) := by
  refine ⟨fun i _ hi q => ⟨xs, xs[i], q, by simp [hi]⟩, fun _ q => ⟨xs, q, rfl⟩, fun i H v H' _ q y => ?_⟩
  obtain ⟨T, x, h1, h2, h3, h4⟩ := y
  exact ⟨T, .int (i : Nat), x, h1, h2, h3, rfl, h4 xs q⟩
theorem kPiEnumT {X : Cx} {K : PySem.W.Frag} {e : Expr} {ta : TA} {p pos tpos : Pos} {elts : List Expr} {kk : Nat} (h : X.K = K) (hg : Gl X "enumerate") (hm : X.mg "enumerate" = none) (ha : PA X [e] ta) (hs : starEach [e] X.env = [(false, eval e X.env)] := by rfl) :
    PI X (.Tuple elts kk tpos) (.Call (.Name "enumerate" p) [e] [] pos) (iEnumT K ta) := by subst h; exact pi_enumT hg hm ha hs
end G
/-! t[a::2], t a tuple -/
namespace HT
open PySem PySem.Spec PyProof.Rows L2
section
variable {prog : Program} {w : World} {A : Around} {E : Value → Shared → Prop} {s : Shared}
theorem g_applied {sl : Addr} {vl vu vs : Value} {lo hi : Option Int} {st : Int} {n : Nat} {Q : Int × Int × Nat → Shared → Prop} (hs : s.heap.IsSliceOf sl vl vu vs) (pl : IsPart vl lo) (pu : IsPart vu hi) (ps : IsPart vs (some st)) (h0 : st ≠ 0)
    (h : Q ((Builtin.Slice.sliceAdjust lo hi st (n : Int)).1, st, Builtin.Slice.slicePlaces (Builtin.Slice.sliceAdjust lo hi st (n : Int)).1 (Builtin.Slice.sliceAdjust lo hi st (n : Int)).2 st) s) :
    wpAny (model prog w) A (Builtin.Slice.sliceApplied (.ref sl) (pure (n : Int))) Q E s := by
  obtain ⟨ob, hob, _, hd⟩ := id hs
  unfold Builtin.Slice.sliceApplied Builtin.Slice.sliceFields
  refine wpAny_bind (wpAny_bind (wpAny_field hob hd (x := vl) rfl (wpAny_bind (wpAny_field hob hd (x := vu) rfl (wpAny_bind (wpAny_field hob hd (x := vs) rfl (wpAny_pure ?_)))))))
  refine wpAny_bind (slicePart_ ps ?_)
  show wpAny _ _ (if (st == 0) = true then _ else _) _ _ s
  rw [if_neg (by intro q; exact h0 (eq_of_beq q))]
  exact wpAny_bind (slicePart_ pl (wpAny_bind (slicePart_ pu (wpAny_bind (wpAny_pure (wpAny_pure h))))))
def stepped (xs : List Value) (lo st : Int) (n : Nat) : List Value := (List.range n).filterMap fun (k : Nat) => xs.toArray[(lo + (k : Int) * st).toNat]?
theorem g_getStep {t sl : Addr} {its : List Value} {vl vu vs : Value} {lo hi : Option Int} {st : Int} {Q : Value → Shared → Prop} (ht : IsTup s.heap t its.toArray) (hs : s.heap.IsSliceOf sl vl vu vs) (pl : IsPart vl lo) (pu : IsPart vu hi) (ps : IsPart vs (some st)) (h0 : st ≠ 0) (h1 : st ≠ 1)
    (hz : (stepped its (Builtin.Slice.sliceAdjust lo hi st (its.toArray.size : Int)).1 st (Builtin.Slice.slicePlaces (Builtin.Slice.sliceAdjust lo hi st (its.toArray.size : Int)).1 (Builtin.Slice.sliceAdjust lo hi st (its.toArray.size : Int)).2 st)).length ≤ sizeLine)
    (h : Q (.ref s.heap.objs.size) { s with heap := s.heap.push { cls := .type "tuple", data := .seq (stepped its (Builtin.Slice.sliceAdjust lo hi st (its.toArray.size : Int)).1 st (Builtin.Slice.slicePlaces (Builtin.Slice.sliceAdjust lo hi st (its.toArray.size : Int)).1 (Builtin.Slice.sliceAdjust lo hi st (its.toArray.size : Int)).2 st)).toArray } }) :
    wpAny (model prog w) A (getItem (.ref t) (.ref sl)) Q E s := by
  have ok : sizeOk (.seq (stepped its (Builtin.Slice.sliceAdjust lo hi st (its.toArray.size : Int)).1 st (Builtin.Slice.slicePlaces (Builtin.Slice.sliceAdjust lo hi st (its.toArray.size : Int)).1 (Builtin.Slice.sliceAdjust lo hi st (its.toArray.size : Int)).2 st)).toArray) := by
    show (stepped its _ st _).toArray.size ≤ sizeLine
    rw [List.size_toArray]; exact hz
  obtain ⟨ob, hob, hc, hd⟩ := id hs
  have hTs : s.TypeIs (.ref sl) "slice" := ⟨ob, hob, hc⟩
  unfold getItem
  try with_reducible refine wpAny_holding ?_
  first | refine wpAny_bind (wpAny_pure ?_) | skip
  refine wpAny_bind (wpAny_sequenceKey ht.typeIs (by decide) ?_)
  refine wpAny_bind (wpAny_callSpecial?_slot (name := Str.ofString "__getitem__") ht.typeIs slot_tuple_getitem (wpAny_call_entry slot_tuple_getitem ht.typeIs entry_tuple_getitem ?_ (args_tuple_getitem _ _)))
  show wpAny _ _ (Builtin.Tuple.tupleItemsOf (.ref t) >>= _) _ _ s
  refine wpAny_bind (tupleItemsOf_ ht (wpAny_bind (wpAny_typeOf hTs ?_)))
  rw [if_pos (by decide)]
  refine wpAny_bind (g_applied hs pl pu ps h0 ?_)
  generalize (Builtin.Slice.sliceAdjust lo hi st (its.toArray.size : Int)).1 = l0 at *
  generalize Builtin.Slice.slicePlaces l0 (Builtin.Slice.sliceAdjust lo hi st (its.toArray.size : Int)).2 st = n0 at *
  have hno : ¬ ((l0 == 0 && st == 1 && n0 == its.toArray.size) = true) := by
    intro q
    rw [Bool.and_eq_true, Bool.and_eq_true] at q
    exact h1 (eq_of_beq q.1.2)
  show wpAny _ _ (if (l0 == 0 && st == 1 && n0 == its.toArray.size) = true then _ else _) _ _ s
  rw [if_neg hno]
  first
    | exact wpAny_bind (m := Builtin.Tuple.tupleExact _) (wpAny_newObj_type (wpAny_pure ⟨_, rfl, wpAny_pure h⟩) ok)
    | exact wpAny_bind (m := Builtin.Tuple.tupleExact _) (wpAny_newObj_type (wpAny_bind (wpAny_pure (wpAny_pure ⟨_, rfl, wpAny_pure h⟩))) ok)
    | exact wpAny_bind (wpAny_bind (m := Builtin.Tuple.tupleExact _) (wpAny_newObj_type (wpAny_pure (wpAny_pure ⟨_, rfl, wpAny_pure h⟩)) ok))
    | exact wpAny_bind (wpAny_bind (m := Builtin.Tuple.tupleExact _) (wpAny_newObj_type (wpAny_pure ⟨_, rfl, wpAny_pure h⟩) ok))
end
end HT
namespace G
open PySem PySem.Spec PyProof.Rows L2 Evl
/-- every second item from a on -/
def halfL {α : Type} (a : Nat) (xs : List α) : List α := (List.range ((xs.length - a + 1) / 2)).filterMap fun k => xs[a + 2 * k]?
theorem halfL_len {α : Type} (a : Nat) (xs : List α) : (halfL a xs).length ≤ xs.length + 1 := by
  unfold halfL
  refine Nat.le_trans (List.length_filterMap_le _ _) ?_
  rw [List.length_range]; omega
theorem vals_filterMap {f : Nat → Option V} {g : Nat → Option Value} : ∀ {l : List Nat}, (∀ k, k ∈ l → RelO (f k) (g k)) → Vals (l.filterMap f) (l.filterMap g)
  | [], _ => .nil
  | k :: r, h => by
    have hk := h k (List.mem_cons_self ..)
    have ih := vals_filterMap (l := r) fun j hj => h j (List.mem_cons_of_mem _ hj)
    rw [List.filterMap_cons, List.filterMap_cons]
    cases e : f k with
    | none =>
      cases e2 : g k with
      | none => exact ih
      | some u => rw [e, e2] at hk; exact hk.elim
    | some v =>
      cases e2 : g k with
      | none => rw [e, e2] at hk; exact hk.elim
      | some u => rw [e, e2] at hk; exact .cons hk ih
def tHalf (K : PySem.W.Frag) (a : Nat) (te : TE) : TE := fun σ H Q => te σ H fun x H1 => ∃ t xs, x = .ref t ∧ SqT K H1 t xs ∧ xs.length ≤ 100000 ∧ ∀ p, H1 p = none → Q (.ref p) (upd H1 p (.tup (halfL a xs)))
theorem half_places {a n : Nat} (h : a ≤ 1) : (Builtin.Slice.sliceAdjust (some (a : Int)) none 2 (n : Int)).1 = ((min a n : Nat) : Int) ∧
    Builtin.Slice.slicePlaces (Builtin.Slice.sliceAdjust (some (a : Int)) none 2 (n : Int)).1 (Builtin.Slice.sliceAdjust (some (a : Int)) none 2 (n : Int)).2 2 = (n - a + 1) / 2 := by
  have h2 : ¬ ((2 : Int) < 0) := by omega
  have h3 : (2 : Int) > 0 := by omega
  have ha : ¬ ((a : Int) < 0) := by omega
  have e : Builtin.Slice.sliceAdjust (some (a : Int)) none 2 (n : Int) = (((min a n : Nat) : Int), (n : Int)) := by
    unfold Builtin.Slice.sliceAdjust
    simp only [h2, if_false, ha]
    refine Prod.ext ?_ rfl
    show min (a : Int) (n : Int) = ((min a n : Nat) : Int)
    omega
  rw [e]
  refine ⟨rfl, ?_⟩
  show Builtin.Slice.slicePlaces ((min a n : Nat) : Int) (n : Int) 2 = (n - a + 1) / 2
  unfold Builtin.Slice.slicePlaces
  simp only [h3, if_true]
  split <;> omega
section
variable {X : Cx}
theorem pe_half {e : Expr} {te : TE} {a : Nat} {k1 k2 : Nat} {p1 p2 p3 pos : Pos} (ha : a ≤ 1) (he : PE X e te) : PE X (.Subscript e (.Slice (some (.Constant (.int (a : Int)) k1 p1)) none (some (.Constant (.int 2) k2 p2)) p3) pos) (tHalf X.K a te) := by
  refine ⟨fun pins s σ H Q I h => Subscript_ (thn (he.run pins s σ H _ I h) fun v s1 ⟨x, H1, I1, r1, q1⟩ => ?_)⟩
  obtain ⟨t, xs, rfl, hx, hlen, q⟩ := q1
  cases r1
  have hlo : PO X (some (.Constant (.int (a : Int)) k1 p1)) (tPart (tC (.int (a : Int)))) := po_some pe_int
  have hst : PO X (some (.Constant (.int 2) k2 p2)) (tPart (tC (.int 2))) := po_some pe_int
  refine wpAny_Slice (thn (hlo.run pins s1 σ H1 (fun o H2 => o = some (a : Int) ∧ H2 = H1) I1 ⟨_, rfl, rfl, rfl⟩) fun vl s2 ⟨l, H2, I2, pl, el, e2⟩ => ?_)
  subst el e2
  refine thn (po_none.run pins s2 σ H2 (fun o H3 => o = none ∧ H3 = H2) I2 ⟨rfl, rfl⟩) fun vu s3 ⟨u, H3, I3, pu, eu, e3⟩ => ?_
  subst eu e3
  refine thn (hst.run pins s3 σ H3 (fun o H4 => o = some 2 ∧ H4 = H3) I3 ⟨_, rfl, rfl, rfl⟩) fun vs s4 ⟨o, H4, I4, ps, eo, e4⟩ => ?_
  subst eo e4
  have I5 : Inv X pins σ H4 { s4 with heap := s4.heap.push { cls := .type "slice", data := .fields #[vl, vu, vs] } } := I4.kept (t' := s4.toks) fun b ob q => Heap.get?_push_of_some _ q
  obtain ⟨its, r, ht, hz⟩ := I5.tuple hx
  have hl : its.toArray.size = xs.length := by rw [List.size_toArray]; exact r.length.symm
  obtain ⟨hp1, hp2⟩ := half_places (n := xs.length) ha
  have hrel : Vals (halfL a xs) (HT.stepped its ((min a xs.length : Nat) : Int) 2 ((xs.length - a + 1) / 2)) := by
    unfold halfL HT.stepped
    refine vals_filterMap fun k hk => ?_
    have hk' := List.mem_range.mp hk
    have hi : a + 2 * k < xs.length := by omega
    have en : (((min a xs.length : Nat) : Int) + (k : Int) * 2).toNat = a + 2 * k := by omega
    rw [en, List.getElem?_eq_getElem hi]
    obtain ⟨u, hu, ru⟩ := r.get (List.getElem?_eq_getElem hi)
    rw [List.getElem?_toArray, hu]
    exact ru
  have hsz : (halfL a xs).length ≤ sizeLine := sz_of (by
    unfold halfL
    refine Nat.le_trans (List.length_filterMap_le _ _) ?_
    rw [List.length_range]
    omega)
  show wpAny (model X.prog X.w) X.A (subscriptTail e (.Slice (some (.Constant (.int (a : Int)) k1 p1)) none (some (.Constant (.int 2) k2 p2)) p3) (.ref t) (.ref s4.heap.objs.size)) (EP X pins σ Q) X.xe { s4 with heap := s4.heap.push { cls := .type "slice", data := .fields #[vl, vu, vs] } }
  refine tail_any (ops := [.ref t, .ref s4.heap.objs.size]) ht.typeIs PyProof.Rows.slot_tuple_getitem.lookup ?_ (by with_unfolding_all rfl)
  refine HT.g_getStep ht (Heap.IsSliceOf.new _ vl vu vs) pl pu ps (by decide) (by decide) ?_ ?_
  · rw [hl, hp2, hp1, ← hrel.length]; exact hsz
  · rw [hl, hp2, hp1]
    refine ⟨.ref _, _, I5.laid (t' := s4.toks) (o := .tup (halfL a xs)) (fun b ob q => Heap.get?_push_of_some _ q) (Nat.le_refl _) ?_, rfl, q _ (I5.hok.fresh (Nat.le_refl _))⟩
    exact ⟨hsz, _, hrel, ⟨_, Heap.get?_push_size _ rfl, rfl, _, rfl⟩⟩
end
end G
/-! a dict comprehension whose keys are tuples of ints and texts -/
namespace L2
open PySem PySem.Spec PyProof.Rows
theorem put_tup {X : Cx} {ps : List (Addr × Obj)} {σ : St} {H : Hp} {s : Shared} {E : Value → Shared → Prop} {b D : Addr} {es : List (List Key × V)} {k : List Key} {v : V} {r : Value} {Q : Unit → Shared → Prop}
    (hu : X.A.units < cLine) (J : Inv X ps σ H s) (hb : H b = some (.tup (k.map kV))) (hD : H D = some (.dT es)) (hn : es.length < sizeLine) (hv : RelV v r)
    (go : ∀ s2, Inv X ps σ (upd H D (.dT (putK es k v))) s2 → Q () s2) : wpAny (model X.prog X.w) X.A (dictSet D (.ref b) r) Q E s := by
  obtain ⟨le, low, xs, rel, at_⟩ := dt_of J.hok hD
  have l1 : xs.length ≤ sizeLine := Paired.length rel ▸ le
  have l2 : (putK es k v).length ≤ sizeLine := Nat.le_trans (length_putK es k v) hn
  refine wpAny_dictSet_heap (hsz := l1) hu (key_of J.hok hb) at_ fun h2 d2 sb => go _ ?_
  obtain ⟨o2, e2, ep2, c1, c2, c3, c4, _, c6⟩ := d2
  refine d_write J (by rw [hD]; exact True.intro) sb ⟨o2, c1⟩ ⟨l2, low, _, (rel.put k hb hv).keeps fun c ys hc => ?_, o2, e2, ep2, c1, c2, c3, c4, c6⟩
  exact (upd_ne (ne_of hc hD (fun z => nomatch z))).trans hc
section
variable {X : Cx}
/-- one turn: the target, the test, the key, the value, the store -/
def dctTurn (D : Addr) (g : TG) (tt : TT) (tk tv : TE) (vs : List Nat) (σ : St) (Nx : Hp → Prop) (x : V) (H : Hp) : Prop :=
  g x (wipe σ vs) H fun τ G1 => wipe τ vs = wipe σ vs ∧ tt τ G1 fun b G2 => if b = true then tk τ G2 fun y G3 => tv τ G3 fun z G4 =>
    ∃ (es : List (List Key × V)) (k : List Key) (c : Addr), y = .ref c ∧ G4 c = some (.tup (k.map kV)) ∧ G4 D = some (.dT es) ∧ es.length < sizeLine ∧ Nx (upd G4 D (.dT (putK es k z))) else Nx G2
def tDct (wi : TI) (g : TG) (tt : TT) (tk tv : TE) (vs : List Nat) : TE := fun σ H Q => wi σ H fun J H1 => ∀ D, H1 D = none → ∃ W : Nat → Nat → Hp → Prop, (∃ m, W 0 m (upd H1 D (.dT []))) ∧
  ∀ i m G, W i m G → (J.stop i G ∧ Q (.ref D) G) ∨ (J.go i G ∧ ∃ Nx : Hp → Prop, (∀ G2, Nx G2 → ∃ m2, m2 < m ∧ W (i + 1) m2 G2) ∧ ∀ x G2, J.yld i G x G2 → dctTurn D g tt tk tv vs σ Nx x G2)
abbrev InBlk (X : Cx) (scope : Scope) (F : Cx → Prop) : Prop := ∀ (s : Shared) (H : Hp) (C : Addr) (cl : List (Str × Addr)) (fp : List Addr), F (X.blk s H scope (compEnvC scope cl C X.env) fp)
theorem pe_dct {kx vx tg iter : Expr} {ifs : List Expr} {scope : Scope} {own : List (Str × Nat)} {pos : Pos} {wi : TI} {g : TG} {tt : TT} {tk tv : TE} (calm : X.calm = true) (nd : X.N.Nodup) (hu : X.A.units < cLine)
    (walk : PI X tg iter wi) (ok : BlkOk X.N X.env.scope scope own) (bg : InBlk X scope fun Y => PG Y tg g) (bt : InBlk X scope fun Y => PTs Y ifs tt) (bk : InBlk X scope fun Y => PE Y kx tk) (bv : InBlk X scope fun Y => PE Y vx tv)
    (plain : ∀ x, foldedSetIterable iter X.env x = pure x := by intro _; rfl) : PE X (.DictComp kx vx [⟨tg, iter, ifs, 0⟩] scope pos) (tDct wi g tt tk tv (own.map (·.2))) := by
  refine ⟨fun ps s σ H Q I hyp => ?_⟩
  rw [arm_eval_DictComp]
  have clo := closure_ok (env := X.env) (scope := scope) fun y hy e => (ok.free y hy e).elim (fun k => I.ok.has _ (.inl k)) (fun k => I.ok.has _ (.inr k))
  refine wpAny_comprehension_free (use := none) rfl plain clo ok.kind (fun y hy e => (ok.uniq y hy).trans (congrArg some e)) (thn (walk.run ps s σ H _ I hyp) fun _ s1 got => thn got fun _ s2 more => ?_)
  obtain ⟨it, fp, tn, J, H2, rfl, I2, T, here, fpok, rest⟩ := more
  refine wpAny_newObj_type (newEnv_comp ?_)
  let D : Addr := s2.heap.objs.size
  have free : H2 D = none := I2.hok.fresh (Nat.le_refl _)
  obtain ⟨W, ⟨m0, start⟩, turn⟩ := rest D free
  let s3 : Shared := { s2 with heap := s2.heap.push { cls := .type "dict", data := .dict #[] } }
  have old : ∀ b o, s2.heap.get? b = some o → s3.heap.get? b = some o := fun b o e => Heap.get?_push_of_some _ e
  have I3 : Inv X ps σ (upd H2 D (.dT [])) s3 := I2.laid (t' := s2.toks) old (Nat.le_refl _) (dt_empty s2.heap I2.big)
  have small : ∀ b ∈ fp, b < s2.heap.objs.size := fun b hb => (T.obj _ _ here b hb).elim fun _ e => Heap.lt_size e.1
  have fp3 : ∀ b ∈ fp, FpOk X ps (upd H2 D (.dT [])) b ∧ b < s3.heap.objs.size := fun b hb =>
    ⟨⟨(upd_ne (Nat.ne_of_lt (small b hb))).trans (fpok b hb).1, (fpok b hb).2⟩, Nat.lt_of_lt_of_eq (Nat.lt_succ_of_lt (small b hb)) (Heap.size_push ..).symm⟩
  have here3 : tn 0 s3.heap := T.keep _ _ _ here fun b _ o e => old b o e
  have I4 := block_start I3 ok nd fp3
  generalize hH3 : upd H2 D (.dT []) = H3 at I3 I4 fp3 start
  generalize hC : s3.heap.objs.size = C at I4 ⊢
  generalize hce : compEnvC scope (cellsFrom (C + 1) scope.names (cloFrom X.env.cells scope.names [])) C X.env = ce at I4
  have locC : ce.locals = C := by rw [← hce]; rfl
  have at_ : ∀ F : Cx → Prop, InBlk X scope F → F (X.blk s3 H3 scope ce fp) := fun F hF => by rw [← hce]; exact hF ..
  have pg := at_ _ bg
  have pt := at_ _ bt
  have pk := at_ _ bk
  have pv := at_ _ bv
  let B : Cx := X.blk s3 H3 scope ce fp
  let s4 : Shared := { s3 with heap := pushCells (s3.heap.push { cls := .type "dict", data := .dict #[] }) scope.names }
  show codeAny _ _ (.compStart (.DictComp kx vx [⟨tg, iter, ifs, 0⟩] scope pos) 0 (.ref it) (.ref D) (compEnvC scope (cellsFrom (C + 1) scope.names (cloFrom X.env.cells scope.names [])) C X.env)) _ s4
  rw [hce]
  have here4 : tn 0 s4.heap := T.keep _ _ _ here3 fun b _ o e => pushCells_keeps _ _ _ _ (Heap.get?_push_of_some _ e)
  have away : ∀ {τ : St} {G : Hp} {t : Shared}, Inv B [] τ G t → (∀ b ∈ fp, G b = none) → ∀ b ∈ fp, FpOk B [] G b := fun {τ G t} J hn b hb =>
    ⟨hn b hb, (J.ok.exf b hb).1, J.ok.exfs b hb, .inl hb, fun x c e => (J.ok.exf b hb).2 x c e, fun p hp => nomatch (show p ∈ ([] : List (Addr × Obj)) ++ [] from hp)⟩
  let Iv : Nat → Shared → Prop := fun n t => ∃ i G, Inv B [] (wipe σ (own.map (·.2))) G t ∧ tn i t.heap ∧ (∀ b ∈ fp, G b = none) ∧ W i n G
  refine codeAny_compStart_dict ?loop (T.self X.A 0 _ _ _ here4 ?loop)
  refine compLoop_anyD Iv ?_ m0 ⟨0, H3, I4, here4, fun b hb => (fp3 b hb).1.1, start⟩
  rintro n t ⟨i, G, J, st, no, w⟩
  rcases turn i n G w with ⟨stop, fin⟩ | ⟨go, Nx, hNx, step⟩
  · -- the walk is over
    refine thnF (T.done B rfl rfl rfl calm i [] t _ G (fun _ _ => False) J (away J no) st stop) fun r t2 ⟨er, J2⟩ => ?_
    subst er
    have back : Inv X ps σ G t2 := I3.call' (ch := fp) J2.os J2.base J2.hok J2.bare fun b hb => ⟨(fp3 b hb).1.2.2.2.1, (fp3 b hb).1.2.1, (fp3 b hb).1.2.2.2.2.1, (fp3 b hb).1.2.2.2.2.2⟩
    have noC : G C = none := locC ▸ (show G ce.locals = none from J2.free)
    obtain ⟨m, hm, _⟩ := J2.loc
    have fo := I3.fpOk (Nat.le_of_eq hC) noC
    refine ⟨m, locC ▸ (show t2.heap.Ns ce.locals m from hm), fun h3 sb => ?_⟩
    obtain ⟨f0, f1, f2, f3, f4, f5⟩ := fo
    exact ⟨.ref D, G, back.turned (t' := t2.toks) (fun b o hb e => (sb.2 b hb).trans e) f0 f1 f3 f4 f5, rfl, fin⟩
  · refine thnF (T.item B rfl rfl rfl calm i [] t _ G (fun _ _ => False) J (away J no) st go) fun r t2 ⟨u, er, more⟩ => ?_
    subst er
    refine thnF more fun _ t3 ⟨x, G3, J3, rx, hy, st3, no3⟩ => ?_
    have J3p := J3.pinned (away J3 no3) (T.obj _ _ st3)
    refine thnF (pg.run _ t3 _ G3 x u _ J3p rx (step x G3 hy)) fun _ t4 ⟨τ, G4, J4, hw, q4⟩ => ?_
    refine thnF (pt.run _ t4 τ G4 _ J4 q4) fun b t5 ⟨G5, J5, q5⟩ => ?_
    have again : ∀ {t' : Shared} {G' : Hp}, Inv B ([] ++ pinsAt fp t3.heap) τ G' t' → Nx G' → ∃ m, m < n ∧ Iv m t' := fun {t' G'} J' nx => by
      obtain ⟨m2, lt, w2⟩ := hNx G' nx
      have kept : ∀ c ∈ fp, ∀ o, t3.heap.get? c = some o → t'.heap.get? c = some o ∧ G' c = none := fun c hc o e =>
        let z := J'.pin (c, o) (List.mem_append_right _ (List.mem_append_right _ (mem_pinsAt hc e)))
        ⟨z.1, z.2.1⟩
      have len : (wipe σ (own.map (·.2))).length = τ.length := by rw [← hw, wipe_length]
      exact ⟨m2, lt, i + 1, G', (J'.unpinned (pins := [])).weak len (fun j v e => (wipe_some (hw ▸ e)).1), T.keep _ _ _ st3 fun c hc o e => (kept c hc o e).1,
        fun c hc => (T.obj _ _ st3 c hc).elim fun o e => (kept c hc o e.1).2, w2⟩
    cases b with
    | false =>
      simp only [Bool.false_eq_true, if_false] at q5 ⊢
      exact again J5 q5
    | true =>
      simp only [if_true] at q5 ⊢
      refine thnF (pk.run _ t5 τ G5 _ J5 q5) fun kv t6 ⟨y, G6, J6, ry, q6⟩ => ?_
      refine thnF (pv.run _ t6 τ G6 _ J6 q6) fun vv t7 ⟨z, G7, J7, rz, es, k, c, ey, hc, hD, hl, nx⟩ => ?_
      subst ey
      obtain rfl : kv = Value.ref c := ry
      exact put_tup (X := B) hu J7 hc hD hl rz fun t8 J8 => again J8 nx
end
end L2
/-! y = {k: v for ..}, y a plain local: the value goes straight to its name -/
namespace L2
open PySem PySem.Spec PyProof.Rows
section
variable {X : Cx}
theorem sw_trueD {kx vx : Expr} {gs : List Comprehension} {scope : Scope} {pos py : Pos} {y : Str} {l : Nat} {env : Env} (hk : env.scope.kind = .function) (hy : env.scope.names.lookup y = some .local) (hl : (py.line == pos.line) = true)
    (ha : (scope.names.any fun (n, k) => n == y && (k == .local || k == .cell)) = false) : swapsWith (.DictComp kx vx gs scope pos) (some (.Name y py)) l env = pure true := by
  have e1 : env.kindOf y = some .local := hy
  have e2 : env.blockKind = .function := by unfold Env.blockKind; rw [hk]; rfl
  unfold swapsWith
  simp only [e1, e2, ha, hl, Expr.pos]
  rfl
theorem ps_setDc {i : Nat} {y : Str} {py : Pos} {kx vx tg iter : Expr} {ifs : List Expr} {scope : Scope} {own : List (Str × Nat)} {pos spos : Pos} {wi : TI} {g : TG} {tt : TT} {tk tv : TE} (calm : X.calm = true) (nd : X.N.Nodup) (at_ : X.N[i]? = some y) (loc : X.env.scope.names.lookup y = some .local)
    (sw : swapsWith (.DictComp kx vx [⟨tg, iter, ifs, 0⟩] scope pos) (some (.Name y py)) spos.line X.env = pure true) (walk : PI X tg iter wi) (ok : BlkOk X.N X.env.scope scope own)
    (bg : InBlk X scope fun Y => PG Y tg g) (bt : InBlk X scope fun Y => PTs Y ifs tt) (bk : InBlk X scope fun Y => PE Y kx tk) (bv : InBlk X scope fun Y => PE Y vx tv) (plain : ∀ x, foldedSetIterable iter X.env x = pure x := by intro _; rfl) :
    PS X (.Assign [.Name y py] (.DictComp kx vx [⟨tg, iter, ifs, 0⟩] scope pos) spos) (tAsg (tDc wi g tt tk tv (own.map (·.2))) (gName i)) := by
  refine ⟨fun ps s σ H D I hyp => ?_⟩
  rw [exec_Assign_Name_used _ _ _ _ sw]
  refine wpAny_bind (wpAny_standAt (wpAny_bind ?_))
  show wpAny _ X.A (do let _ ← comprehension (.DictComp kx vx [⟨tg, iter, ifs, 0⟩] scope pos) scope X.env (firstIterPos [⟨tg, iter, ifs, 0⟩] pos) newDict false (eval iter X.env) (some (assign (.Name y py) X.env))) _ _ s
  have hyp2 : tDc wi g tt tk tv (own.map (·.2)) σ H (fun x G => gName i x σ G D.nx) := hyp
  refine wpAny_bind (thn (dc_core (Qf := fun _ t => SP X ps D .next t) calm nd I walk ok bg bt bk bv plain hyp2 fun L C t m G J fin hn fo => ?_) fun _ t ht => wpAny_pure (wpAny_pure ht))
  show wpAny _ _ (assign (.Name y py) X.env (.ref L)) _ _ _
  refine wpAny_assign_Name (store_ok2 (v := V.ref L) J nd at_ (.inl loc) rfl (fun t2 J2 ⟨b, sb, hb⟩ => ?_) (.inr loc))
  obtain ⟨f0, f1, f2, f3, f4, f5⟩ := fo
  have away : C ≠ b := by
    rcases hb with z | z
    · exact z ▸ f1
    · exact fun e => f4 y b z e.symm
  exact ⟨m, hn.sameBut sb away, fun h3 sb3 => ⟨_, G, J2.turned (t' := t2.toks) (fun c o hc e => (sb3.2 c hc).trans e) f0 f1 f3 f4 f5, fin⟩⟩
end
end L2
namespace G
open PySem PySem.Spec PyProof.Rows L2 Evl
/-! ## two lists side by side -/
def All2 {α β : Type} (R : α → β → Prop) (as : List α) (bs : List β) : Prop := as.length = bs.length ∧ ∀ (i : Nat) (a : α) (b : β), as[i]? = some a → bs[i]? = some b → R a b
theorem All2.nil {α β : Type} {R : α → β → Prop} : All2 R [] [] := ⟨rfl, fun _ _ _ h => nomatch h⟩
theorem All2.imp {α β : Type} {R S : α → β → Prop} {as : List α} {bs : List β} (h : All2 R as bs) (f : ∀ a b, R a b → S a b) : All2 S as bs := ⟨h.1, fun i a b h1 h2 => f _ _ (h.2 i a b h1 h2)⟩
theorem All2.snoc {α β : Type} {R : α → β → Prop} {as : List α} {bs : List β} {a : α} {b : β} (h : All2 R as bs) (r : R a b) : All2 R (as ++ [a]) (bs ++ [b]) := by
  refine ⟨by rw [List.length_append, List.length_append, h.1]; rfl, fun i x y h1 h2 => ?_⟩
  by_cases hi : i < as.length
  · rw [List.getElem?_append_left hi] at h1
    rw [List.getElem?_append_left (h.1 ▸ hi)] at h2
    exact h.2 i x y h1 h2
  · rw [List.getElem?_append_right (by omega)] at h1
    rw [List.getElem?_append_right (by rw [← h.1]; omega), ← h.1] at h2
    cases e : i - as.length with
    | zero =>
      rw [e] at h1 h2
      cases h1; cases h2; exact r
    | succ n => rw [e] at h1; exact nomatch h1
theorem All2.at_ {α β : Type} {R : α → β → Prop} {as : List α} {bs : List β} (h : All2 R as bs) {i : Nat} {a : α} (e : as[i]? = some a) : ∃ b, bs[i]? = some b ∧ R a b := by
  have hi : i < bs.length := by rw [← h.1]; exact (List.getElem?_eq_some_iff.mp e).1
  exact ⟨bs[i], List.getElem?_eq_getElem hi, h.2 i a _ e (List.getElem?_eq_getElem hi)⟩
theorem All2.of {α β : Type} {R : α → β → Prop} {as : List α} {bs : List β} (h : All2 R as bs) {i : Nat} {b : β} (e : bs[i]? = some b) : ∃ a, as[i]? = some a ∧ R a b := by
  have hi : i < as.length := by rw [h.1]; exact (List.getElem?_eq_some_iff.mp e).1
  exact ⟨as[i], List.getElem?_eq_getElem hi, h.2 i _ b (List.getElem?_eq_getElem hi) e⟩
theorem All2.cons {α β : Type} {R : α → β → Prop} {as : List α} {bs : List β} {a : α} {b : β} (r : R a b) (h : All2 R as bs) : All2 R (a :: as) (b :: bs) := by
  refine ⟨by rw [List.length_cons, List.length_cons, h.1], fun i x y h1 h2 => ?_⟩
  cases i with
  | zero => cases h1; cases h2; exact r
  | succ i => exact h.2 i x y h1 h2
theorem take_snoc1 {α : Type} {l : List α} {j : Nat} {x : α} (h : l[j]? = some x) : l.take (j + 1) = l.take j ++ [x] := by rw [List.take_add_one, h]; rfl
theorem refs_get {as : List Addr} {k : Nat} {x : V} (hx : (as.map V.ref)[k]? = some x) : ∃ a, as[k]? = some a ∧ x = .ref a := by
  rw [List.getElem?_map] at hx
  cases e : as[k]? with
  | none => rw [e] at hx; cases hx
  | some a => rw [e] at hx; cases hx; exact ⟨a, rfl, rfl⟩
/-! ## walks: any body -/
theorem wk_list {K : PySem.W.Frag} {a : Addr} {xs : List V} {body : (Hp → Prop) → V → Hp → Prop} {H0 : Hp} {Qd : Hp → Prop} (Pv : Nat → Hp → Prop) (h0 : Pv 0 H0) (hl : ∀ i H, i ≤ xs.length → Pv i H → SqL K H a xs)
    (hs : ∀ i x H, xs[i]? = some x → Pv i H → body (Pv (i + 1)) x H) (hd : ∀ H, Pv xs.length H → Qd H) :
    ∃ W : Nat → Nat → Hp → Prop, (∃ m, W 0 m H0) ∧ ∀ i m H, W i m H → ((Itl K a).stop i H ∧ Qd H) ∨ ((Itl K a).go i H ∧ ∃ Nx : Hp → Prop, (∀ H', Nx H' → ∃ m', m' < m ∧ W (i + 1) m' H') ∧ ∀ x H', (Itl K a).yld i H x H' → body Nx x H') := by
  refine ⟨fun i m H => m = xs.length - i ∧ i ≤ xs.length ∧ Pv i H, ⟨xs.length, by simp, Nat.zero_le _, h0⟩, ?_⟩
  rintro i m H ⟨rfl, hi, p⟩
  have q := hl i H hi p
  rcases Nat.lt_or_ge i xs.length with lt | ge
  · have e : xs[i]? = some xs[i] := List.getElem?_eq_getElem lt
    refine .inr ⟨⟨xs, xs[i], q, e⟩, Pv (i + 1), fun H' p' => ⟨xs.length - (i + 1), by omega, rfl, lt, p'⟩, fun x H' y => ?_⟩
    obtain ⟨rfl, y⟩ := y
    exact hs i x _ (y xs q) p
  · have e : i = xs.length := by omega
    subst e
    exact .inl ⟨⟨xs, q, Nat.le_refl _⟩, hd H p⟩
theorem wk_tup {K : PySem.W.Frag} {a : Addr} {xs : List V} {body : (Hp → Prop) → V → Hp → Prop} {H0 : Hp} {Qd : Hp → Prop} (Pv : Nat → Hp → Prop) (h0 : Pv 0 H0) (hl : ∀ i H, i ≤ xs.length → Pv i H → SqT K H a xs)
    (hs : ∀ i x H, xs[i]? = some x → Pv i H → body (Pv (i + 1)) x H) (hd : ∀ H, Pv xs.length H → Qd H) :
    ∃ W : Nat → Nat → Hp → Prop, (∃ m, W 0 m H0) ∧ ∀ i m H, W i m H → ((Itt K a).stop i H ∧ Qd H) ∨ ((Itt K a).go i H ∧ ∃ Nx : Hp → Prop, (∀ H', Nx H' → ∃ m', m' < m ∧ W (i + 1) m' H') ∧ ∀ x H', (Itt K a).yld i H x H' → body Nx x H') := by
  refine ⟨fun i m H => m = xs.length - i ∧ i ≤ xs.length ∧ Pv i H, ⟨xs.length, by simp, Nat.zero_le _, h0⟩, ?_⟩
  rintro i m H ⟨rfl, hi, p⟩
  have q := hl i H hi p
  rcases Nat.lt_or_ge i xs.length with lt | ge
  · have e : xs[i]? = some xs[i] := List.getElem?_eq_getElem lt
    refine .inr ⟨⟨xs, xs[i], q, e⟩, Pv (i + 1), fun H' p' => ⟨xs.length - (i + 1), by omega, rfl, lt, p'⟩, fun x H' y => ?_⟩
    obtain ⟨rfl, y⟩ := y
    exact hs i x _ (y xs q) p
  · have e : i = xs.length := by omega
    subst e
    exact .inl ⟨⟨xs, q, Nat.le_refl _⟩, hd H p⟩
theorem wk_it {J : It} {n : Nat} {Gd : Hp → Prop} {Y : Nat → Hp → V → Hp → Prop} (w : Walk J n Gd Y) {body : (Hp → Prop) → V → Hp → Prop} {H0 : Hp} {Qd : Hp → Prop} (Pv : Nat → Hp → Prop) (h0 : Pv 0 H0) (hG : ∀ i H, i ≤ n → Pv i H → Gd H)
    (hs : ∀ i x H H', i < n → Pv i H → Y i H x H' → body (Pv (i + 1)) x H') (hd : ∀ H, Pv n H → Qd H) :
    ∃ W : Nat → Nat → Hp → Prop, (∃ m, W 0 m H0) ∧ ∀ i m H, W i m H → (J.stop i H ∧ Qd H) ∨ (J.go i H ∧ ∃ Nx : Hp → Prop, (∀ H', Nx H' → ∃ m', m' < m ∧ W (i + 1) m' H') ∧ ∀ x H', J.yld i H x H' → body Nx x H') := by
  refine ⟨fun i m H => m = n - i ∧ i ≤ n ∧ Pv i H, ⟨n, by simp, Nat.zero_le _, h0⟩, ?_⟩
  rintro i m H ⟨rfl, hi, p⟩
  rcases Nat.lt_or_ge i n with lt | ge
  · exact .inr ⟨w.goes i H lt (hG i H hi p), Pv (i + 1), fun H' p' => ⟨n - (i + 1), by omega, rfl, lt, p'⟩, fun x H' y => hs i x H H' lt p (w.yields i H x H' lt (hG i H hi p) y)⟩
  · have e : i = n := by omega
    subst e
    exact .inl ⟨w.stops H (hG i H hi p), hd H p⟩
/-! ## tuples joined and cut, whatever object that is -/
theorem cat_tup {K : PySem.W.Frag} {H : Hp} {a b : Addr} {xs ys : List V} {Q : VK} (ha : H a = some (.tup xs)) (hb : H b = some (.tup ys)) (hl : xs.length + ys.length ≤ sizeLine) (q : ∀ c H', Ex H H' → H' c = some (.tup (xs ++ ys)) → Q (.ref c) H') : rCatA K (.ref a) (.ref b) H Q := by
  refine ⟨a, b, xs, ys, rfl, rfl, SqT.of ha, SqT.of hb, hl, fun e => ?_, fun _ e => ?_, fun _ _ p np => ?_⟩
  · subst e; exact q b H (Ex.refl _) hb
  · subst e; exact q a H (Ex.refl _) (by rw [List.append_nil]; exact ha)
  · exact q p _ (Ex.new np) upd_same
theorem cut_tup {K : PySem.W.Frag} {H : Hp} {a : Addr} {xs : List V} {lo hi : Option Int} {Q : VK} (ha : H a = some (.tup xs)) (q : ∀ c H', Ex H H' → H' c = some (.tup (cutV xs lo hi)) → Q (.ref c) H') : rSlA K (.ref a) lo hi H Q := by
  refine ⟨a, xs, rfl, SqT.of ha, fun e => ?_, fun _ p np => q p _ (Ex.new np) upd_same⟩
  refine q a H (Ex.refl _) ?_
  rw [ha]
  unfold cutV
  rw [e.1, e.2, List.drop_zero, Nat.sub_zero, List.take_length]
theorem cutV_head {xs : List V} {k : Nat} (h : k ≤ xs.length) : cutV xs none (some (k : Int)) = xs.take k := by
  unfold cutV
  rw [HT.sIx_none, HT.sIx_nat, List.drop_zero, Nat.sub_zero, Nat.min_eq_left h]
theorem cutV_tail {xs : List V} {k : Nat} (h : k ≤ xs.length) : cutV xs (some (k : Int)) none = xs.drop k := by
  unfold cutV
  rw [HT.sIx_none, HT.sIx_nat, Nat.min_eq_left h, List.take_of_length_le]
  rw [List.length_drop]; exact Nat.le_refl _
end G
namespace G
open PySem PySem.Spec PyProof.Rows L2 Evl
theorem tYes_in {σ : L2.St} {H : Hp} {A B : Hp → Prop} (h : A H) : tYes σ H (fun b H3 => if b = true then A H3 else B H3) := by
  show if true = true then A H else B H
  exact iteT h
def tabV (bs : List Bool) : HO := .tup (bs.map V.bl)
theorem inV_ints {k : Int} {l : List Int} : inV (.int k) (l.map V.int) = l.contains k := by
  unfold inV
  rw [List.any_map, List.contains_eq_any_beq]
  congr 1
  funext y
  show (y == k) = (k == y)
  rw [Bool.eq_iff_iff]; simp; exact eq_comm
theorem inV_bls {k : Bool} {l : List Bool} : inV (.bl k) (l.map V.bl) = l.contains k := by
  unfold inV
  rw [List.any_map, List.contains_eq_any_beq]
  congr 1
  funext y
  show (y == k) = (k == y)
  cases y <;> cases k <;> rfl
theorem flat_map {α : Type} {f : α → V} (h : ∀ x, flatV (f x) = true) (l : List α) : (l.map f).all flatV = true := by
  rw [List.all_map]
  exact List.all_eq_true.mpr fun x _ => h x
end G
namespace G
open PySem PySem.Spec PyProof.Rows L2
def topS (i : Nat) : Stmt := PySem.Challenge.pw_signoff_k22_readers_and_cones.main.body.getD i (.Pass ⟨0, 0, 0, 0⟩)
abbrev s_sources : Stmt := topS 5
abbrev s_readers : Stmt := topS 6
abbrev s_cone : Stmt := topS 7
abbrev s_check_nets : Stmt := topS 8
abbrev s_all_names : Stmt := topS 9
abbrev s_gates_by_net : Stmt := topS 10
abbrev s_law_pool : Stmt := topS 12
abbrev s_law_spread : Stmt := topS 13
abbrev s_law_draw : Stmt := topS 14
abbrev s_law_same : Stmt := topS 15
abbrev s_law_bits : Stmt := topS 16
abbrev s_law_table : Stmt := topS 17
abbrev s_law_register : Stmt := topS 18
abbrev s_law_shuffled : Stmt := topS 19
abbrev s_law_circuit : Stmt := topS 20
abbrev s_law_unknown : Stmt := topS 21
abbrev s_law_reached : Stmt := topS 22
abbrev s_law : Stmt := topS 23
end G
namespace G
open PySem PySem.Spec PyProof.Rows L2 Evl
structure TxtL (mg : Str → Option Value) : Prop where
  int : mg "int" = none
  len : mg "len" = none
  list : mg "list" = none
  range : mg "range" = none
section
variable {P : Program} {w : World} {K : PySem.W.Frag} {mg : Str → Option Value} {base : Heap}
def spSpread : Sp := fun vs H Q _ => ∃ (c : Int), vs = [.int c] ∧ ∀ v : Int, Q (.int v) H
theorem sc_law_spread : FnScope ["cell", "mixed", "total", "k"] ["cell"] (defScope s_law_spread) := ⟨rfl, rfl, rfl, by decide +kernel, rfl, by decide +kernel, by decide +kernel⟩
theorem ok_law_spread (D : Dfd K mg "_law_spread" s_law_spread ["cell"]) (T : TxtL mg) : Has P w K mg base 1 "_law_spread" ["cell"] spSpread := by
  refine D.has fun f fd F => F.ok sc_law_spread (fun vs H Q E h => ?_) (fun cdv A outer s H vs Q E hr h => ?_)
  · obtain ⟨c, rfl, _⟩ := h
    rfl
  · obtain ⟨c, rfl, q⟩ := h
    refine ⟨_, (pss_cons (ps_set (i := 1) sc_law_spread.nd rfl (.inl rfl) (pe_op op_mod (pe_callTy call_int1 (by rfl) T.int (by decide +kernel) (pa_cons (pv 0) pa_nil)) pe_int))
      (pss_cons (ps_set (i := 2) sc_law_spread.nd rfl (.inl rfl) pe_int)
      (pss_cons (ps_for PassesOwn.never rfl (pi_range1 rfl T.range (pa_cons pe_int pa_nil)) (pg_name (i := 3) sc_law_spread.nd rfl (.inl rfl))
        (pss_cons (ps_set (i := 1) sc_law_spread.nd rfl (.inl rfl) (pe_op op_mod (pe_callTy call_int1 (by rfl) T.int (by decide +kernel) (pa_cons (pe_op op_add (pe_op op_add (pe_op op_mul (pv 1) pe_int) pe_int) (pv 3)) pa_nil)) pe_int))
        (pss_one (ps_set (i := 2) sc_law_spread.nd rfl (.inl rfl) (pe_op op_add (pe_op op_mul (pv 2) pe_int) (pv 1))))))
      (pss_one (ps_ret (pv 2)))))), ?_⟩
    refine ⟨_, rfl, .inl ⟨_, rfl, _, _, rfl, rfl, (by show (0 : Int) < 2147483647; decide), 4, rfl, by decide, by decide, for_range (n := 4) (fun _ σ H' => H' = H ∧ ∃ (x y : Int) (z : Option V), σ = [some (.int c), some (.int x), some (.int y), z]) ⟨rfl, _, _, _, rfl⟩ ?_ ?_⟩⟩
    · rintro i σ H' hi ⟨rfl, x, y, z, rfl⟩
      refine ⟨_, rfl, _, _, rfl, rfl, .inr ⟨by decide, by decide⟩, _, _, rfl, rfl, _, rfl, _, _, rfl, rfl, .inl ⟨_, rfl, _, _, rfl, rfl, (by show (0 : Int) < 2147483647; decide), _, rfl, _, _, rfl, rfl, .inr ⟨by decide, by decide⟩, _, rfl, _, _, rfl, rfl, rfl, _, _, _, rfl⟩⟩
    · rintro σ H' ⟨rfl, x, y, z, rfl⟩
      exact ⟨_, rfl, q y⟩
/-- a draw below n -/
def spDraw : Sp := fun vs H Q _ => ∃ (p a : Addr) (n : Int), vs = [.ref p, .int n] ∧ 0 < n ∧ n.natAbs.log2 < 9000 ∧ PoolOk p a H ∧ ∀ (v : Int) (o : HO), 0 ≤ v → v < n → PoolOk p a (upd H p o) → Q (.int v) (upd H p o)
theorem sc_law_draw : FnScope ["pool", "many", "cell", "mixed", "value"] ["pool", "many"] (defScope s_law_draw) := ⟨rfl, rfl, rfl, by decide +kernel, rfl, by decide +kernel, by decide +kernel⟩
theorem ok_law_draw (D : Dfd K mg "_law_draw" s_law_draw ["pool", "many"]) (T : TxtL mg) (C : Has P w K mg base 1 "_law_spread" ["cell"] spSpread) : Has P w K mg base 2 "_law_draw" ["pool", "many"] spDraw := by
  obtain ⟨f_law_spread, d_law_spread, G_law_spread, g_law_spread, k_law_spread, b_law_spread⟩ := C
  refine D.has fun f fd F => F.ok sc_law_draw (fun vs H Q E h => ?_) (fun cdv A outer s H vs Q E hr h => ?_)
  · obtain ⟨p, a, n, rfl, _⟩ := h
    rfl
  · obtain ⟨p, a, n, rfl, n0, n9, hp, q⟩ := h
    refine ⟨_, (pss_cut (ps_if (PW.pt (pw_and (pt_cmpR op_le (pe_ix ix_list (pv 0) pe_int (fun _ _ => rfl)) pe_int (nomark _)) (pw_and1 (pt_cmpR op_lt (pe_ix ix_list (pv 0) pe_int (fun _ _ => rfl)) (pe_callB call_len_seq (by rfl) T.len (by decide +kernel) (pa_cons (pe_ix ix_list (pv 0) pe_int (fun _ _ => rfl)) pa_nil)) (nomark _)))))
      (pss_cons (ps_set (i := 2) sc_law_draw.nd rfl (.inl rfl) (pe_ix ix_list (pe_ix ix_list (pv 0) pe_int (fun _ _ => rfl)) (pe_ix ix_list (pv 0) pe_int (fun _ _ => rfl)) (fun _ _ => rfl)))
      (pss_cons (ps_asg (pe_op op_add (pe_ix ix_list (pv 0) pe_int (fun _ _ => rfl)) pe_int) (pg_sub (pv 0) pe_int set_list))
      (pss_cons (ps_asg (pv 2) (pg_sub (pv 0) pe_int set_list))
      (pss_one (ps_if (pt_cmpR op_lt (pv 2) pe_int (nomark _))
        (pss_one (ps_asg (pe_call G_law_spread hr (by rfl) g_law_spread k_law_spread b_law_spread .nil pass0 (pa_cons (pv 2) pa_nil)) (pg_sub (pv 0) pe_int set_list)))
        pss_nil)))))
      pss_nil)
    (pss_cons (ps_asg (pe_op op_add (pe_ix ix_list (pv 0) pe_int (fun _ _ => rfl)) pe_int) (pg_sub (pv 0) pe_int set_list))
    (pss_cons (ps_if (pt_cmpR op_le (pe_ix ix_list (pv 0) pe_int (fun _ _ => rfl)) pe_int (nomark _))
      (pss_cons (ps_set (i := 3) sc_law_draw.nd rfl (.inl rfl) (pe_op op_mod (pe_callTy call_int1 (by rfl) T.int (by decide +kernel) (pa_cons (pe_op op_add (pe_op op_add (pe_op op_mul (pe_ix ix_list (pv 0) pe_int (fun _ _ => rfl)) pe_int) (pe_op op_mul (pe_ix ix_list (pv 0) pe_int (fun _ _ => rfl)) pe_int)) pe_int) pa_nil)) pe_int))
      (pss_cons (ps_set (i := 3) sc_law_draw.nd rfl (.inl rfl) (pe_op op_mod (pe_callTy call_int1 (by rfl) T.int (by decide +kernel) (pa_cons (pe_op op_add (pe_op op_mul (pv 3) pe_int) (pe_ix ix_list (pv 0) pe_int (fun _ _ => rfl))) pa_nil)) pe_int))
      (pss_one (ps_ret (pe_op op_mod (pe_op op_fdiv (pv 3) pe_int) (pv 1))))))
      pss_nil)
    (pss_cons (ps_set (i := 4) sc_law_draw.nd rfl (.inl rfl) (pe_op op_mod (pe_callTy call_int1 (by rfl) T.int (by decide +kernel) (pa_cons (pe_ix ix_list (pv 0) pe_int (fun _ _ => rfl)) pa_nil)) (pv 1)))
    (pss_cons (ps_asg (pe_op op_fdivW (pe_ix ix_list (pv 0) pe_int (fun _ _ => rfl)) (pv 1)) (pg_sub (pv 0) pe_int set_list))
    (pss_one (ps_ret (pv 4)))))))), ?_⟩
    obtain ⟨ns, i, c, k, s5, hl, ha, hn⟩ := hp
    have hap : a ≠ p := hid_neq ha
    have haH := hid_get ha
    -- the pool as it stands after writes
    have pk : ∀ (i' : Nat) (c' k' s' : Int), PoolOk p a (upd H p (.lst [.ref a, .int i', .int c', .int k', .int s'])) := fun i' c' k' s' =>
      ⟨ns, i', c', k', s', upd_same, by rw [hid_upd]; exact ha, hn⟩
    refine ⟨fun σ H' => ∃ (i' : Nat) (c' k' s' : Int) (o1 : Option V), σ = [some (.ref p), some (.int n), o1, none, none] ∧ H' p = some (.lst [.ref a, .int i', .int c', .int k', .int s']) ∧ (∀ o, upd H' p o = upd H p o), ?_, ?_⟩
    · refine ⟨_, rfl, _, _, _, _, rfl, rfl, SqL.of hl, atI_nat (j := 2) rfl, _, _, rfl, rfl, _, rfl, ite2 (fun e1 => ?_) (fun e1 => ?_)⟩
      · refine ⟨_, rfl, _, _, _, _, rfl, rfl, SqL.of hl, atI_nat (j := 1) rfl, _, rfl, _, _, _, _, rfl, rfl, SqL.of hl, atI_nat (j := 0) rfl, _, _, rfl, .inl (SqL.of haH), _, _, rfl, rfl, _, rfl, ite2 (fun e2 => ?_) (fun e2 => ?_)⟩
        · have hi : i < (ns.map V.int).length := by have := of_decide_eq_true e2; omega
          have hi' : i < ns.length := by rw [List.length_map] at hi; exact hi
          have gi : (ns.map V.int)[i]? = some (.int ns[i]) := by rw [List.getElem?_map, List.getElem?_eq_getElem hi']; rfl
          refine ⟨_, rfl, _, _, _, _, rfl, rfl, SqL.of hl, atI_nat (j := 0) rfl, _, rfl, _, _, _, _, rfl, rfl, SqL.of hl, atI_nat (j := 1) rfl, _, _, _, _, rfl, rfl, SqL.of haH, atI_nat gi, ?_⟩
          refine ⟨_, rfl, _, _, _, _, rfl, rfl, SqL.of hl, atI_nat (j := 1) rfl, _, _, rfl, rfl, _, rfl, _, _, _, 1, rfl, rfl, hl, rfl, ?_⟩
          refine ⟨_, rfl, _, rfl, _, _, _, 2, rfl, rfl, upd_same, rfl, ?_⟩
          refine ⟨_, rfl, _, _, rfl, rfl, _, rfl, ite2 (fun e3 => ?_) (fun e3 => ?_)⟩
          · refine ⟨_, rfl, _, rfl, fun v => ⟨_, rfl, _, _, _, 2, rfl, rfl, upd_same, rfl, ?_⟩⟩
            exact ⟨i + 1, v, k, s5, _, rfl, upd_same, fun o => by rw [upd_upd, upd_upd, upd_upd]⟩
          · exact ⟨i + 1, ns[i], k, s5, _, rfl, upd_same, fun o => by rw [upd_upd, upd_upd]⟩
        · exact ⟨i, c, k, s5, _, rfl, hl, fun _ => rfl⟩
      · exact iteF ⟨i, c, k, s5, _, rfl, hl, fun _ => rfl⟩
    · rintro σ H' ⟨i, c, k, s5, o1, rfl, hl', hu⟩
      refine ⟨_, rfl, _, _, _, _, rfl, rfl, SqL.of hl', atI_nat (j := 3) rfl, _, _, rfl, rfl, _, rfl, _, _, _, 3, rfl, rfl, hl', rfl, ?_⟩
      refine ⟨_, rfl, _, _, _, _, rfl, rfl, SqL.of upd_same, atI_nat (j := 2) rfl, _, _, rfl, rfl, _, rfl, ite2 (fun e1 => ?_) (fun e1 => ?_)⟩
      · refine ⟨_, rfl, _, _, _, _, rfl, rfl, SqL.of upd_same, atI_nat (j := 4) rfl, _, _, rfl, rfl, .inr ⟨by decide, by decide⟩, _, rfl, _, _, _, _, rfl, rfl, SqL.of upd_same, atI_nat (j := 3) rfl, _, _, rfl, rfl, .inr ⟨by decide, by decide⟩, _, _, rfl, rfl, _, _, rfl, rfl, .inl ⟨_, rfl, _, _, rfl, rfl, (by show (0 : Int) < 2147483647; decide), ?_⟩⟩
        refine ⟨_, rfl, _, _, rfl, rfl, .inr ⟨by decide, by decide⟩, _, rfl, _, _, _, _, rfl, rfl, SqL.of upd_same, atI_nat (j := 3) rfl, _, _, rfl, rfl, .inl ⟨_, rfl, _, _, rfl, rfl, (by show (0 : Int) < 2147483629; decide), ?_⟩⟩
        refine ⟨_, rfl, _, _, rfl, rfl, ⟨by decide, by decide⟩, _, rfl, _, _, rfl, rfl, n0, ?_⟩
        show Q _ _
        rw [hu]
        exact q _ _ (Int.emod_nonneg _ (by omega)) (Int.emod_lt_of_pos _ n0) (pk i c (k + 1) s5)
      · refine ⟨_, rfl, _, _, _, _, rfl, rfl, SqL.of upd_same, atI_nat (j := 2) rfl, .inl ⟨_, rfl, _, rfl, _, _, rfl, rfl, n0, ?_⟩⟩
        refine ⟨_, rfl, _, _, _, _, rfl, rfl, SqL.of upd_same, atI_nat (j := 2) rfl, _, rfl, _, _, rfl, rfl, ⟨n0, n9⟩, _, rfl, _, _, _, 2, rfl, rfl, upd_same, rfl, _, rfl, ?_⟩
        show Q _ _
        rw [upd_upd, hu]
        exact q _ _ (Int.emod_nonneg _ (by omega)) (Int.emod_lt_of_pos _ n0) (pk i (c / n) (k + 1) s5)
/-- the same, the heap behind it a letter -/
def spDrawX : Sp := fun vs H Q _ => ∃ (p a : Addr) (n : Int), vs = [.ref p, .int n] ∧ 0 < n ∧ n ≤ 2 ^ 70 ∧ PoolOk p a H ∧ ∀ (v : Nat) (H' : Hp), (v : Int) < n → Px p a H H' → (∀ b, b ≠ p → H' b = H b) → Q (.int v) H'
theorem log2_small {n : Int} (h0 : 0 < n) (h : n ≤ 2 ^ 70) : n.natAbs.log2 < 9000 := by
  have h1 : n.natAbs < 2 ^ 71 := by omega
  have := PySem.Flt.log2_lt_of (by decide : 0 < 71) h1
  omega
theorem drawX (C : Has P w K mg base 2 "_law_draw" ["pool", "many"] spDraw) : Has P w K mg base 2 "_law_draw" ["pool", "many"] spDrawX :=
  C.imp fun vs H Q E h => by
    obtain ⟨p, a, n, rfl, h0, h1, hp, q⟩ := h
    refine ⟨p, a, n, rfl, h0, log2_small h0 h1, hp, fun v o v0 v1 hq => ?_⟩
    have e : v = ((v.toNat : Nat) : Int) := by omega
    rw [e]
    exact q v.toNat _ (by omega) (Px.draw hp hq) fun b hb => upd_ne hb
end
end G
namespace G
open PySem PySem.Spec PyProof.Rows L2 Evl
section
variable {P : Program} {w : World} {K : PySem.W.Frag} {mg : Str → Option Value} {base : Heap}
theorem cutV_mem {xs : List V} {lo hi : Option Int} {i : Nat} {x : V} (h : (cutV xs lo hi)[i]? = some x) : x ∈ xs := by
  unfold cutV at h
  exact List.mem_of_mem_drop (List.mem_of_mem_take (List.mem_of_getElem? h))
theorem int_of {ns : List Int} {x : V} (h : x ∈ ns.map V.int) : ∃ z, x = .int z := by
  obtain ⟨z, _, e⟩ := List.mem_map.mp h
  exact ⟨z, e.symm⟩
def spPool (K : PySem.W.Frag) : Sp := fun vs H Q _ => ∃ (s : Addr) (ns : List Int), vs = [.ref s] ∧ SqL K H s (ns.map V.int) ∧ ns.length ≤ 1000 ∧ ∀ (p a : Addr) (H' : Hp), PoolOk p a H' → Ex H H' → H p = none → Q (.ref p) H'
theorem sc_law_pool : FnScope ["script", "salt", "cell"] ["script"] (defScope s_law_pool) := ⟨rfl, rfl, rfl, by decide +kernel, rfl, by decide +kernel, by decide +kernel⟩
theorem ok_law_pool (D : Dfd K mg "_law_pool" s_law_pool ["script"]) (T : TxtL mg) : Has P w K mg base 1 "_law_pool" ["script"] (spPool K) := by
  refine D.has fun f fd F => F.ok sc_law_pool (fun vs H Q E h => ?_) (fun cdv A outer s H vs Q E hr h => ?_)
  · obtain ⟨c, _, rfl, _⟩ := h
    rfl
  · obtain ⟨sa, ns, rfl, hs, hn, q⟩ := h
    refine ⟨_, (pss_cons (ps_set (i := 1) sc_law_pool.nd rfl (.inl rfl) pe_int)
      (pss_cons (ps_for PassesOwn.never rfl (pi_list (pe_slice sl_list (pv 0) po_none (po_some pe_int))) (pg_name (i := 2) sc_law_pool.nd rfl (.inl rfl))
        (pss_one (ps_set (i := 1) sc_law_pool.nd rfl (.inl rfl) (pe_op op_mod (pe_callTy call_int1 (by rfl) T.int (by decide +kernel) (pa_cons (pe_op op_add (pe_op op_mul (pv 1) pe_int) (pv 2)) pa_nil)) pe_int))))
      (pss_one (ps_ret (pe_lst (pa_cons (pe_callTy call_list_of (by rfl) T.list (by decide +kernel) (pa_cons (pv 0) pa_nil)) (pa_cons pe_int (pa_cons pe_int (pa_cons pe_int (pa_cons (pv 1) pa_nil)))))))))), ?_⟩
    refine ⟨_, rfl, _, rfl, sa, _, rfl, hs, fun c nc => ⟨c, rfl, ⟨_, SqL.of upd_same⟩, for_list (K := K) (a := c) (xs := cutV (ns.map V.int) none (some 63)) (fun _ σ H' => H' = upd H c (.lst (cutV (ns.map V.int) none (some 63))) ∧ ∃ (x : Int) (z : Option V), σ = [some (.ref sa), some (.int x), z]) ⟨rfl, _, _, rfl⟩ ?_ ?_ ?_⟩⟩
    · rintro i σ H' _ ⟨rfl, _⟩
      exact SqL.of upd_same
    · rintro i x σ H' hi ⟨rfl, y, z, rfl⟩
      obtain ⟨m, rfl⟩ := int_of (cutV_mem hi)
      exact ⟨_, rfl, _, _, rfl, rfl, .inr ⟨by decide, by decide⟩, _, rfl, _, _, rfl, rfl, .inl ⟨_, rfl, _, _, rfl, rfl, (by show (0 : Int) < 1000003; decide), rfl, _, _, rfl⟩⟩
    · rintro σ H' ⟨rfl, y, z, rfl⟩
      have e1 : Ex H (upd H c (.lst (cutV (ns.map V.int) none (some 63)))) := Ex.new nc
      refine ⟨_, rfl, _, _, rfl, .inl (ex_l e1 hs), fun l nl => ⟨_, rfl, (by show 5 ≤ sizeLine; decide), fun p np => ?_⟩⟩
      have e2 := e1.trans (Ex.new (o := .lst (ns.map V.int)) nl)
      have npl : l ≠ p := ne_of_none upd_same np
      exact q p l _ ⟨ns, 0, 0, 0, y, upd_same, by rw [hid_ne npl, upd_ne npl]; exact upd_same, hn⟩ (e2.trans (Ex.new np)) (fresh_back e2 np)
end
end G
namespace G
open PySem PySem.Spec PyProof.Rows L2 Evl
/-! ## data -/
inductive D where
  | non | bl (b : Bool) | int (i : Int) | str (s : Str) | tup (l : List D) | lst (l : List D)
def okD : Nat → D → Prop
  | 0, .tup _ => False
  | 0, .lst _ => False
  | n + 1, .tup l => l.length < 2 ^ 61 ∧ ∀ d ∈ l, okD n d
  | n + 1, .lst l => l.length < 2 ^ 61 ∧ ∀ d ∈ l, okD n d
  | _, _ => True
inductive Rep (H : Hp) : V → D → Prop where
  | non : Rep H .non .non
  | bl (b : Bool) : Rep H (.bl b) (.bl b)
  | int (i : Int) : Rep H (.int i) (.int i)
  | str (s : Str) : Rep H (.str s) (.str s)
  | tup {a : Addr} {xs : List V} {ds : List D} (h : H a = some (.tup xs)) (hl : xs.length = ds.length) (hr : ∀ (i : Nat) (x : V) (d : D), xs[i]? = some x → ds[i]? = some d → Rep H x d) : Rep H (.ref a) (.tup ds)
  | lst {a : Addr} {xs : List V} {ds : List D} (h : H a = some (.lst xs)) (hl : xs.length = ds.length) (hr : ∀ (i : Nat) (x : V) (d : D), xs[i]? = some x → ds[i]? = some d → Rep H x d) : Rep H (.ref a) (.lst ds)
theorem Rep.ex {H H' : Hp} (e : Ex H H') {x : V} {d : D} (r : Rep H x d) : Rep H' x d := by
  induction r with
  | non => exact .non
  | bl b => exact .bl b
  | int i => exact .int i
  | str s => exact .str s
  | tup h hl _ ih => exact .tup (e _ _ h) hl ih
  | lst h hl _ ih => exact .lst (e _ _ h) hl ih
theorem okD.mono : ∀ {n m : Nat} {d : D}, n ≤ m → okD n d → okD m d
  | 0, 0, d, _, h => h
  | 0, m + 1, .non, _, _ => trivial
  | 0, m + 1, .bl _, _, _ => trivial
  | 0, m + 1, .int _, _, _ => trivial
  | 0, m + 1, .str _, _, _ => trivial
  | 0, m + 1, .tup _, _, h => h.elim
  | 0, m + 1, .lst _, _, h => h.elim
  | n + 1, m + 1, .non, _, _ => trivial
  | n + 1, m + 1, .bl _, _, _ => trivial
  | n + 1, m + 1, .int _, _, _ => trivial
  | n + 1, m + 1, .str _, _, _ => trivial
  | n + 1, m + 1, .tup l, le, h => ⟨h.1, fun d hd => okD.mono (Nat.le_of_succ_le_succ le) (h.2 d hd)⟩
  | n + 1, m + 1, .lst l, le, h => ⟨h.1, fun d hd => okD.mono (Nat.le_of_succ_le_succ le) (h.2 d hd)⟩
structure TxtS (mg : Str → Option Value) : Prop where
  isinstance : mg "isinstance" = none
  tuple : mg "tuple" = none
  list : mg "list" = none
  len : mg "len" = none
  range : mg "range" = none
  bool : mg "bool" = none
  int : mg "int" = none
  str : mg "str" = none
section
variable {P : Program} {w : World} {K : PySem.W.Frag} {mg : Str → Option Value} {base : Heap}
/-- equal data: the answer is True -/
def spSame : Nat → Sp
  | 0 => fun _ _ _ _ => False
  | n + 1 => fun vs H Q _ => ∃ (x y : V) (d : D), vs = [x, y] ∧ Rep H x d ∧ Rep H y d ∧ okD n d ∧ Q (.bl true) H
theorem sc_law_same : FnScope ["actual", "due", "k"] ["actual", "due"] (defScope s_law_same) := ⟨rfl, rfl, rfl, by decide +kernel, rfl, by decide +kernel, by decide +kernel⟩
theorem fn_law_same {f : Addr} {fd : FuncData} (F : Fun K "_law_same" "_law_same" s_law_same f fd) (g_law_same : mg "_law_same" = some (.ref f)) (b_law_same : Binds K fd ["actual", "due"] []) (T : TxtS mg) : ∀ n, FnOk P w K mg base CX0 n f fd ["actual", "due"] (spSame n)
  | 0 => ⟨fun _ _ _ _ h => h.elim, fun _ _ _ _ _ _ _ _ _ _ _ _ _ h => h.elim⟩
  | n + 1 => by
    have G_law_same := fn_law_same F g_law_same b_law_same T n
    have k_law_same := F.kp
    refine F.ok sc_law_same (fun vs H Q E h => ?_) (fun cdv A outer s H vs Q E hr h => ?_)
    · obtain ⟨x, y, d, rfl, _⟩ := h
      rfl
    · obtain ⟨x, y, d, rfl, rx, ry, hd, q⟩ := h
      refine ⟨_, (pss_cons (ps_if (PW.pt (pw_or (pt_val (pe_callB call_isi (by rfl) T.isinstance (by decide +kernel) (pa_cons (pv 1) (pa_cons (pe_bltn (v := .ty "tuple") (by rfl) T.tuple (by decide +kernel) rfl) pa_nil)))) (pw_or1 (pt_val (pe_callB call_isi (by rfl) T.isinstance (by decide +kernel) (pa_cons (pv 1) (pa_cons (pe_bltn (v := .ty "list") (by rfl) T.list (by decide +kernel) rfl) pa_nil)))))))
      (pss_cons (ps_if (PW.pt (pw_or (pt_cmpR op_ne (pe_callB call_isi (by rfl) T.isinstance (by decide +kernel) (pa_cons (pv 1) (pa_cons (pe_bltn (v := .ty "tuple") (by rfl) T.tuple (by decide +kernel) rfl) pa_nil))) (pe_callB call_isi (by rfl) T.isinstance (by decide +kernel) (pa_cons (pv 0) (pa_cons (pe_bltn (v := .ty "tuple") (by rfl) T.tuple (by decide +kernel) rfl) pa_nil))) (nomark _)) (pw_or1 (pt_cmpR op_ne (pe_callB call_isi (by rfl) T.isinstance (by decide +kernel) (pa_cons (pv 1) (pa_cons (pe_bltn (v := .ty "list") (by rfl) T.list (by decide +kernel) rfl) pa_nil))) (pe_callB call_isi (by rfl) T.isinstance (by decide +kernel) (pa_cons (pv 0) (pa_cons (pe_bltn (v := .ty "list") (by rfl) T.list (by decide +kernel) rfl) pa_nil))) (nomark _)))))
        (pss_one (ps_ret pe_bl))
        pss_nil)
      (pss_cons (ps_if (pt_cmpR op_ne (pe_callB call_len_seq (by rfl) T.len (by decide +kernel) (pa_cons (pv 0) pa_nil)) (pe_callB call_len_seq (by rfl) T.len (by decide +kernel) (pa_cons (pv 1) pa_nil)) (nomark _))
        (pss_one (ps_ret pe_bl))
        pss_nil)
      (pss_cons (ps_for PassesOwn.never rfl (pi_range1 rfl T.range (pa_cons (pe_callB call_len_seq (by rfl) T.len (by decide +kernel) (pa_cons (pv 1) pa_nil)) pa_nil)) (pg_name (i := 2) sc_law_same.nd rfl (.inl rfl))
        (pss_one (ps_if (pt_not (pt_val (pe_call G_law_same hr (by rfl) g_law_same k_law_same b_law_same .nil pass0 (pa_cons (pe_ix ix_seq (pv 0) (pv 2) (fun _ _ => rfl)) (pa_cons (pe_ix ix_seq (pv 1) (pv 2) (fun _ _ => rfl)) pa_nil)))))
          (pss_one (ps_ret pe_bl))
          pss_nil)))
      (pss_one (ps_ret pe_bl)))))
      pss_nil)
    (pss_cons (ps_if (pt_cmpR op_isN (pv 1) pe_non (nomark _))
      (pss_one (ps_ret (pe_cmpR op_isN (pv 0) pe_non (nomark _))))
      pss_nil)
    (pss_cons (ps_if (pt_val (pe_callB call_isi (by rfl) T.isinstance (by decide +kernel) (pa_cons (pv 1) (pa_cons (pe_bltn (v := .ty "bool") (by rfl) T.bool (by decide +kernel) rfl) pa_nil))))
      (pss_one (ps_ret (pe_and (pe_callB call_isi (by rfl) T.isinstance (by decide +kernel) (pa_cons (pv 0) (pa_cons (pe_bltn (v := .ty "bool") (by rfl) T.bool (by decide +kernel) rfl) pa_nil))) (pe_one (pe_cmpR op_eq (pv 0) (pv 1) (nomark _))))))
      pss_nil)
    (pss_cons (ps_if (pt_val (pe_callB call_isi (by rfl) T.isinstance (by decide +kernel) (pa_cons (pv 1) (pa_cons (pe_bltn (v := .ty "int") (by rfl) T.int (by decide +kernel) rfl) pa_nil))))
      (pss_one (ps_ret (pe_and (pe_callB call_isi (by rfl) T.isinstance (by decide +kernel) (pa_cons (pv 0) (pa_cons (pe_bltn (v := .ty "int") (by rfl) T.int (by decide +kernel) rfl) pa_nil))) (pe_and (pe_not (pe_callB call_isi (by rfl) T.isinstance (by decide +kernel) (pa_cons (pv 0) (pa_cons (pe_bltn (v := .ty "bool") (by rfl) T.bool (by decide +kernel) rfl) pa_nil)))) (pe_one (pe_cmpR op_eq (pv 0) (pv 1) (nomark _)))))))
      pss_nil)
    (pss_one (ps_ret (pe_and (pe_callB call_isi (by rfl) T.isinstance (by decide +kernel) (pa_cons (pv 0) (pa_cons (pe_bltn (v := .ty "str") (by rfl) T.str (by decide +kernel) rfl) pa_nil))) (pe_one (pe_cmpR op_eq (pv 0) (pv 1) (nomark _)))))))))), ?_⟩
      cases rx with
      | non =>
        cases ry
        refine ⟨_, rfl, _, _, _, _, _, rfl, .ty "tuple", .base .non, kit_ty (a := "NoneType") (r := false) (by decide +kernel), _, rfl, iteF ⟨_, rfl, _, _, _, _, _, rfl, .ty "list", .base .non, kit_ty (a := "NoneType") (r := false) (by decide +kernel), _, rfl, iteF ⟨_, rfl, rfl, _, rfl, iteT ⟨_, rfl, rfl, ?_⟩⟩⟩⟩
        exact q
      | bl b =>
        cases ry
        refine ⟨_, rfl, _, _, _, _, _, rfl, .ty "tuple", .base (.bl _), kit_ty (a := "bool") (r := false) (by decide +kernel), _, rfl, iteF ⟨_, rfl, _, _, _, _, _, rfl, .ty "list", .base (.bl _), kit_ty (a := "bool") (r := false) (by decide +kernel), _, rfl, iteF ⟨_, rfl, rfl, _, rfl, iteF ⟨_, rfl, _, _, _, _, _, rfl, .ty "bool", .base (.bl _), kit_ty (a := "bool") (r := true) (by decide +kernel), _, rfl, iteT ⟨_, rfl, _, _, _, _, _, rfl, .ty "bool", .base (.bl _), kit_ty (a := "bool") (r := true) (by decide +kernel), _, rfl, iteT ⟨_, rfl, _, rfl, rfl, ?_⟩⟩⟩⟩⟩⟩
        rw [decide_eq_true rfl]
        exact q
      | int b =>
        cases ry
        refine ⟨_, rfl, _, _, _, _, _, rfl, .ty "tuple", .base (.int _), kit_ty (a := "int") (r := false) (by decide +kernel), _, rfl, iteF ⟨_, rfl, _, _, _, _, _, rfl, .ty "list", .base (.int _), kit_ty (a := "int") (r := false) (by decide +kernel), _, rfl, iteF ⟨_, rfl, rfl, _, rfl, iteF ⟨_, rfl, _, _, _, _, _, rfl, .ty "bool", .base (.int _), kit_ty (a := "int") (r := false) (by decide +kernel), _, rfl, iteF ⟨_, rfl, _, _, _, _, _, rfl, .ty "int", .base (.int _), kit_ty (a := "int") (r := true) (by decide +kernel), _, rfl, iteT ⟨_, rfl, _, _, _, _, _, rfl, .ty "int", .base (.int _), kit_ty (a := "int") (r := true) (by decide +kernel), _, rfl, iteT ⟨_, rfl, _, _, _, _, _, rfl, .ty "bool", .base (.int _), kit_ty (a := "int") (r := false) (by decide +kernel), _, rfl, _, rfl, iteT ⟨_, rfl, _, rfl, rfl, ?_⟩⟩⟩⟩⟩⟩⟩⟩
        rw [decide_eq_true rfl]
        exact q
      | str b =>
        cases ry
        refine ⟨_, rfl, _, _, _, _, _, rfl, .ty "tuple", .base (.str _), kit_ty (a := "str") (r := false) (by decide +kernel), _, rfl, iteF ⟨_, rfl, _, _, _, _, _, rfl, .ty "list", .base (.str _), kit_ty (a := "str") (r := false) (by decide +kernel), _, rfl, iteF ⟨_, rfl, rfl, _, rfl, iteF ⟨_, rfl, _, _, _, _, _, rfl, .ty "bool", .base (.str _), kit_ty (a := "str") (r := false) (by decide +kernel), _, rfl, iteF ⟨_, rfl, _, _, _, _, _, rfl, .ty "int", .base (.str _), kit_ty (a := "str") (r := false) (by decide +kernel), _, rfl, iteF ⟨_, rfl, _, _, _, _, _, rfl, .ty "str", .base (.str _), kit_ty (a := "str") (r := true) (by decide +kernel), _, rfl, iteT ⟨_, rfl, _, rfl, rfl, ?_⟩⟩⟩⟩⟩⟩⟩
        rw [decide_eq_true rfl]
        exact q
      | @tup a xs ds hx lx rx =>
        cases ry with
        | @tup b ys _ hy ly ry =>
          cases n with
          | zero => exact hd.elim
          | succ m =>
            obtain ⟨hlen, hall⟩ := hd
            refine ⟨_, rfl, _, _, _, _, _, rfl, .ty "tuple", .base (.tup hy), kit_ty (a := "tuple") (r := true) (by decide +kernel), _, rfl, iteT (iteT ⟨_, rfl, _, _, _, _, _, rfl, .ty "tuple", .base (.tup hy), kit_ty (a := "tuple") (r := true) (by decide +kernel), _, rfl, _, _, _, _, _, rfl, .ty "tuple", .base (.tup hx), kit_ty (a := "tuple") (r := true) (by decide +kernel), rfl, _, rfl, iteF ⟨_, rfl, _, _, _, _, _, rfl, .ty "list", .base (.tup hy), kit_ty (a := "tuple") (r := false) (by decide +kernel), _, rfl, _, _, _, _, _, rfl, .ty "list", .base (.tup hx), kit_ty (a := "tuple") (r := false) (by decide +kernel), rfl, _, rfl, iteF ⟨_, rfl, _, _, rfl, .inr (SqT.of hx), _, rfl, _, _, rfl, .inr (SqT.of hy), rfl, _, rfl, ?_⟩⟩⟩)⟩
            have el : decide (V.int (xs.length : Int) = V.int (ys.length : Int)) = true := decide_eq_true (by rw [lx, ly])
            rw [el]
            refine ⟨_, rfl, _, _, rfl, .inr (SqT.of hy), _, rfl, by omega, by omega, for_range (n := (ys.length : Int).toNat) (fun _ σ H' => H' = H ∧ ∃ z : Option V, σ = [some (.ref a), some (.ref b), z]) ⟨rfl, _, rfl⟩ ?_ ?_⟩
            · rintro i σ H' hi ⟨rfl, z, rfl⟩
              have hi' : i < ds.length := by omega
              have e0 : (0 : Int) + (i : Int) = (i : Int) := Int.zero_add _
              have g1 : xs[i]? = some xs[i] := List.getElem?_eq_getElem (by omega)
              have g2 : ys[i]? = some ys[i] := List.getElem?_eq_getElem (by omega)
              have g3 : ds[i]? = some ds[i] := List.getElem?_eq_getElem hi'
              rw [e0]
              refine ⟨_, rfl, _, rfl, .inr (.inl ⟨_, _, _, _, rfl, rfl, SqT.of hx, atI_nat g1, _, rfl, _, rfl, .inr (.inl ⟨_, _, _, _, rfl, rfl, SqT.of hy, atI_nat g2, ?_⟩)⟩)⟩
              exact ⟨_, _, ds[i], rfl, rx i _ _ g1 g3, ry i _ _ g2 g3, hall _ (List.getElem_mem hi'), _, rfl, rfl, _, rfl⟩
            · rintro σ H' ⟨rfl, z, rfl⟩
              exact q
      | @lst a xs ds hx lx rx =>
        cases ry with
        | @lst b ys _ hy ly ry =>
          cases n with
          | zero => exact hd.elim
          | succ m =>
            obtain ⟨hlen, hall⟩ := hd
            refine ⟨_, rfl, _, _, _, _, _, rfl, .ty "tuple", .base (.lst hy), kit_ty (a := "list") (r := false) (by decide +kernel), _, rfl, iteF ⟨_, rfl, _, _, _, _, _, rfl, .ty "list", .base (.lst hy), kit_ty (a := "list") (r := true) (by decide +kernel), _, rfl, iteT ⟨_, rfl, _, _, _, _, _, rfl, .ty "tuple", .base (.lst hy), kit_ty (a := "list") (r := false) (by decide +kernel), _, rfl, _, _, _, _, _, rfl, .ty "tuple", .base (.lst hx), kit_ty (a := "list") (r := false) (by decide +kernel), rfl, _, rfl, iteF ⟨_, rfl, _, _, _, _, _, rfl, .ty "list", .base (.lst hy), kit_ty (a := "list") (r := true) (by decide +kernel), _, rfl, _, _, _, _, _, rfl, .ty "list", .base (.lst hx), kit_ty (a := "list") (r := true) (by decide +kernel), rfl, _, rfl, iteF ⟨_, rfl, _, _, rfl, .inl (SqL.of hx), _, rfl, _, _, rfl, .inl (SqL.of hy), rfl, _, rfl, ?_⟩⟩⟩⟩⟩
            have el : decide (V.int (xs.length : Int) = V.int (ys.length : Int)) = true := decide_eq_true (by rw [lx, ly])
            rw [el]
            refine ⟨_, rfl, _, _, rfl, .inl (SqL.of hy), _, rfl, by omega, by omega, for_range (n := (ys.length : Int).toNat) (fun _ σ H' => H' = H ∧ ∃ z : Option V, σ = [some (.ref a), some (.ref b), z]) ⟨rfl, _, rfl⟩ ?_ ?_⟩
            · rintro i σ H' hi ⟨rfl, z, rfl⟩
              have hi' : i < ds.length := by omega
              have e0 : (0 : Int) + (i : Int) = (i : Int) := Int.zero_add _
              have g1 : xs[i]? = some xs[i] := List.getElem?_eq_getElem (by omega)
              have g2 : ys[i]? = some ys[i] := List.getElem?_eq_getElem (by omega)
              have g3 : ds[i]? = some ds[i] := List.getElem?_eq_getElem hi'
              rw [e0]
              refine ⟨_, rfl, _, rfl, .inl ⟨_, _, _, _, rfl, rfl, SqL.of hx, atI_nat g1, _, rfl, _, rfl, .inl ⟨_, _, _, _, rfl, rfl, SqL.of hy, atI_nat g2, ?_⟩⟩⟩
              exact ⟨_, _, ds[i], rfl, rx i _ _ g1 g3, ry i _ _ g2 g3, hall _ (List.getElem_mem hi'), _, rfl, rfl, _, rfl⟩
            · rintro σ H' ⟨rfl, z, rfl⟩
              exact q
theorem ok_law_same (D : Dfd K mg "_law_same" s_law_same ["actual", "due"]) (T : TxtS mg) (n : Nat) : Has P w K mg base n "_law_same" ["actual", "due"] (spSame n) := by
  obtain ⟨f, fd, F, g, b⟩ := D
  exact ⟨f, fd, fn_law_same F g b T n, g, F.kp, b⟩
end
/-! ## data made of flat lists -/
theorem rep_map {H : Hp} {α : Type} {f : α → V} {g : α → D} {l : List α} (h : ∀ x, Rep H (f x) (g x)) : (l.map f).length = (l.map g).length ∧ ∀ (i : Nat) (x : V) (d : D), (l.map f)[i]? = some x → (l.map g)[i]? = some d → Rep H x d := by
  refine ⟨by rw [List.length_map, List.length_map], fun i x d hx hd => ?_⟩
  rw [List.getElem?_map] at hx hd
  cases e : l[i]? with
  | none => rw [e] at hx; cases hx
  | some y =>
    rw [e] at hx hd
    have e1 : f y = x := Option.some.inj hx
    have e2 : g y = d := Option.some.inj hd
    rw [← e1, ← e2]
    exact h y
theorem rep_ints {H : Hp} {a : Addr} {l : List Int} (h : H a = some (.lst (l.map V.int))) : Rep H (.ref a) (.lst (l.map D.int)) :=
  let r := rep_map (H := H) (f := V.int) (g := D.int) (l := l) fun i => .int i
  .lst h r.1 r.2
theorem rep_bls {H : Hp} {a : Addr} {l : List Bool} (h : H a = some (.tup (l.map V.bl))) : Rep H (.ref a) (.tup (l.map D.bl)) :=
  let r := rep_map (H := H) (f := V.bl) (g := D.bl) (l := l) fun i => .bl i
  .tup h r.1 r.2
theorem okD_ints {l : List Int} (h : l.length < 2 ^ 61) : okD 1 (.lst (l.map D.int)) := ⟨by rw [List.length_map]; exact h, fun d hd => by obtain ⟨_, _, rfl⟩ := List.mem_map.mp hd; trivial⟩
end G
namespace G
open PySem PySem.Spec PyProof.Rows L2 Evl
def bitsOf (x m : Nat) : List Bool := (List.range m).map fun k => x.testBit k
theorem bitsOf_len (x m : Nat) : (bitsOf x m).length = m := by unfold bitsOf; rw [List.length_map, List.length_range]
theorem bitsOf_succ (x m : Nat) : bitsOf x (m + 1) = bitsOf x m ++ [x.testBit m] := by unfold bitsOf; rw [List.range_succ, List.map_append]; rfl
theorem bit_at (x i : Nat) : decide (V.int (((x / 2 ^ i : Nat) : Int) % 2) = V.int 1) = x.testBit i := by
  rw [Nat.testBit_eq_decide_div_mod_eq, Bool.eq_iff_iff, decide_eq_true_iff, decide_eq_true_iff, V.int.injEq]
  omega
theorem half_at (x i : Nat) : ((x / 2 ^ i : Nat) : Int) / 2 = ((x / 2 ^ (i + 1) : Nat) : Int) := by
  rw [Nat.pow_succ, ← Nat.div_div_eq_div_mul]
  omega
section
variable {P : Program} {w : World} {K : PySem.W.Frag} {mg : Str → Option Value} {base : Heap}
def spBits : Sp := fun vs H Q _ => ∃ (x m : Nat), vs = [.int x, .int m] ∧ m ≤ 1000 ∧ ∀ (t : Addr) (H' : Hp), H t = none → Ex H H' → H' t = some (.tup ((bitsOf x m).map V.bl)) → Q (.ref t) H'
theorem sc_law_bits : FnScope ["index", "many", "out", "k"] ["index", "many"] (defScope s_law_bits) := ⟨rfl, rfl, rfl, by decide +kernel, rfl, by decide +kernel, by decide +kernel⟩
theorem ok_law_bits (D : Dfd K mg "_law_bits" s_law_bits ["index", "many"]) (T : TxtS mg) : Has P w K mg base 1 "_law_bits" ["index", "many"] spBits := by
  refine D.has fun f fd F => F.ok sc_law_bits (fun vs H Q E h => ?_) (fun cdv A outer s H vs Q E hr h => ?_)
  · obtain ⟨c, _, rfl, _⟩ := h
    rfl
  · obtain ⟨x, m, rfl, hm, q⟩ := h
    refine ⟨_, (pss_cons (ps_set (i := 2) sc_law_bits.nd rfl (.inl rfl) (pe_lst pa_nil))
    (pss_cons (ps_for PassesOwn.never rfl (pi_range1 rfl T.range (pa_cons (pv 1) pa_nil)) (pg_name (i := 3) sc_law_bits.nd rfl (.inl rfl))
      (pss_cons (ps_expr (pe_bm PySem.F.plainAttrs_list PySem.F.slot_list_append PySem.F.type_list_append mt_append (pv 2) (pa_cons (pe_cmpR op_eq (pe_op op_mod (pe_callTy call_int1 (by rfl) T.int (by decide +kernel) (pa_cons (pv 0) pa_nil)) pe_int) pe_int (nomark _)) pa_nil)))
      (pss_one (ps_set (i := 0) sc_law_bits.nd rfl (.inl rfl) (pe_op op_fdiv (pv 0) pe_int)))))
    (pss_one (ps_ret (pe_callTy call_tuple_of (by rfl) T.tuple (by decide +kernel) (pa_cons (pv 2) pa_nil)))))), ?_⟩
    refine ⟨Nat.zero_le _, fun o no => ⟨_, rfl, _, rfl, by omega, by omega, for_range (n := ((m : Int)).toNat) (fun i σ H' => H' = upd H o (.lst ((bitsOf x i).map V.bl)) ∧ ∃ z : Option V, σ = [some (.int ((x / 2 ^ i : Nat) : Int)), some (.int m), some (.ref o), z]) ⟨rfl, _, by rw [Nat.pow_zero, Nat.div_one]; rfl⟩ ?_ ?_⟩⟩
    · rintro i σ H' hi ⟨rfl, z, rfl⟩
      refine ⟨_, rfl, .inl ⟨rfl, _, SqL.of upd_same⟩, _, rfl, .inl ⟨_, rfl, _, _, rfl, rfl, (by show (0 : Int) < 2; decide), rfl, o, _, _, rfl, rfl, upd_same, ?_, _, rfl, _, _, rfl, rfl, ⟨by decide, by decide⟩, ?_, some (.int (0 + (i : Int))), ?_⟩⟩
      · exact sz_lt (by rw [List.length_map, bitsOf_len]; omega)
      · rw [upd_upd, bit_at, bitsOf_succ, List.map_append]; rfl
      · rw [← half_at]; rfl
    · rintro σ H' ⟨rfl, z, rfl⟩
      refine ⟨_, rfl, _, _, rfl, .inl ⟨SqL.of upd_same, fun t nt => ?_⟩⟩
      have e1 : Ex H (upd H o (.lst ((bitsOf x ((m : Int)).toNat).map V.bl))) := Ex.new no
      exact q t _ (fresh_back e1 nt) (e1.trans (Ex.new nt)) upd_same
end
end G
namespace G
open PySem PySem.Spec PyProof.Rows L2 Evl
theorem pow7 : ∀ {m : Nat}, m ≤ 6 → ([.int 1, .int 2, .int 4, .int 8, .int 16, .int 32, .int 64] : List V)[m]? = some (.int ((2 ^ m : Nat) : Int))
  | 0, _ => rfl | 1, _ => rfl | 2, _ => rfl | 3, _ => rfl | 4, _ => rfl | 5, _ => rfl | 6, _ => rfl
  | n + 7, h => by omega
theorem pow6 : ∀ {m : Nat}, m ≤ 5 → ([.int 1, .int 2, .int 4, .int 8, .int 16, .int 32] : List V)[m]? = some (.int ((2 ^ m : Nat) : Int))
  | 0, _ => rfl | 1, _ => rfl | 2, _ => rfl | 3, _ => rfl | 4, _ => rfl | 5, _ => rfl
  | n + 6, h => by omega
theorem pow_le64 {m : Nat} (h : m ≤ 6) : 2 ^ m ≤ 64 := Nat.le_trans (Nat.pow_le_pow_right (by decide) h) (by decide)
theorem pow_pos2 (m : Nat) : 0 < 2 ^ m := Nat.pow_pos (by decide)
theorem divW_small {i : Int} {j : Nat} (h : 0 < j) (h9 : j ≤ 1000) : CDivW i (j : Int) := wide_div (b := 20) (by omega) (by
  rw [Int.natAbs_natCast]
  exact Nat.lt_of_le_of_lt h9 (by decide)) (by decide) (by decide)
section
variable {P : Program} {w : World} {K : PySem.W.Frag} {mg : Str → Option Value} {base : Heap}
/-- a table of m inputs -/
def spTable : Sp := fun vs H Q _ => ∃ (p a : Addr) (m : Nat), vs = [.ref p, .int m] ∧ m ≤ 6 ∧ PoolOk p a H ∧ ∀ (t : Addr) (bs : List Bool) (H' : Hp), bs.length = 2 ^ m → Px p a H H' → H t = none → H' t = some (.tup (bs.map V.bl)) → Q (.ref t) H'
theorem sc_law_table : FnScope ["pool", "many", "size", "kind", "value", "low", "place", "number", "bit", "k"] ["pool", "many"] (defScope s_law_table) := ⟨rfl, rfl, rfl, by decide +kernel, rfl, by decide +kernel, by decide +kernel⟩
theorem ok_law_table (D : Dfd K mg "_law_table" s_law_table ["pool", "many"]) (T : TxtS mg) (C : Has P w K mg base 2 "_law_draw" ["pool", "many"] spDrawX) (C2 : Has P w K mg base 1 "_law_bits" ["index", "many"] spBits) : Has P w K mg base 3 "_law_table" ["pool", "many"] spTable := by
  obtain ⟨f_law_draw, d_law_draw, G_law_draw, g_law_draw, k_law_draw, b_law_draw⟩ := C
  obtain ⟨f_law_bits, d_law_bits, G_law_bits, g_law_bits, k_law_bits, b_law_bits⟩ := C2
  refine D.has fun f fd F => F.ok sc_law_table (fun vs H Q E h => ?_) (fun cdv A outer s H vs Q E hr h => ?_)
  · obtain ⟨c, _, _, rfl, _⟩ := h
    rfl
  · obtain ⟨p, a, m, rfl, hm, hp, q⟩ := h
    have h64 := pow_le64 hm
    have hpos := pow_pos2 m
    refine ⟨_, (pss_cons (ps_set (i := 2) sc_law_table.nd rfl (.inl rfl) (pe_ix ix_list (pe_lst (pa_cons pe_int (pa_cons pe_int (pa_cons pe_int (pa_cons pe_int (pa_cons pe_int (pa_cons pe_int (pa_cons pe_int pa_nil)))))))) (pv 1) (fun _ _ => rfl)))
    (pss_cons (ps_set (i := 3) sc_law_table.nd rfl (.inl rfl) (pe_call G_law_draw hr (by rfl) g_law_draw k_law_draw b_law_draw .nil pass0 (pa_cons (pv 0) (pa_cons pe_int pa_nil))))
    (pss_cons (ps_if (pt_cmpR op_eq (pv 3) pe_int (nomark _))
      (pss_cons (ps_set (i := 4) sc_law_table.nd rfl (.inr rfl) (pe_cmpR op_eq (pe_call G_law_draw hr (by rfl) g_law_draw k_law_draw b_law_draw .nil pass0 (pa_cons (pv 0) (pa_cons pe_int pa_nil))) pe_int (nomark _)))
      (pss_one (ps_ret (pe_callTy call_tuple_of (by rfl) T.tuple (by decide +kernel) (pa_cons (pe_lc (own := [("k", 9)]) (g := gName 9) (tt := tYes) rfl sc_law_table.nd (pi_range1 rfl T.range (pa_cons (pv 2) pa_nil)) (blkOk_by (N := ["pool", "many", "size", "kind", "value", "low", "place", "number", "bit", "k"]) (sc := defScope s_law_table) (own := [("k", 9)]) (by decide +kernel)) (fun _ _ _ _ _ => (pg_name (i := 9) sc_law_table.nd rfl (.inl rfl))) (fun _ _ _ _ _ => pts_nil) (fun _ _ _ _ _ => (pv 4))) pa_nil)))))
      pss_nil)
    (pss_cut (ps_if (PW.pt (pw_and (pt_cmpR op_eq (pv 3) pe_int (nomark _)) (pw_and1 (pt_cmpR op_gt (pv 1) pe_int (nomark _)))))
      (pss_cons (ps_set (i := 5) sc_law_table.nd rfl (.inr rfl) (pe_ix ix_list (pe_lst (pa_cons pe_int (pa_cons pe_int (pa_cons pe_int (pa_cons pe_int (pa_cons pe_int (pa_cons pe_int pa_nil))))))) (pe_call G_law_draw hr (by rfl) g_law_draw k_law_draw b_law_draw .nil pass0 (pa_cons (pv 0) (pa_cons (pv 1) pa_nil))) (fun _ _ => rfl)))
      (pss_one (ps_ret (pe_callTy call_tuple_of (by rfl) T.tuple (by decide +kernel) (pa_cons (pe_lc (own := [("k", 9)]) (g := gName 9) (tt := tYes) rfl sc_law_table.nd (pi_range1 rfl T.range (pa_cons (pv 2) pa_nil)) (blkOk_by (N := ["pool", "many", "size", "kind", "value", "low", "place", "number", "bit", "k"]) (sc := defScope s_law_table) (own := [("k", 9)]) (by decide +kernel)) (fun _ _ _ _ _ => (pg_name (i := 9) sc_law_table.nd rfl (.inl rfl))) (fun _ _ _ _ _ => pts_nil) (fun _ _ _ _ _ => (pe_cmpR op_eq (pe_op op_mod (pe_callTy call_int1 (by rfl) T.int (by decide +kernel) (pa_cons (pe_op op_fdivW (pv 9) (pv 5)) pa_nil)) pe_int) pe_int (nomark _)))) pa_nil)))))
      pss_nil)
    (pss_cons (ps_if (pt_cmpR op_eq (pv 3) pe_int (nomark _))
      (pss_cons (ps_set (i := 6) sc_law_table.nd rfl (.inr rfl) (pe_call G_law_draw hr (by rfl) g_law_draw k_law_draw b_law_draw .nil pass0 (pa_cons (pv 0) (pa_cons (pv 2) pa_nil))))
      (pss_one (ps_ret (pe_callTy call_tuple_of (by rfl) T.tuple (by decide +kernel) (pa_cons (pe_lc (own := [("k", 9)]) (g := gName 9) (tt := tYes) rfl sc_law_table.nd (pi_range1 rfl T.range (pa_cons (pv 2) pa_nil)) (blkOk_by (N := ["pool", "many", "size", "kind", "value", "low", "place", "number", "bit", "k"]) (sc := defScope s_law_table) (own := [("k", 9)]) (by decide +kernel)) (fun _ _ _ _ _ => (pg_name (i := 9) sc_law_table.nd rfl (.inl rfl))) (fun _ _ _ _ _ => pts_nil) (fun _ _ _ _ _ => (pe_cmpR op_eq (pv 9) (pv 6) (nomark _)))) pa_nil)))))
      pss_nil)
    (pss_cons (ps_set (i := 7) sc_law_table.nd rfl (.inl rfl) (pe_call G_law_draw hr (by rfl) g_law_draw k_law_draw b_law_draw .nil pass0 (pa_cons (pv 0) (pa_cons (pe_op op_pow pe_int pe_int) pa_nil))))
    (pss_one (ps_ret (pe_callTy call_tuple_of (by rfl) T.tuple (by decide +kernel) (pa_cons (pe_lc (own := [("bit", 8)]) (g := gName 8) (tt := tYes) rfl sc_law_table.nd (pi_tup (pe_call G_law_bits (hr.mono (by decide)) (by rfl) g_law_bits k_law_bits b_law_bits .nil pass0 (pa_cons (pv 7) (pa_cons (pv 2) pa_nil)))) (blkOk_by (N := ["pool", "many", "size", "kind", "value", "low", "place", "number", "bit", "k"]) (sc := defScope s_law_table) (own := [("bit", 8)]) (by decide +kernel)) (fun _ _ _ _ _ => (pg_name (i := 8) sc_law_table.nd rfl (.inl rfl))) (fun _ _ _ _ _ => pts_nil) (fun _ _ _ _ _ => (pv 8))) pa_nil)))))))))), ?_⟩
    refine ⟨(by show 7 ≤ sizeLine; decide), fun l nl => ⟨_, rfl, _, _, _, _, rfl, rfl, SqL.of upd_same, atI_nat (pow7 hm), ?_⟩⟩
    have X1 : Px p a H (upd H l (.lst [.int 1, .int 2, .int 4, .int 8, .int 16, .int 32, .int 64])) := (Px.refl hp).new nl
    refine ⟨_, rfl, p, a, 6, rfl, by decide, by decide, X1.pool, fun kind H2 hk X2 _ => ?_⟩
    have Y2 := X1.trans X2
    refine ⟨_, rfl, rfl, _, rfl, ite2 (fun e => ?_) (fun e => ?_)⟩
    · refine ⟨_, rfl, p, a, 2, rfl, by decide, by decide, Y2.pool, fun v H3 hv X3 _ => ⟨rfl, ?_⟩⟩
      have Y3 := Y2.trans X3
      refine ⟨_, rfl, _, rfl, by omega, by omega, fun L nL => lcRv (fun _ => .bl (decide (V.int v = V.int 1))) (by omega) (fun _ => rfl) (fun i H4 _ _ Q q => ⟨_, rfl, q⟩) ⟨_, _, rfl, .inl ⟨SqL.of upd_same, fun t nt => ?_⟩⟩⟩
      exact q t ((List.range ((2 ^ m : Nat) : Int).toNat).map fun _ => decide (V.int v = V.int 1)) _ (by rw [List.length_map, List.length_range]; omega) ((Y3.new nL).new nt) ((Y3.new nL).free nt) (by rw [upd_same, List.map_map]; rfl)
    · refine ⟨fun σ H' => σ = [some (.ref p), some (.int m), some (.int ((2 ^ m : Nat) : Int)), some (.int kind), none, none, none, none, none, none] ∧ H' = H2, ?_, ?_⟩
      · refine ⟨_, rfl, rfl, _, rfl, ite2 (fun e1 => ?_) (fun e1 => iteF ⟨rfl, rfl⟩)⟩
        refine ⟨_, rfl, _, _, rfl, rfl, _, rfl, ite2 (fun e2 => ?_) (fun e2 => ⟨rfl, rfl⟩)⟩
        have hm0 : 0 < m := by have := of_decide_eq_true e2; omega
        refine ⟨(by show 6 ≤ sizeLine; decide), fun l2 nl2 => ⟨_, rfl, _, rfl, p, a, m, rfl, by omega, by omega, (Y2.new nl2).pool, fun v H3 hv X3 hk3 => ?_⟩⟩
        have Y3 := (Y2.new nl2).trans X3
        have h2 : H3 l2 = some (.lst [.int 1, .int 2, .int 4, .int 8, .int 16, .int 32]) := by rw [hk3 _ (Y2.pool.ne nl2)]; exact upd_same
        refine ⟨_, _, _, _, rfl, rfl, SqL.of h2, atI_nat (pow6 (by omega)), ?_⟩
        refine ⟨_, rfl, _, rfl, by omega, by omega, fun L nL => lcRv (fun (i : Nat) => .bl (decide (V.int ((0 + (i : Int)) / ((2 ^ v : Nat) : Int) % 2) = V.int 1))) (by omega) (fun _ => rfl) (fun i H4 _ _ Q q => ⟨_, rfl, _, rfl, _, _, rfl, rfl, divW_small (pow_pos2 v) (Nat.le_trans (pow_le64 (by omega)) (by decide)), .inl ⟨_, rfl, _, _, rfl, rfl, (by show (0 : Int) < 2; decide), rfl, q⟩⟩) ⟨_, _, rfl, .inl ⟨SqL.of upd_same, fun t nt => ?_⟩⟩⟩
        exact q t ((List.range ((2 ^ m : Nat) : Int).toNat).map fun (i : Nat) => decide (V.int ((0 + (i : Int)) / ((2 ^ v : Nat) : Int) % 2) = V.int 1)) _ (by rw [List.length_map, List.length_range]; omega) ((Y3.new nL).new nt) ((Y3.new nL).free nt) (by rw [upd_same, List.map_map]; rfl)
      · rintro σ H' ⟨rfl, rfl⟩
        refine ⟨_, rfl, rfl, _, rfl, ite2 (fun e1 => ?_) (fun e1 => ?_)⟩
        · refine ⟨_, rfl, _, rfl, p, a, ((2 ^ m : Nat) : Int), rfl, by omega, by omega, Y2.pool, fun v H3 hv X3 _ => ?_⟩
          have Y3 := Y2.trans X3
          refine ⟨_, rfl, _, rfl, by omega, by omega, fun L nL => lcRv (fun (i : Nat) => .bl (decide (V.int (0 + (i : Int)) = V.int v))) (by omega) (fun _ => rfl) (fun i H4 _ _ Q q => ⟨_, rfl, _, rfl, rfl, q⟩) ⟨_, _, rfl, .inl ⟨SqL.of upd_same, fun t nt => ?_⟩⟩⟩
          exact q t ((List.range ((2 ^ m : Nat) : Int).toNat).map fun (i : Nat) => decide (V.int (0 + (i : Int)) = V.int v)) _ (by rw [List.length_map, List.length_range]; omega) ((Y3.new nL).new nt) ((Y3.new nL).free nt) (by rw [upd_same, List.map_map]; rfl)
        · refine ⟨_, rfl, _, _, rfl, rfl, ⟨by decide, by decide, by decide⟩, p, a, _, rfl, by decide, by decide, Y2.pool, fun v H3 hv X3 _ => ?_⟩
          have Y3 := Y2.trans X3
          refine ⟨_, rfl, _, rfl, v, 2 ^ m, rfl, by omega, fun t1 H4 n1 E1 h1 => ⟨t1, rfl, ⟨_, SqT.of h1⟩, fun L nL => lcTm (xs := (bitsOf v (2 ^ m)).map V.bl) id (SqT.of h1) nL (by rw [List.length_map, bitsOf_len]; omega) (fun _ => rfl) (fun i x H4 _ _ Q q => ⟨_, rfl, q⟩) ⟨_, _, rfl, .inl ⟨SqL.of upd_same, fun t nt => ?_⟩⟩⟩⟩
          have Y4 := Y3.more E1
          exact q t (bitsOf v (2 ^ m)) _ (bitsOf_len _ _) ((Y4.new nL).new nt) ((Y4.new nL).free nt) (by rw [upd_same, List.map_id])
end
end G
namespace G
open PySem PySem.Spec PyProof.Rows L2 Evl
/-! ## tuples never change -/
def TEx (H H' : Hp) : Prop := ∀ (b : Addr) (xs : List V), H b = some (.tup xs) → H' b = some (.tup xs)
theorem TEx.refl (H : Hp) : TEx H H := fun _ _ h => h
theorem TEx.trans {H H1 H2 : Hp} (a : TEx H H1) (b : TEx H1 H2) : TEx H H2 := fun c xs h => b c xs (a c xs h)
theorem TEx.of {H H' : Hp} (e : Ex H H') : TEx H H' := fun b xs h => e b _ h
theorem TEx.px {p a : Addr} {H H' : Hp} (x : Px p a H H') : TEx H H' := fun b xs h => by
  obtain ⟨_, _, _, _, _, e, _⟩ := x.was
  exact x.at_ (b := b) (o := .tup xs) (by rw [hid_ne (ne_of h e (by intro z; cases z))]; exact h)
theorem TEx.new {H : Hp} {b : Addr} {o : HO} (n : H b = none) : TEx H (upd H b o) := .of (Ex.new n)
theorem TEx.mut {H : Hp} {b : Addr} {l : List V} {o : HO} (h : H b = some (.lst l)) : TEx H (upd H b o) := fun c xs hc => by
  rw [upd_ne (ne_of hc h (by intro z; cases z))]; exact hc
/-! ## circuits -/
structure GateD where
  name : Str
  tab : List Bool
  pins : List Str
  rng : List (Int × Int)
structure RegD where
  name : Str
  net : Str
  edge : Int × Int
  out : Int × Int
  setup : Int
  hold : Int
  start : Bool
structure CircD where
  ins : List Str
  gates : List GateD
  regs : List RegD
  outs : List (Str × Str)
def IntsAt (H : Hp) (a : Addr) (p : Int × Int) : Prop := H a = some (.tup [.int p.1, .int p.2])
def GateAt (H : Hp) (a : Addr) (g : GateD) : Prop := ∃ (t pt rt : Addr) (ra : List Addr), H a = some (.tup [.str g.name, .ref t, .ref pt, .ref rt]) ∧ H t = some (.tup (g.tab.map V.bl)) ∧ H pt = some (.tup (g.pins.map V.str)) ∧ H rt = some (.tup (ra.map V.ref)) ∧ All2 (IntsAt H) ra g.rng
def RegAt (H : Hp) (a : Addr) (r : RegD) : Prop := ∃ ea oa : Addr, H a = some (.tup [.str r.name, .str r.net, .ref ea, .ref oa, .int r.setup, .int r.hold, .bl r.start]) ∧ IntsAt H ea r.edge ∧ IntsAt H oa r.out
def OutAt (H : Hp) (a : Addr) (o : Str × Str) : Prop := H a = some (.tup [.str o.1, .str o.2])
structure CircAt (H : Hp) (c : Addr) (d : CircD) (it gt rt ot : Addr) (ga ra oa : List Addr) : Prop where
  top : H c = some (.tup [.ref it, .ref gt, .ref rt, .ref ot])
  ins : H it = some (.tup (d.ins.map V.str))
  gts : H gt = some (.tup (ga.map V.ref))
  rgs : H rt = some (.tup (ra.map V.ref))
  ots : H ot = some (.tup (oa.map V.ref))
  gates : All2 (GateAt H) ga d.gates
  regs : All2 (RegAt H) ra d.regs
  outs : All2 (OutAt H) oa d.outs
section
variable {H H' : Hp} {a c it gt rt ot : Addr} {g : GateD} {r : RegD} {d : CircD} {ga ra oa : List Addr}
theorem IntsAt.te {p : Int × Int} (e : TEx H H') (h : IntsAt H a p) : IntsAt H' a p := e _ _ h
theorem GateAt.te (e : TEx H H') (h : GateAt H a g) : GateAt H' a g := by
  obtain ⟨t, pt, rt, ra, h1, h2, h3, h4, h5⟩ := h
  exact ⟨t, pt, rt, ra, e _ _ h1, e _ _ h2, e _ _ h3, e _ _ h4, h5.imp fun _ _ z => z.te e⟩
theorem RegAt.te (e : TEx H H') (h : RegAt H a r) : RegAt H' a r := by
  obtain ⟨ea, oa, h1, h2, h3⟩ := h
  exact ⟨ea, oa, e _ _ h1, h2.te e, h3.te e⟩
theorem CircAt.te (e : TEx H H') (h : CircAt H c d it gt rt ot ga ra oa) : CircAt H' c d it gt rt ot ga ra oa :=
  ⟨e _ _ h.top, e _ _ h.ins, e _ _ h.gts, e _ _ h.rgs, e _ _ h.ots, h.gates.imp fun _ _ z => z.te e, h.regs.imp fun _ _ z => z.te e, h.outs.imp fun _ _ z => e _ _ z⟩
end
/-! ### the names that are given -/
def nm (c : Str) (k : Nat) : Str := c ++ Str.ofString (toString ((k : Nat) : Int))
structure RegWf (r : RegD) : Prop where
  e0 : 0 ≤ r.edge.1 ∧ r.edge.1 ≤ 2
  e1 : r.edge.1 ≤ r.edge.2 ∧ r.edge.2 ≤ r.edge.1 + 2
  o0 : 0 ≤ r.out.1 ∧ r.out.1 ≤ 3
  o1 : r.out.1 + 1 ≤ r.out.2 ∧ r.out.2 ≤ r.out.1 + 4
  su : 0 ≤ r.setup ∧ r.setup ≤ 3
  ho : 0 ≤ r.hold ∧ r.hold < r.out.2
structure GateWf (ns : List Str) (k : Nat) (g : GateD) : Prop where
  name : g.name = nm "g" k
  few : g.pins.length ≤ 3
  pins : ∀ x ∈ g.pins, x ∈ ns
  tab : g.tab.length = 2 ^ g.pins.length
  many : g.rng.length = g.pins.length
  rng : ∀ r ∈ g.rng, 0 ≤ r.1 ∧ r.1 ≤ 4 ∧ r.1 + 2 ≤ r.2 ∧ r.2 ≤ r.1 + 6
/-- the gates in the order of their making: each reads what stood before it -/
structure CircWf (most : Nat) (d : CircD) (G : List GateD) : Prop where
  ins : ∃ n, 1 ≤ n ∧ n ≤ 3 ∧ d.ins = (List.range n).map (nm "i")
  regs : ∃ n, n ≤ 3 ∧ d.regs.map (·.name) = (List.range n).map (nm "r")
  few : G.length ≤ most
  gates : ∀ k g, G[k]? = some g → GateWf (d.ins ++ d.regs.map (·.name) ++ (List.range k).map (nm "g")) k g
  perm : d.gates.Perm G
  rwf : ∀ r ∈ d.regs, RegWf r ∧ r.net ∈ d.ins ++ d.regs.map (·.name) ++ (List.range G.length).map (nm "g")
  outs : ∃ n, n ≤ 3 ∧ d.outs.map (·.1) = (List.range n).map (nm "p")
  onet : ∀ o ∈ d.outs, o.2 ∈ d.ins ++ d.regs.map (·.name) ++ (List.range G.length).map (nm "g")
section
variable {P : Program} {w : World} {K : PySem.W.Frag} {mg : Str → Option Value} {base : Heap}
def spReg : Sp := fun vs H Q _ => ∃ (p a : Addr) (n net : Str), vs = [.ref p, .str n, .str net] ∧ PoolOk p a H ∧ ∀ (x : Addr) (r : RegD) (H' : Hp), Px p a H H' → H x = none → RegAt H' x r → r.name = n → r.net = net → RegWf r → Q (.ref x) H'
theorem sc_law_register : FnScope ["pool", "name", "net", "edge", "out", "high", "wide"] ["pool", "name", "net"] (defScope s_law_register) := ⟨rfl, rfl, rfl, by decide +kernel, rfl, by decide +kernel, by decide +kernel⟩
theorem ok_law_register (D : Dfd K mg "_law_register" s_law_register ["pool", "name", "net"]) (C : Has P w K mg base 2 "_law_draw" ["pool", "many"] spDrawX) : Has P w K mg base 3 "_law_register" ["pool", "name", "net"] spReg := by
  obtain ⟨f_law_draw, d_law_draw, G_law_draw, g_law_draw, k_law_draw, b_law_draw⟩ := C
  refine D.has fun f fd F => F.ok sc_law_register (fun vs H Q E h => ?_) (fun cdv A outer s H vs Q E hr h => ?_)
  · obtain ⟨p, a, n, net, rfl, _⟩ := h
    rfl
  · obtain ⟨p, a, n, net, rfl, hp, q⟩ := h
    refine ⟨_, (pss_cons (ps_set (i := 3) sc_law_register.nd rfl (.inl rfl) (pe_call G_law_draw (hr.mono (by omega)) (by rfl) g_law_draw k_law_draw b_law_draw .nil pass0 (pa_cons (pv 0) (pa_cons pe_int pa_nil))))
    (pss_cons (ps_set (i := 4) sc_law_register.nd rfl (.inl rfl) (pe_call G_law_draw (hr.mono (by omega)) (by rfl) g_law_draw k_law_draw b_law_draw .nil pass0 (pa_cons (pv 0) (pa_cons pe_int pa_nil))))
    (pss_cons (ps_set (i := 5) sc_law_register.nd rfl (.inl rfl) (pe_op op_add (pe_op op_add (pv 4) pe_int) (pe_call G_law_draw (hr.mono (by omega)) (by rfl) g_law_draw k_law_draw b_law_draw .nil pass0 (pa_cons (pv 0) (pa_cons pe_int pa_nil)))))
    (pss_cons (ps_set (i := 6) sc_law_register.nd rfl (.inl rfl) (pe_op op_add (pv 3) (pe_call G_law_draw (hr.mono (by omega)) (by rfl) g_law_draw k_law_draw b_law_draw .nil pass0 (pa_cons (pv 0) (pa_cons pe_int pa_nil)))))
    (pss_one (ps_ret (pe_tup (pa_cons (pv 1) (pa_cons (pv 2) (pa_cons (pe_tup (pa_cons (pv 3) (pa_cons (pv 6) pa_nil))) (pa_cons (pe_tup (pa_cons (pv 4) (pa_cons (pv 5) pa_nil))) (pa_cons (pe_call G_law_draw (hr.mono (by omega)) (by rfl) g_law_draw k_law_draw b_law_draw .nil pass0 (pa_cons (pv 0) (pa_cons pe_int pa_nil))) (pa_cons (pe_call G_law_draw (hr.mono (by omega)) (by rfl) g_law_draw k_law_draw b_law_draw .nil pass0 (pa_cons (pv 0) (pa_cons (pv 5) pa_nil))) (pa_cons (pe_cmpR op_eq (pe_call G_law_draw (hr.mono (by omega)) (by rfl) g_law_draw k_law_draw b_law_draw .nil pass0 (pa_cons (pv 0) (pa_cons pe_int pa_nil))) pe_int (nomark _)) pa_nil)))))))))))))), ?_⟩
    refine ⟨_, rfl, p, a, 3, rfl, by decide, by decide, hp, fun v1 H1 h1 X1 _ => ?_⟩
    refine ⟨_, rfl, p, a, 4, rfl, by decide, by decide, X1.pool, fun v2 H2 h2 X2 _ => ?_⟩
    refine ⟨_, rfl, _, _, rfl, rfl, _, rfl, p, a, 4, rfl, by decide, by decide, X2.pool, fun v3 H3 h3 X3 _ => ⟨_, _, rfl, rfl, ?_⟩⟩
    refine ⟨_, rfl, _, rfl, p, a, 3, rfl, by decide, by decide, X3.pool, fun v4 H4 h4 X4 _ => ⟨_, _, rfl, rfl, ?_⟩⟩
    have Y4 := X1.trans (X2.trans (X3.trans X4))
    refine ⟨_, rfl, _, rfl, _, rfl, _, rfl, (by show 2 ≤ sizeLine; decide), fun e1 n1 => ⟨_, rfl, _, rfl, (by show 2 ≤ sizeLine; decide), fun e2 n2 => ?_⟩⟩
    have Y5 := (Y4.new (o := .tup [.int v1, .int ((v1 : Int) + v4)]) n1).new (o := .tup [.int v2, .int ((v2 : Int) + 1 + v3)]) n2
    have t1 : upd (upd H4 e1 (.tup [.int v1, .int ((v1 : Int) + v4)])) e2 (.tup [.int v2, .int ((v2 : Int) + 1 + v3)]) e1 = some (.tup [.int v1, .int ((v1 : Int) + v4)]) := by rw [upd_ne (ne_of_none upd_same n2)]; exact upd_same
    have t2 : upd (upd H4 e1 (.tup [.int v1, .int ((v1 : Int) + v4)])) e2 (.tup [.int v2, .int ((v2 : Int) + 1 + v3)]) e2 = some (.tup [.int v2, .int ((v2 : Int) + 1 + v3)]) := upd_same
    generalize upd (upd H4 e1 (.tup [.int v1, .int ((v1 : Int) + v4)])) e2 (.tup [.int v2, .int ((v2 : Int) + 1 + v3)]) = H5 at *
    refine ⟨_, rfl, p, a, 4, rfl, by decide, by decide, Y5.pool, fun v5 H6 h5 X6 _ => ?_⟩
    refine ⟨_, rfl, _, rfl, p, a, (v2 : Int) + 1 + v3, rfl, by omega, by omega, X6.pool, fun v6 H7 h6 X7 _ => ?_⟩
    refine ⟨_, rfl, p, a, 2, rfl, by decide, by decide, X7.pool, fun v7 H8 h7 X8 _ => ⟨rfl, (by show 7 ≤ sizeLine; decide), fun x nx => ?_⟩⟩
    have Y8 := X6.trans (X7.trans X8)
    have T8 := (TEx.px Y8).trans (TEx.new (o := .tup [.str n, .str net, .ref e1, .ref e2, .int v5, .int v6, .bl (decide (V.int v7 = V.int 1))]) nx)
    exact q x ⟨n, net, (v1, (v1 : Int) + v4), (v2, (v2 : Int) + 1 + v3), v5, v6, decide (V.int v7 = V.int 1)⟩ _ ((Y5.trans Y8).new nx) ((Y5.trans Y8).free nx) ⟨e1, e2, upd_same, T8 _ _ t1, T8 _ _ t2⟩ rfl rfl
      ⟨by constructor <;> simp <;> omega, by constructor <;> simp <;> omega, by constructor <;> simp <;> omega, by constructor <;> simp <;> omega, by constructor <;> simp <;> omega, by constructor <;> simp <;> omega⟩
theorem nm_small : ∀ c ∈ (["i", "r", "g", "p"] : List Str), ∀ k, k < 20 → c.length + (Str.ofString (toString ((k : Nat) : Int))).length ≤ 1000 ∧ ((k : Nat) : Int).natAbs.log2 < 1920 := by decide +kernel
/-- 'x' + str(k), read -/
theorem nm_read {c : Str} {k : Nat} (hc : c ∈ (["i", "r", "g", "p"] : List Str)) (hk : k < 20) : ((k : Nat) : Int).natAbs.log2 < 1920 ∧ c.length + (Str.ofString (toString ((k : Nat) : Int))).length ≤ sizeLine :=
  ⟨(nm_small c hc k hk).2, sz_of (Nat.le_trans (nm_small c hc k hk).1 (by decide))⟩
theorem keep1 {p M x : Addr} {H : Hp} {o o' : HO} (e : hid p H x = some o) (hx : x ≠ M) (hM : M ≠ p) : hid p (upd H M o') x = some o := by
  rw [hid_upd_ne hM, upd_ne hx]; exact e
theorem hid_new {p M : Addr} {H : Hp} {o : HO} (hM : M ≠ p) : hid p (upd H M o) M = some o := by
  rw [hid_ne hM]; exact upd_same
theorem erase_perm {α : Type} : ∀ (l : List α) (v : Nat) (h : v < l.length), (l[v] :: l.eraseIdx v).Perm l
  | [], v, h => absurd h (Nat.not_lt_zero _)
  | a :: r, 0, _ => .refl _
  | a :: r, v + 1, h => by
    have h' : v < r.length := Nat.lt_of_succ_lt_succ h
    have ih := erase_perm r v h'
    show (r[v] :: a :: r.eraseIdx v).Perm (a :: r)
    exact (List.Perm.swap ..).trans (ih.cons a)
def spShuf : Sp := fun vs H Q _ => ∃ (p a l : Addr) (xs : List V), vs = [.ref p, .ref l] ∧ PoolOk p a H ∧ hid p H l = some (.lst xs) ∧ xs.length ≤ 100 ∧ ∀ (o : Addr) (ys : List V) (H' : Hp), Px p a H H' → H o = none → H' o = some (.lst ys) → ys.Perm xs → Q (.ref o) H'
theorem sc_law_shuffled : FnScope ["pool", "rows", "left", "out", "k"] ["pool", "rows"] (defScope s_law_shuffled) := ⟨rfl, rfl, rfl, by decide +kernel, rfl, by decide +kernel, by decide +kernel⟩
theorem ok_law_shuffled (D : Dfd K mg "_law_shuffled" s_law_shuffled ["pool", "rows"]) (T : TxtS mg) (C : Has P w K mg base 2 "_law_draw" ["pool", "many"] spDrawX) : Has P w K mg base 3 "_law_shuffled" ["pool", "rows"] spShuf := by
  obtain ⟨f_law_draw, d_law_draw, G_law_draw, g_law_draw, k_law_draw, b_law_draw⟩ := C
  refine D.has fun f fd F => F.ok sc_law_shuffled (fun vs H Q E h => ?_) (fun cdv A outer s H vs Q E hr h => ?_)
  · obtain ⟨p, a, l, xs, rfl, _⟩ := h
    rfl
  · obtain ⟨p, a, l, xs, rfl, hp, hl, hn, q⟩ := h
    refine ⟨_, (pss_cons (ps_set (i := 2) sc_law_shuffled.nd rfl (.inl rfl) (pe_callTy call_list_of (by rfl) T.list (by decide +kernel) (pa_cons (pv 1) pa_nil)))
    (pss_cons (ps_set (i := 3) sc_law_shuffled.nd rfl (.inl rfl) (pe_lst pa_nil))
    (pss_cons (ps_for PassesOwn.never rfl (pi_range1 rfl T.range (pa_cons (pe_callB call_len_seq (by rfl) T.len (by decide +kernel) (pa_cons (pv 1) pa_nil)) pa_nil)) (pg_name (i := 4) sc_law_shuffled.nd rfl (.inl rfl))
      (pss_one (ps_expr (pe_bm PySem.F.plainAttrs_list PySem.F.slot_list_append PySem.F.type_list_append mt_append (pv 3) (pa_cons (pe_bm PySem.F.plainAttrs_list PySem.F.slot_list_pop PySem.F.type_list_pop mt_popAt (pv 2) (pa_cons (pe_call G_law_draw (hr.mono (by omega)) (by rfl) g_law_draw k_law_draw b_law_draw .nil pass0 (pa_cons (pv 0) (pa_cons (pe_callB call_len_seq (by rfl) T.len (by decide +kernel) (pa_cons (pv 2) pa_nil)) pa_nil))) pa_nil)) pa_nil)))))
    (pss_one (ps_ret (pv 3)))))), ?_⟩
    refine ⟨_, rfl, _, _, rfl, .inl (SqL.of (hid_get hl)), fun lf nlf => ⟨Nat.zero_le _, fun o no => ?_⟩⟩
    have X0 := ((Px.refl hp).new (o := .lst xs) nlf).new (o := .lst []) no
    have plf := hp.ne nlf
    have nlo : lf ≠ o := ne_of_none upd_same no
    have nHo : H o = none := by
      have z := no
      rw [upd_ne nlo.symm] at z; exact z
    have po := hp.ne nHo
    have h1 : hid p (upd (upd H lf (.lst xs)) o (.lst [])) lf = some (.lst xs) := keep1 (hid_new plf) nlo po
    have h2 : hid p (upd (upd H lf (.lst xs)) o (.lst [])) o = some (.lst []) := hid_new po
    generalize upd (upd H lf (.lst xs)) o (.lst []) = H0 at *
    refine ⟨_, rfl, _, _, rfl, .inl (SqL.of (X0.at_ hl)), _, rfl, by omega, by omega, for_range (n := ((xs.length : Nat) : Int).toNat)
      (fun i σ H' => Px p a H H' ∧ ∃ (ls os : List V) (z : Option V), hid p H' lf = some (.lst ls) ∧ hid p H' o = some (.lst os) ∧ (os ++ ls).Perm xs ∧ os.length = i ∧ σ = [some (.ref p), some (.ref l), some (.ref lf), some (.ref o), z])
      ⟨X0, xs, [], _, h1, h2, .refl _, rfl, rfl⟩ ?_ ?_⟩
    · rintro i σ H1 hi ⟨X1, ls, os, z, hls, hos, hperm, hoi, rfl⟩
      rw [Int.toNat_natCast] at hi
      have hlen := hperm.length_eq
      rw [List.length_append] at hlen
      have hpos : 0 < ls.length := by omega
      refine ⟨_, rfl, .inl ⟨rfl, _, SqL.of (hid_get hos)⟩, _, rfl, .inl ⟨rfl, _, SqL.of (hid_get hls)⟩, _, rfl, _, rfl, _, _, rfl, .inl (SqL.of (hid_get hls)), p, a, ls.length, rfl, by omega, by omega, X1.pool, fun v H2 hv X2 _ => ?_⟩
      have hv' : v < ls.length := by omega
      have hls2 := X2.get hls
      have hos2 := X2.get hos
      refine ⟨lf, ls, (v : Int), v, ls[v], rfl, rfl, hid_get hls2, by omega, by omega, ?_, List.getElem?_eq_getElem hv', ?_⟩
      · have := PyProof.Rows.seqIndex_at (i := (v : Int)) (n := ls.length) (by omega) (by omega)
        rw [Int.toNat_natCast] at this
        exact this
      · have hos3 : hid p (upd H2 lf (.lst (ls.eraseIdx v))) o = some (.lst os) := keep1 hos2 nlo.symm plf
        have X3 := (X1.trans X2).mut (o := .lst (ls.eraseIdx v)) nlf
        have hls3 : hid p (upd H2 lf (.lst (ls.eraseIdx v))) lf = some (.lst (ls.eraseIdx v)) := hid_new plf
        generalize upd H2 lf (.lst (ls.eraseIdx v)) = H3 at *
        refine ⟨o, os, ls[v], rfl, rfl, hid_get hos3, sz_lt (by omega), X3.mut nHo, ls.eraseIdx v, os ++ [ls[v]], _, keep1 hls3 nlo po, hid_new po, ?_, by rw [List.length_append, hoi]; rfl, rfl⟩
        refine List.Perm.trans ?_ hperm
        rw [List.append_assoc]
        exact List.Perm.append_left _ (erase_perm ls v hv')
    · rintro σ H1 ⟨X1, ls, os, z, hls, hos, hperm, hoi, rfl⟩
      rw [Int.toNat_natCast] at hoi
      have hlen := hperm.length_eq
      rw [List.length_append] at hlen
      have : ls = [] := List.length_eq_zero_iff.mp (by omega)
      rw [this, List.append_nil] at hperm
      exact ⟨_, rfl, q o os H1 X1 nHo (hid_get hos) hperm⟩
theorem nmi_str : ("i" : Str) ∈ (["i", "r", "g", "p"] : List Str) := by decide
theorem nmr_str : ("r" : Str) ∈ (["i", "r", "g", "p"] : List Str) := by decide
theorem nmg_str : ("g" : Str) ∈ (["i", "r", "g", "p"] : List Str) := by decide
theorem nmp_str : ("p" : Str) ∈ (["i", "r", "g", "p"] : List Str) := by decide
theorem strV_at {us : List Str} {i : Nat} (h : i < us.length) : (us.map V.str)[i]? = some (.str us[i]) := by rw [List.getElem?_map, List.getElem?_eq_getElem h]; rfl
theorem nms_snoc (c : Str) (k : Nat) : (List.range (k + 1)).map (nm c) = (List.range k).map (nm c) ++ [nm c k] := by rw [List.range_succ, List.map_append]; rfl
theorem All2.te {R : Hp → Addr → β → Prop} {as : List Addr} {bs : List β} {H H' : Hp} (f : ∀ a b, R H a b → R H' a b) (h : All2 (R H) as bs) : All2 (R H') as bs := h.imp f
/-- what a permutation of references refers to -/
theorem perm_refs {R : Addr → GateD → Prop} {as : List Addr} {G : List GateD} (h : All2 R as G) {vs : List V} (p : vs.Perm (as.map V.ref)) : ∃ (bs : List Addr) (F : List GateD), vs = bs.map V.ref ∧ All2 R bs F ∧ F.Perm G := by
  have z : ∀ {xs ys : List V}, xs.Perm ys → ∀ (as : List Addr) (G : List GateD), ys = as.map V.ref → All2 R as G → ∃ (bs : List Addr) (F : List GateD), xs = bs.map V.ref ∧ All2 R bs F ∧ F.Perm G := by
    intro xs ys pp
    induction pp with
    | nil =>
      intro as G e h
      have : as = [] := by
        cases as with
        | nil => rfl
        | cons _ _ => cases e
      subst this
      have : G = [] := List.length_eq_zero_iff.mp h.1.symm
      subst this
      exact ⟨[], [], rfl, .nil, .refl _⟩
    | @cons x l1 l2 _ ih =>
      intro as G e h
      cases as with
      | nil => cases e
      | cons a as =>
        cases G with
        | nil => exact nomatch h.1
        | cons g G =>
          obtain ⟨e1, e2⟩ := List.cons.inj e
          have h2 : All2 R as G := ⟨Nat.succ.inj h.1, fun i x y q1 q2 => h.2 (i + 1) x y q1 q2⟩
          obtain ⟨bs, F, f1, f2, f3⟩ := ih as G e2 h2
          exact ⟨a :: bs, g :: F, by rw [e1, f1]; rfl, .cons (h.2 0 a g rfl rfl) f2, f3.cons g⟩
    | @swap x y l =>
      intro as G e h
      match as, G, h with
      | [], _, _ => cases e
      | [_], _, _ => cases e
      | _ :: _ :: _, [], h => exact nomatch h.1
      | _ :: _ :: _, [_], h => exact nomatch Nat.succ.inj h.1
      | a :: b :: as, g :: k :: G, h =>
        obtain ⟨e1, e2⟩ := List.cons.inj e
        obtain ⟨e3, e4⟩ := List.cons.inj e2
        have h2 : All2 R as G := ⟨Nat.succ.inj (Nat.succ.inj h.1), fun i x y q1 q2 => h.2 (i + 2) x y q1 q2⟩
        exact ⟨b :: a :: as, k :: g :: G, by rw [e1, e3, e4]; rfl, .cons (h.2 1 b k rfl rfl) (.cons (h.2 0 a g rfl rfl) h2), .swap ..⟩
    | trans _ _ ih1 ih2 =>
      intro as G e h
      obtain ⟨bs, F, f1, f2, f3⟩ := ih2 as G e h
      obtain ⟨cs, F2, g1, g2, g3⟩ := ih1 bs F f1 f2
      exact ⟨cs, F2, g1, g2, g3.trans f3⟩
  exact z p as G rfl h
def spCirc : Sp := fun vs H Q _ => ∃ (p a : Addr) (most : Nat), vs = [.ref p, .int most] ∧ most ≤ 15 ∧ PoolOk p a H ∧ ∀ (c : Addr) (d : CircD) (G : List GateD) (it gt rt ot : Addr) (ga ra oa : List Addr) (H' : Hp), Px p a H H' → CircAt H' c d it gt rt ot ga ra oa → CircWf most d G → Q (.ref c) H'
theorem sc_law_circuit : FnScope ["pool", "most", "k", "inputs", "stored", "nets", "gates", "pins", "ranges", "pin", "low", "regs", "outputs", "name", "j"] ["pool", "most"] (defScope s_law_circuit) := ⟨rfl, rfl, rfl, by decide +kernel, rfl, by decide +kernel, by decide +kernel⟩
theorem ok_law_circuit (D : Dfd K mg "_law_circuit" s_law_circuit ["pool", "most"]) (T : TxtS mg) (C1 : Has P w K mg base 2 "_law_draw" ["pool", "many"] spDrawX) (C2 : Has P w K mg base 3 "_law_table" ["pool", "many"] spTable) (C3 : Has P w K mg base 3 "_law_register" ["pool", "name", "net"] spReg)
    (C4 : Has P w K mg base 3 "_law_shuffled" ["pool", "rows"] spShuf) : Has P w K mg base 4 "_law_circuit" ["pool", "most"] spCirc := by
  obtain ⟨f_law_draw, d_law_draw, G_law_draw, g_law_draw, k_law_draw, b_law_draw⟩ := C1
  obtain ⟨f_law_table, d_law_table, G_law_table, g_law_table, k_law_table, b_law_table⟩ := C2
  obtain ⟨f_law_register, d_law_register, G_law_register, g_law_register, k_law_register, b_law_register⟩ := C3
  obtain ⟨f_law_shuffled, d_law_shuffled, G_law_shuffled, g_law_shuffled, k_law_shuffled, b_law_shuffled⟩ := C4
  refine D.has fun f fd F => F.ok sc_law_circuit (fun vs H Q E h => ?_) (fun cdv A outer s H vs Q E hr h => ?_)
  · obtain ⟨p, a, most, rfl, _⟩ := h
    rfl
  · obtain ⟨p, a, most, rfl, hmost, hp, q⟩ := h
    refine ⟨_, (pss_cons (ps_setLc (i := 3) (own := [("k", 2)]) (g := gName 2) (tt := tYes) rfl sc_law_circuit.nd rfl rfl (sw_true rfl rfl rfl (by decide +kernel)) (pi_range1 rfl T.range (pa_cons (pe_op op_add pe_int (pe_call G_law_draw (hr.mono (by omega)) (by rfl) g_law_draw k_law_draw b_law_draw .nil pass0 (pa_cons (pv 0) (pa_cons pe_int pa_nil)))) pa_nil)) (blkOk_by (N := ["pool", "most", "k", "inputs", "stored", "nets", "gates", "pins", "ranges", "pin", "low", "regs", "outputs", "name", "j"]) (sc := defScope s_law_circuit) (own := [("k", 2)]) (by decide +kernel)) (fun _ _ _ _ _ => (pg_name (i := 2) sc_law_circuit.nd rfl (.inl rfl))) (fun _ _ _ _ _ => pts_nil) (fun _ _ _ _ _ => (pe_op op_add_str pe_str (pe_callTy call_str_int (by rfl) T.str (by decide +kernel) (pa_cons (pv 2) pa_nil)))))
    (pss_cons (ps_setLc (i := 4) (own := [("k", 2)]) (g := gName 2) (tt := tYes) rfl sc_law_circuit.nd rfl rfl (sw_true rfl rfl rfl (by decide +kernel)) (pi_range1 rfl T.range (pa_cons (pe_call G_law_draw (hr.mono (by omega)) (by rfl) g_law_draw k_law_draw b_law_draw .nil pass0 (pa_cons (pv 0) (pa_cons pe_int pa_nil))) pa_nil)) (blkOk_by (N := ["pool", "most", "k", "inputs", "stored", "nets", "gates", "pins", "ranges", "pin", "low", "regs", "outputs", "name", "j"]) (sc := defScope s_law_circuit) (own := [("k", 2)]) (by decide +kernel)) (fun _ _ _ _ _ => (pg_name (i := 2) sc_law_circuit.nd rfl (.inl rfl))) (fun _ _ _ _ _ => pts_nil) (fun _ _ _ _ _ => (pe_op op_add_str pe_str (pe_callTy call_str_int (by rfl) T.str (by decide +kernel) (pa_cons (pv 2) pa_nil)))))
    (pss_cons (ps_set (i := 5) sc_law_circuit.nd rfl (.inr rfl) (pe_op op_cat (pv 3) (pv 4)))
    (pss_cons (ps_set (i := 6) sc_law_circuit.nd rfl (.inl rfl) (pe_lst pa_nil))
    (pss_cons (ps_for PassesOwn.never rfl (pi_range1 rfl T.range (pa_cons (pe_call G_law_draw (hr.mono (by omega)) (by rfl) g_law_draw k_law_draw b_law_draw .nil pass0 (pa_cons (pv 0) (pa_cons (pe_op op_add (pv 1) pe_int) pa_nil))) pa_nil)) (pg_name (i := 2) sc_law_circuit.nd rfl (.inl rfl))
      (pss_cons (ps_set (i := 7) sc_law_circuit.nd rfl (.inl rfl) (pe_callTy call_tuple_of (by rfl) T.tuple (by decide +kernel) (pa_cons (pe_lc (own := [("j", 14)]) (g := gName 14) (tt := tYes) rfl sc_law_circuit.nd (pi_range1 rfl T.range (pa_cons (pe_ix ix_list (pe_lst (pa_cons pe_int (pa_cons pe_int (pa_cons pe_int (pa_cons pe_int (pa_cons pe_int (pa_cons pe_int pa_nil))))))) (pe_call G_law_draw (hr.mono (by omega)) (by rfl) g_law_draw k_law_draw b_law_draw .nil pass0 (pa_cons (pv 0) (pa_cons pe_int pa_nil))) (fun _ _ => rfl)) pa_nil)) (blkOk_by (N := ["pool", "most", "k", "inputs", "stored", "nets", "gates", "pins", "ranges", "pin", "low", "regs", "outputs", "name", "j"]) (sc := defScope s_law_circuit) (own := [("j", 14)]) (by decide +kernel)) (fun _ _ _ _ _ => (pg_name (i := 14) sc_law_circuit.nd rfl (.inl rfl))) (fun _ _ _ _ _ => pts_nil) (fun _ _ _ _ _ => (pe_ix (kIxL (K := K) rfl) (pv 5) (pe_call G_law_draw (hr.mono (by omega)) (by rfl) g_law_draw k_law_draw b_law_draw .nil pass0 (pa_cons (pv 0) (pa_cons (pe_callB (kLen (K := K) rfl) (by rfl) T.len (by decide +kernel) (pa_cons (pv 5) pa_nil)) pa_nil))) (fun _ _ => rfl)))) pa_nil)))
      (pss_cons (ps_set (i := 8) sc_law_circuit.nd rfl (.inl rfl) (pe_lst pa_nil))
      (pss_cons (ps_for PassesOwn.never rfl (pi_tup (pv 7)) (pg_name (i := 9) sc_law_circuit.nd rfl (.inl rfl))
        (pss_cons (ps_set (i := 10) sc_law_circuit.nd rfl (.inl rfl) (pe_call G_law_draw (hr.mono (by omega)) (by rfl) g_law_draw k_law_draw b_law_draw .nil pass0 (pa_cons (pv 0) (pa_cons pe_int pa_nil))))
        (pss_one (ps_expr (pe_bm PySem.F.plainAttrs_list PySem.F.slot_list_append PySem.F.type_list_append mt_append (pv 8) (pa_cons (pe_tup (pa_cons (pv 10) (pa_cons (pe_op op_add (pe_op op_add (pv 10) pe_int) (pe_call G_law_draw (hr.mono (by omega)) (by rfl) g_law_draw k_law_draw b_law_draw .nil pass0 (pa_cons (pv 0) (pa_cons pe_int pa_nil)))) pa_nil))) pa_nil))))))
      (pss_cons (ps_expr (pe_bm PySem.F.plainAttrs_list PySem.F.slot_list_append PySem.F.type_list_append mt_append (pv 6) (pa_cons (pe_tup (pa_cons (pe_op op_add_str pe_str (pe_callTy call_str_int (by rfl) T.str (by decide +kernel) (pa_cons (pv 2) pa_nil))) (pa_cons (pe_call G_law_table (hr.mono (by omega)) (by rfl) g_law_table k_law_table b_law_table .nil pass0 (pa_cons (pv 0) (pa_cons (pe_callB call_len_seq (by rfl) T.len (by decide +kernel) (pa_cons (pv 7) pa_nil)) pa_nil))) (pa_cons (pv 7) (pa_cons (pe_callTy call_tuple_of (by rfl) T.tuple (by decide +kernel) (pa_cons (pv 8) pa_nil)) pa_nil))))) pa_nil)))
      (pss_one (ps_expr (pe_bm PySem.F.plainAttrs_list PySem.F.slot_list_append PySem.F.type_list_append mt_append (pv 5) (pa_cons (pe_op op_add_str pe_str (pe_callTy call_str_int (by rfl) T.str (by decide +kernel) (pa_cons (pv 2) pa_nil))) pa_nil)))))))))
    (pss_cons (ps_setLc (i := 11) (own := [("name", 13)]) (g := gName 13) (tt := tYes) rfl sc_law_circuit.nd rfl rfl (sw_true rfl rfl rfl (by decide +kernel)) (pi_list (pv 4)) (blkOk_by (N := ["pool", "most", "k", "inputs", "stored", "nets", "gates", "pins", "ranges", "pin", "low", "regs", "outputs", "name", "j"]) (sc := defScope s_law_circuit) (own := [("name", 13)]) (by decide +kernel)) (fun _ _ _ _ _ => (pg_name (i := 13) sc_law_circuit.nd rfl (.inl rfl))) (fun _ _ _ _ _ => pts_nil) (fun _ _ _ _ _ => (pe_call G_law_register (hr.mono (by omega)) (by rfl) g_law_register k_law_register b_law_register .nil pass0 (pa_cons (pv 0) (pa_cons (pv 13) (pa_cons (pe_ix (kIxL (K := K) rfl) (pv 5) (pe_call G_law_draw (hr.mono (by omega)) (by rfl) g_law_draw k_law_draw b_law_draw .nil pass0 (pa_cons (pv 0) (pa_cons (pe_callB (kLen (K := K) rfl) (by rfl) T.len (by decide +kernel) (pa_cons (pv 5) pa_nil)) pa_nil))) (fun _ _ => rfl)) pa_nil))))))
    (pss_cons (ps_setLc (i := 12) (own := [("k", 2)]) (g := gName 2) (tt := tYes) rfl sc_law_circuit.nd rfl rfl (sw_true rfl rfl rfl (by decide +kernel)) (pi_range1 rfl T.range (pa_cons (pe_call G_law_draw (hr.mono (by omega)) (by rfl) g_law_draw k_law_draw b_law_draw .nil pass0 (pa_cons (pv 0) (pa_cons pe_int pa_nil))) pa_nil)) (blkOk_by (N := ["pool", "most", "k", "inputs", "stored", "nets", "gates", "pins", "ranges", "pin", "low", "regs", "outputs", "name", "j"]) (sc := defScope s_law_circuit) (own := [("k", 2)]) (by decide +kernel)) (fun _ _ _ _ _ => (pg_name (i := 2) sc_law_circuit.nd rfl (.inl rfl))) (fun _ _ _ _ _ => pts_nil) (fun _ _ _ _ _ => (pe_tup (pa_cons (pe_op op_add_str pe_str (pe_callTy call_str_int (by rfl) T.str (by decide +kernel) (pa_cons (pv 2) pa_nil))) (pa_cons (pe_ix (kIxL (K := K) rfl) (pv 5) (pe_call G_law_draw (hr.mono (by omega)) (by rfl) g_law_draw k_law_draw b_law_draw .nil pass0 (pa_cons (pv 0) (pa_cons (pe_callB (kLen (K := K) rfl) (by rfl) T.len (by decide +kernel) (pa_cons (pv 5) pa_nil)) pa_nil))) (fun _ _ => rfl)) pa_nil)))))
    (pss_one (ps_ret (pe_tup (pa_cons (pe_callTy call_tuple_of (by rfl) T.tuple (by decide +kernel) (pa_cons (pv 3) pa_nil)) (pa_cons (pe_callTy call_tuple_of (by rfl) T.tuple (by decide +kernel) (pa_cons (pe_call G_law_shuffled (hr.mono (by omega)) (by rfl) g_law_shuffled k_law_shuffled b_law_shuffled .nil pass0 (pa_cons (pv 0) (pa_cons (pv 6) pa_nil))) pa_nil)) (pa_cons (pe_callTy call_tuple_of (by rfl) T.tuple (by decide +kernel) (pa_cons (pv 11) pa_nil)) (pa_cons (pe_callTy call_tuple_of (by rfl) T.tuple (by decide +kernel) (pa_cons (pv 12) pa_nil)) pa_nil)))))))))))))), ?_⟩
    -- inputs
    refine ⟨_, rfl, p, a, 3, rfl, by decide, by decide, hp, fun na H1 hna X1 _ => ⟨_, _, rfl, rfl, _, rfl, by omega, by omega, fun L3 nL3 => lcRv (fun k => .str (nm "i" k)) (by omega) (fun _ => rfl) (fun k H2 hk _ Q q => ?_) ?_⟩⟩
    · rw [Int.zero_add]
      have := nm_read nmi_str (k := k) (by omega)
      exact ⟨_, rfl, _, rfl, this.1, _, _, rfl, rfl, this.2, q⟩
    have e1 : ((1 : Int) + (na : Int)).toNat = na + 1 := by omega
    rw [e1] at *
    have X3 := X1.new (o := .lst ((List.range (na + 1)).map fun k => V.str (nm "i" k))) nL3
    have h3 : hid p (upd H1 L3 (.lst ((List.range (na + 1)).map fun k => V.str (nm "i" k)))) L3 = some (.lst (((List.range (na + 1)).map (nm "i")).map V.str)) := by
      rw [hid_new (X1.pool.ne nL3), List.map_map]; rfl
    generalize upd H1 L3 (.lst ((List.range (na + 1)).map fun k => V.str (nm "i" k))) = H2 at *
    -- stored
    refine ⟨_, rfl, p, a, 4, rfl, by decide, by decide, X3.pool, fun nb H3 hnb X4 _ => ⟨_, rfl, by omega, by omega, fun L4 nL4 => lcRv (fun k => .str (nm "r" k)) (by omega) (fun _ => rfl) (fun k H2 hk _ Q q => ?_) ?_⟩⟩
    · rw [Int.zero_add]
      have := nm_read nmr_str (k := k) (by omega)
      exact ⟨_, rfl, _, rfl, this.1, _, _, rfl, rfl, this.2, q⟩
    rw [Int.toNat_natCast] at *
    have n34 : L3 ≠ L4 := ne_of_none (hid_get (X4.get h3)) nL4
    have X5 := (X3.trans X4).new (o := .lst ((List.range nb).map fun k => V.str (nm "r" k))) nL4
    have h4 : hid p (upd H3 L4 (.lst ((List.range nb).map fun k => V.str (nm "r" k)))) L4 = some (.lst (((List.range nb).map (nm "r")).map V.str)) := by
      rw [hid_new (X4.pool.ne nL4), List.map_map]; rfl
    have h35 : hid p (upd H3 L4 (.lst ((List.range nb).map fun k => V.str (nm "r" k)))) L3 = some (.lst (((List.range (na + 1)).map (nm "i")).map V.str)) := keep1 (X4.get h3) n34 (X4.pool.ne nL4)
    generalize upd H3 L4 (.lst ((List.range nb).map fun k => V.str (nm "r" k))) = H4 at *
    generalize eIns : (List.range (na + 1)).map (nm "i") = ins at *
    generalize eRgs : (List.range nb).map (nm "r") = rgs at *
    have lIns : ins.length ≤ 3 := by rw [← eIns, List.length_map, List.length_range]; omega
    have lIns0 : 0 < ins.length := by rw [← eIns, List.length_map, List.length_range]; omega
    have lRgs : rgs.length ≤ 3 := by rw [← eRgs, List.length_map, List.length_range]; omega
    -- nets, gates
    refine ⟨_, rfl, _, rfl, L3, L4, _, _, rfl, rfl, hid_get h35, hid_get h4, sz_of (by rw [List.length_map, List.length_map]; omega), fun L5 nL5 => ⟨Nat.zero_le _, fun L6 nL6 => ?_⟩⟩
    rw [← List.map_append] at *
    have n35 : L3 ≠ L5 := ne_of_none (hid_get h35) nL5
    have n45 : L4 ≠ L5 := ne_of_none (hid_get h4) nL5
    have p5 := X5.pool.ne nL5
    have Y5 := X5.new (o := .lst ((ins ++ rgs).map V.str)) nL5
    have g3 : hid p (upd H4 L5 (.lst ((ins ++ rgs).map V.str))) L3 = some (.lst (ins.map V.str)) := keep1 h35 n35 p5
    have g4 : hid p (upd H4 L5 (.lst ((ins ++ rgs).map V.str))) L4 = some (.lst (rgs.map V.str)) := keep1 h4 n45 p5
    have g5 : hid p (upd H4 L5 (.lst ((ins ++ rgs).map V.str))) L5 = some (.lst ((ins ++ rgs).map V.str)) := hid_new p5
    have f5 : H L5 = none := X5.free nL5
    generalize upd H4 L5 (.lst ((ins ++ rgs).map V.str)) = H5 at *
    have n36 : L3 ≠ L6 := ne_of_none (hid_get g3) nL6
    have n46 : L4 ≠ L6 := ne_of_none (hid_get g4) nL6
    have n56 : L5 ≠ L6 := ne_of_none (hid_get g5) nL6
    have p6 := Y5.pool.ne nL6
    have f6 : H L6 = none := Y5.free nL6
    have Y6 := Y5.new (o := .lst []) nL6
    have k3 : hid p (upd H5 L6 (.lst [])) L3 = some (.lst (ins.map V.str)) := keep1 g3 n36 p6
    have k4 : hid p (upd H5 L6 (.lst [])) L4 = some (.lst (rgs.map V.str)) := keep1 g4 n46 p6
    have k5 : hid p (upd H5 L6 (.lst [])) L5 = some (.lst ((ins ++ rgs).map V.str)) := keep1 g5 n56 p6
    have k6 : hid p (upd H5 L6 (.lst [])) L6 = some (.lst []) := hid_new p6
    generalize upd H5 L6 (.lst []) = H6 at *
    refine ⟨_, rfl, _, rfl, _, _, rfl, rfl, p, a, (most : Int) + 1, rfl, by omega, by omega, Y6.pool, fun ng H7 hng X7 _ => ⟨ng, rfl, by omega, by omega, for_range (n := ((ng : Nat) : Int).toNat)
      (fun i σ H' => Px p a H H' ∧ hid p H' L3 = some (.lst (ins.map V.str)) ∧ hid p H' L4 = some (.lst (rgs.map V.str)) ∧ hid p H' L5 = some (.lst ((ins ++ rgs ++ (List.range i).map (nm "g")).map V.str)) ∧
        ∃ (ga : List Addr) (G : List GateD), hid p H' L6 = some (.lst (ga.map V.ref)) ∧ All2 (GateAt H') ga G ∧ G.length = i ∧ (∀ k g, G[k]? = some g → GateWf (ins ++ rgs ++ (List.range k).map (nm "g")) k g) ∧
        ∃ (x2 x7 x8 x9 x10 : Option V), σ = [some (.ref p), some (.int most), x2, some (.ref L3), some (.ref L4), some (.ref L5), some (.ref L6), x7, x8, x9, x10, none, none, none, none])
      ⟨Y6.trans X7, X7.get k3, X7.get k4, ?_, [], [], X7.get k6, .nil, rfl, (fun _ _ h => nomatch h), _, _, _, _, _, rfl⟩ ?_ ?_⟩⟩
    · rw [List.range_zero, List.map_nil, List.append_nil]; exact X7.get k5
    · rintro i σ H8 hi ⟨X8, q3, q4, q5, ga, G, q6, hG, hGi, hGw, x2, x7, x8, x9, x10, rfl⟩
      rw [Int.toNat_natCast] at hi
      have hi15 : i < 15 := by omega
      have lN : (ins ++ rgs ++ (List.range i).map (nm "g")).length ≤ 21 := by
        rw [List.length_append, List.length_append, List.length_map, List.length_range]; omega
      have lN0 : 0 < (ins ++ rgs ++ (List.range i).map (nm "g")).length := by
        rw [List.length_append, List.length_append]; omega
      have ei : (0 : Int) + (i : Int) = (i : Int) := Int.zero_add _
      rw [ei]
      generalize eN : ins ++ rgs ++ (List.range i).map (nm "g") = N at *
      -- pins
      refine ⟨(by show 6 ≤ sizeLine; decide), fun l nl => ⟨_, rfl, p, a, 6, rfl, by decide, by decide, (X8.new nl).pool, fun v H9 hv X9 kp => ?_⟩⟩
      have hl9 : H9 l = some (.lst [.int 1, .int 2, .int 2, .int 3, .int 0, .int 1]) := by rw [kp _ (X8.pool.ne nl)]; exact upd_same
      obtain ⟨m, hm3, hm⟩ : ∃ m : Nat, m ≤ 3 ∧ ([.int 1, .int 2, .int 2, .int 3, .int 0, .int 1] : List V)[v]? = some (.int m) := by
        match v, hv with
        | 0, _ => exact ⟨1, by decide, rfl⟩
        | 1, _ => exact ⟨2, by decide, rfl⟩
        | 2, _ => exact ⟨2, by decide, rfl⟩
        | 3, _ => exact ⟨3, by decide, rfl⟩
        | 4, _ => exact ⟨0, by decide, rfl⟩
        | 5, _ => exact ⟨1, by decide, rfl⟩
        | n + 6, h => exact absurd h (by omega)
      have Z9 := ((Px.refl X8.pool).new nl).trans X9
      refine ⟨_, _, _, _, rfl, rfl, SqL.of hl9, atI_nat hm, _, rfl, by omega, by omega, fun L7 nL7 => lc_range (lo := 0) (n := ((m : Nat) : Int).toNat)
        (fun j H' => Px p a H8 H' ∧ ∃ ps : List Str, ps.length = j ∧ (∀ x ∈ ps, x ∈ N) ∧ hid p H' L7 = some (.lst (ps.map V.str))) ⟨Z9.new nL7, [], rfl, (fun _ h => nomatch h), hid_new (X9.pool.ne nL7)⟩ ?_ ?_⟩
      · rintro j H10 hj ⟨X10, ps, hpj, hpN, hps⟩
        have f7 : H8 L7 = none := Z9.free nL7
        refine ⟨rfl, tYes_in ⟨_, rfl, _, rfl, _, rfl, _, _, rfl, .inl (SqL.of (X10.at_ q5)), p, a, N.length, by rw [List.length_map]; rfl, by omega, by omega, X10.pool, fun u H11 hu X11 _ => ?_⟩⟩
        have hu' : u < N.length := by omega
        have Z11 := X10.trans X11
        refine ⟨_, _, _, _, rfl, rfl, SqL.of (Z11.at_ q5), atI_nat (strV_at hu'), _, hid_get (X11.get hps), sz_lt (by rw [List.length_map]; omega), Z11.mut f7, ps ++ [N[u]], ?_, ?_, ?_⟩
        · rw [List.length_append, hpj]; rfl
        · intro x hx
          rcases List.mem_append.mp hx with z | z
          · exact hpN x z
          · rw [List.mem_singleton.mp z]; exact List.getElem_mem hu'
        · rw [hid_new (X8.pool.ne f7), List.map_append]; rfl
      · rintro H10 ⟨X10, ps, hpj, hpN, hps⟩
        rw [Int.toNat_natCast] at hpj
        refine ⟨_, _, rfl, .inl ⟨SqL.of (hid_get hps), fun pt npt => ?_⟩⟩
        have Z10 := X10.new (o := .tup (ps.map V.str)) npt
        have hpt : upd H10 pt (.tup (ps.map V.str)) pt = some (.tup (ps.map V.str)) := upd_same
        generalize upd H10 pt (.tup (ps.map V.str)) = H11 at *
        -- ranges
        refine ⟨Nat.zero_le _, fun L8 nL8 => ?_⟩
        have Z11 := Z10.new (o := .lst []) nL8
        have hpt2 : upd H11 L8 (.lst []) pt = some (.tup (ps.map V.str)) := Ex.new nL8 _ _ hpt
        have h8 : hid p (upd H11 L8 (.lst [])) L8 = some (.lst []) := hid_new (Z10.pool.ne nL8)
        have f8 : H8 L8 = none := Z10.free nL8
        have p8 := X8.pool.ne f8
        generalize upd H11 L8 (.lst []) = H12 at *
        refine ⟨_, rfl, pt, rfl, ⟨_, SqT.of hpt2⟩, for_tup (K := K) (a := pt) (xs := ps.map V.str)
          (fun j σ H' => Px p a H8 H' ∧ TEx H12 H' ∧ ∃ (ra : List Addr) (R : List (Int × Int)) (x9 x10 : Option V), hid p H' L8 = some (.lst (ra.map V.ref)) ∧ All2 (IntsAt H') ra R ∧ R.length = j ∧ (∀ r ∈ R, 0 ≤ r.1 ∧ r.1 ≤ 4 ∧ r.1 + 2 ≤ r.2 ∧ r.2 ≤ r.1 + 6) ∧
            σ = [some (.ref p), some (.int most), some (.int (i : Int)), some (.ref L3), some (.ref L4), some (.ref L5), some (.ref L6), some (.ref pt), some (.ref L8), x9, x10, none, none, none, none])
          ⟨Z11, .refl _, [], [], _, _, h8, .nil, rfl, (fun _ h => nomatch h), rfl⟩ (fun j σ H' _ g => SqT.of (g.2.1 _ _ hpt2)) ?_ ?_⟩
        · rintro j x σ H13 hx ⟨X13, T13, ra, R, x9, x10, hra, hR, hRj, hRw, rfl⟩
          have hj3 : j < 3 := by have := (List.getElem?_eq_some_iff.mp hx).1; rw [List.length_map] at this; omega
          refine ⟨_, rfl, p, a, 5, rfl, by decide, by decide, X13.pool, fun lo H14 hlo X14 _ => ?_⟩
          refine ⟨_, rfl, .inl ⟨rfl, _, SqL.of (hid_get (X14.get hra))⟩, _, rfl, _, rfl, _, _, rfl, rfl, _, rfl, p, a, 5, rfl, by decide, by decide, X14.pool, fun u H15 hu X15 _ => ⟨_, _, rfl, rfl, (by show 2 ≤ sizeLine; decide), fun e ne => ?_⟩⟩
          have X16 := (X14.trans X15).new (o := .tup [.int lo, .int ((lo : Int) + 2 + u)]) ne
          have hra16 := X16.get hra
          have T16 := TEx.px X16
          have he : upd H15 e (.tup [.int lo, .int ((lo : Int) + 2 + u)]) e = some (.tup [.int lo, .int ((lo : Int) + 2 + u)]) := upd_same
          generalize upd H15 e (.tup [.int lo, .int ((lo : Int) + 2 + u)]) = H16 at *
          refine ⟨L8, ra.map V.ref, .ref e, rfl, rfl, hid_get hra16, sz_lt (by rw [List.length_map, hR.1]; omega), (X13.trans X16).mut f8, T13.trans (T16.trans (TEx.mut (hid_get hra16))), ra ++ [e], R ++ [((lo : Int), (lo : Int) + 2 + u)], _, _, ?_, ?_, ?_, ?_, rfl⟩
          · rw [hid_new p8, List.map_append]; rfl
          · exact (hR.imp fun _ _ z => (z.te T16).te (TEx.mut (hid_get hra16))).snoc (TEx.mut (hid_get hra16) _ _ he)
          · rw [List.length_append, hRj]; rfl
          · intro r hr
            rcases List.mem_append.mp hr with z | z
            · exact hRw r z
            · rw [List.mem_singleton.mp z]
              refine ⟨?_, ?_, ?_, ?_⟩ <;> simp <;> omega
        · rintro σ H13 ⟨X13, T13, ra, R, x9, x10, hra, hR, hRj, hRw, rfl⟩
          have hs := nm_read nmg_str (k := i) (by omega)
          rw [List.length_map] at hRj
          refine ⟨_, rfl, .inl ⟨rfl, _, SqL.of (X13.at_ q6)⟩, _, rfl, _, rfl, hs.1, _, _, rfl, rfl, hs.2, ?_⟩
          refine ⟨_, rfl, _, rfl, _, _, rfl, .inr (SqT.of (T13 _ _ hpt2)), p, a, ps.length, by rw [List.length_map]; rfl, by omega, X13.pool, fun t bs H14 hbl X14 nt ht => ?_⟩
          have T14 := TEx.px X14
          refine ⟨_, rfl, _, rfl, _, _, rfl, .inl ⟨SqL.of (hid_get (X14.get hra)), fun rt nrt => ?_⟩⟩
          have X15 := X14.new (o := .tup (ra.map V.ref)) nrt
          have T15 := TEx.px X15
          have hrt : upd H14 rt (.tup (ra.map V.ref)) rt = some (.tup (ra.map V.ref)) := upd_same
          have ht15 : upd H14 rt (.tup (ra.map V.ref)) t = some (.tup (bs.map V.bl)) := Ex.new nrt _ _ ht
          generalize upd H14 rt (.tup (ra.map V.ref)) = H15 at *
          refine ⟨(by show 4 ≤ sizeLine; decide), fun g ngg => ?_⟩
          have X16 := X15.new (o := .tup [.str (("g" : Str) ++ Str.ofString (toString ((i : Nat) : Int))), .ref t, .ref pt, .ref rt]) ngg
          have T16 : TEx H13 (upd H15 g (.tup [.str (("g" : Str) ++ Str.ofString (toString ((i : Nat) : Int))), .ref t, .ref pt, .ref rt])) := TEx.px X16
          have hg16 : upd H15 g (.tup [.str (("g" : Str) ++ Str.ofString (toString ((i : Nat) : Int))), .ref t, .ref pt, .ref rt]) g = some (.tup [.str (("g" : Str) ++ Str.ofString (toString ((i : Nat) : Int))), .ref t, .ref pt, .ref rt]) := upd_same
          have ht16 := Ex.new (o := .tup [.str (("g" : Str) ++ Str.ofString (toString ((i : Nat) : Int))), .ref t, .ref pt, .ref rt]) ngg _ _ ht15
          have hrt16 := Ex.new (o := .tup [.str (("g" : Str) ++ Str.ofString (toString ((i : Nat) : Int))), .ref t, .ref pt, .ref rt]) ngg _ _ hrt
          have Z16 := X13.trans X16
          generalize upd H15 g (.tup [.str (("g" : Str) ++ Str.ofString (toString ((i : Nat) : Int))), .ref t, .ref pt, .ref rt]) = H16 at *
          have hG16 : GateAt H16 g ⟨nm "g" i, bs, ps, R⟩ := ⟨t, pt, rt, ra, hg16, ht16, (T13.trans T16) _ _ hpt2, hrt16, hR.imp fun _ _ z => z.te T16⟩
          have q6' := Z16.get q6
          have p6' := hid_neq q6'
          have p5' := hid_neq q5
          have T17 : TEx H16 (upd H16 L6 (.lst (ga.map V.ref ++ [.ref g]))) := TEx.mut (hid_get q6')
          have hGs : All2 (GateAt H16) ga G := hG.imp fun _ _ z => z.te (TEx.px Z16)
          refine ⟨L6, ga.map V.ref, .ref g, rfl, rfl, hid_get q6', sz_lt (by rw [List.length_map, hG.1]; omega), ?_⟩
          have r3 := keep1 (o' := .lst (ga.map V.ref ++ [.ref g])) (Z16.get q3) n36 p6'
          have r4 := keep1 (o' := .lst (ga.map V.ref ++ [.ref g])) (Z16.get q4) n46 p6'
          have r5 := keep1 (o' := .lst (ga.map V.ref ++ [.ref g])) (Z16.get q5) n56 p6'
          have r6 : hid p (upd H16 L6 (.lst (ga.map V.ref ++ [.ref g]))) L6 = some (.lst ((ga ++ [g]).map V.ref)) := by rw [hid_new p6', List.map_append]; rfl
          have X17 := ((X8.trans Z16)).mut (o := .lst (ga.map V.ref ++ [.ref g])) f6
          have hG17 : All2 (GateAt (upd H16 L6 (.lst (ga.map V.ref ++ [.ref g])))) (ga ++ [g]) (G ++ [⟨nm "g" i, bs, ps, R⟩]) := (hGs.imp fun _ _ z => z.te T17).snoc (hG16.te T17)
          generalize upd H16 L6 (.lst (ga.map V.ref ++ [.ref g])) = H17 at *
          refine ⟨_, rfl, .inl ⟨rfl, _, SqL.of (hid_get r5)⟩, _, rfl, _, rfl, hs.1, _, _, rfl, rfl, hs.2, L5, N.map V.str, .str (nm "g" i), rfl, rfl, hid_get r5, sz_lt (by rw [List.length_map]; omega), ?_⟩
          have T18 : TEx H17 (upd H17 L5 (.lst (N.map V.str ++ [.str (nm "g" i)]))) := TEx.mut (hid_get r5)
          refine ⟨X17.mut f5, keep1 r3 n35 p5', keep1 r4 n45 p5', ?_, ga ++ [g], G ++ [⟨nm "g" i, bs, ps, R⟩], keep1 r6 n56.symm p5', hG17.imp fun _ _ z => z.te T18, ?_, ?_, _, _, _, _, _, rfl⟩
          · rw [hid_new p5', nms_snoc, ← List.append_assoc, eN, List.map_append]; rfl
          · rw [List.length_append, hGi]; rfl
          · intro k g' hk
            by_cases hkl : k < G.length
            · rw [List.getElem?_append_left hkl] at hk; exact hGw k g' hk
            · rw [List.getElem?_append_right (by omega)] at hk
              have hk0 : k - G.length = 0 := by
                cases e : k - G.length with
                | zero => rfl
                | succ n => rw [e] at hk; exact nomatch hk
              rw [hk0] at hk
              have : k = i := by omega
              subst this
              cases hk
              exact ⟨rfl, by show ps.length ≤ 3; omega, by rw [eN]; exact hpN, hbl, hRj, hRw⟩
    · rintro σ H8 ⟨X8, q3, q4, q5, ga, G, q6, hG, hGi, hGw, x2, x7, x8, x9, x10, rfl⟩
      rw [Int.toNat_natCast] at hGi q5
      have lN : (ins ++ rgs ++ (List.range ng).map (nm "g")).length ≤ 21 := by
        rw [List.length_append, List.length_append, List.length_map, List.length_range]; omega
      have lN0 : 0 < (ins ++ rgs ++ (List.range ng).map (nm "g")).length := by
        rw [List.length_append, List.length_append]; omega
      generalize eN : ins ++ rgs ++ (List.range ng).map (nm "g") = N at *
      -- regs
      refine ⟨_, rfl, L4, rfl, ⟨_, SqL.of (hid_get q4)⟩, fun L11 nL11 => wk_list (K := K) (a := L4) (xs := rgs.map V.str)
        (fun j H' => Px p a H8 H' ∧ ∃ (ra : List Addr) (R : List RegD), hid p H' L11 = some (.lst (ra.map V.ref)) ∧ All2 (RegAt H') ra R ∧ R.map (·.name) = rgs.take j ∧ ∀ r ∈ R, RegWf r ∧ r.net ∈ N)
        ⟨(Px.refl X8.pool).new nL11, [], [], hid_new (X8.pool.ne nL11), .nil, (by rw [List.take_zero]; rfl), (fun _ h => nomatch h)⟩ (fun j H' _ g => SqL.of (g.1.at_ q4)) ?_ ?_⟩
      · rintro j x H9 hx ⟨X9, ra, R, hra, hR, hRn, hRw⟩
        have hj : j < rgs.length := by have := (List.getElem?_eq_some_iff.mp hx).1; rw [List.length_map] at this; exact this
        obtain rfl : x = .str rgs[j] := by rw [strV_at hj] at hx; exact (Option.some.inj hx).symm
        refine ⟨rfl, tYes_in ⟨_, rfl, _, rfl, _, rfl, _, rfl, _, rfl, _, _, rfl, .inl (SqL.of (X9.at_ q5)), p, a, N.length, by rw [List.length_map]; rfl, by omega, by omega, X9.pool, fun u H10 hu X10 _ => ?_⟩⟩
        have hu' : u < N.length := by omega
        refine ⟨_, _, _, _, rfl, rfl, SqL.of ((X9.trans X10).at_ q5), atI_nat (strV_at hu'), p, a, rgs[j], N[u], rfl, X10.pool, fun y r H11 X11 ny hr hn1 hn2 hw => ?_⟩
        have Z := X10.trans X11
        have hra' := Z.get hra
        refine ⟨_, hid_get hra', sz_lt (by rw [List.length_map, hR.1]; have := congrArg List.length hRn; rw [List.length_map, List.length_take] at this; omega), (X9.trans Z).mut nL11, ra ++ [y], R ++ [r], ?_, ?_, ?_, ?_⟩
        · rw [hid_new (X8.pool.ne nL11), List.map_append]; rfl
        · exact ((hR.imp fun _ _ z => z.te (TEx.px Z)).snoc hr).imp fun _ _ z => z.te (TEx.mut (hid_get hra'))
        · rw [List.map_append, hRn, List.take_add_one, List.getElem?_eq_getElem hj, ← hn1]; rfl
        · intro r' hr'
          rcases List.mem_append.mp hr' with z | z
          · exact hRw r' z
          · rw [List.mem_singleton.mp z]; exact ⟨hw, by rw [hn2]; exact List.getElem_mem hu'⟩
      rintro H9 ⟨X9, ra, R, hra, hR, hRn, hRw⟩
      rw [List.length_map, List.take_length] at hRn
      -- outputs
      refine ⟨_, rfl, p, a, 4, rfl, by decide, by decide, X9.pool, fun nq H10 hnq X10 _ => ⟨_, rfl, by omega, by omega, fun L12 nL12 => lc_range (lo := 0) (n := ((nq : Nat) : Int).toNat)
        (fun j H' => Px p a H10 H' ∧ ∃ (oa : List Addr) (O : List (Str × Str)), hid p H' L12 = some (.lst (oa.map V.ref)) ∧ All2 (OutAt H') oa O ∧ O.map (·.1) = (List.range j).map (nm "p") ∧ ∀ o ∈ O, o.2 ∈ N)
        ⟨(Px.refl X10.pool).new nL12, [], [], hid_new (X10.pool.ne nL12), .nil, rfl, (fun _ h => nomatch h)⟩ ?_ ?_⟩⟩
      · rintro j H11 hj ⟨X11, oa, O, hoa, hO, hOn, hOw⟩
        have hs := nm_read nmp_str (k := j) (by omega)
        have ej : (0 : Int) + (j : Int) = (j : Int) := Int.zero_add _
        rw [ej]
        have Z11 := (X9.trans X10).trans X11
        refine ⟨rfl, tYes_in ⟨_, rfl, _, rfl, hs.1, _, _, rfl, rfl, hs.2, _, rfl, _, rfl, _, rfl, _, _, rfl, .inl (SqL.of (Z11.at_ q5)), p, a, N.length, by rw [List.length_map]; rfl, by omega, by omega, X11.pool, fun u H12 hu X12 _ => ?_⟩⟩
        have hu' : u < N.length := by omega
        refine ⟨_, _, _, _, rfl, rfl, SqL.of ((Z11.trans X12).at_ q5), atI_nat (strV_at hu'), (by show 2 ≤ sizeLine; decide), fun e ne => ?_⟩
        have Z := X12.new (o := .tup [.str (("p" : Str) ++ Str.ofString (toString ((j : Nat) : Int))), .str N[u]]) ne
        have hoa' := Z.get hoa
        refine ⟨_, hid_get hoa', sz_lt (by rw [List.length_map, hO.1]; have := congrArg List.length hOn; rw [List.length_map, List.length_map, List.length_range] at this; omega), (X11.trans Z).mut nL12, oa ++ [e], O ++ [(nm "p" j, N[u])], ?_, ?_, ?_, ?_⟩
        · rw [hid_new (X10.pool.ne nL12), List.map_append]; rfl
        · exact ((hO.imp fun _ _ z => TEx.px Z _ _ z).snoc (show OutAt _ e (nm "p" j, N[u]) from upd_same)).imp fun _ _ z => TEx.mut (hid_get hoa') _ _ z
        · rw [List.map_append, hOn, nms_snoc]; rfl
        · intro o ho
          rcases List.mem_append.mp ho with z | z
          · exact hOw o z
          · rw [List.mem_singleton.mp z]; exact List.getElem_mem hu'
      rintro H11 ⟨X11, oa, O, hoa, hO, hOn, hOw⟩
      rw [Int.toNat_natCast] at hOn
      have Z11 := X9.trans (X10.trans X11)
      have T11 : TEx H9 H11 := TEx.px (X10.trans X11)
      refine ⟨_, rfl, _, _, rfl, .inl ⟨SqL.of (Z11.at_ q3), fun it nit => ?_⟩⟩
      have X12 := (Px.refl X11.pool).new (o := .tup (ins.map V.str)) nit
      have hit : upd H11 it (.tup (ins.map V.str)) it = some (.tup (ins.map V.str)) := upd_same
      generalize upd H11 it (.tup (ins.map V.str)) = H12 at *
      have hga12 := (Z11.trans X12).get q6
      refine ⟨_, rfl, _, rfl, p, a, L6, ga.map V.ref, rfl, X12.pool, hga12, by rw [List.length_map, hG.1]; omega, fun o ys H13 X13 no ho hperm => ?_⟩
      obtain ⟨gb, GB, rfl, hGB, hGp⟩ := perm_refs (hG.imp fun _ _ z => z.te (TEx.px (Z11.trans (X12.trans X13)))) hperm
      refine ⟨_, _, rfl, .inl ⟨SqL.of ho, fun gt ngt => ?_⟩⟩
      have X14 := X13.new (o := .tup (gb.map V.ref)) ngt
      have hgt : upd H13 gt (.tup (gb.map V.ref)) gt = some (.tup (gb.map V.ref)) := upd_same
      have T14 : TEx H13 (upd H13 gt (.tup (gb.map V.ref))) := TEx.new ngt
      generalize upd H13 gt (.tup (gb.map V.ref)) = H14 at *
      have Y14 := X12.trans X14
      refine ⟨_, rfl, _, _, rfl, .inl ⟨SqL.of (hid_get (Y14.get ((X10.trans X11).get hra))), fun rt nrt => ?_⟩⟩
      have X15 := Y14.new (o := .tup (ra.map V.ref)) nrt
      have hrt : upd H14 rt (.tup (ra.map V.ref)) rt = some (.tup (ra.map V.ref)) := upd_same
      have T15 : TEx H14 (upd H14 rt (.tup (ra.map V.ref))) := TEx.new nrt
      generalize upd H14 rt (.tup (ra.map V.ref)) = H15 at *
      refine ⟨_, rfl, _, _, rfl, .inl ⟨SqL.of (hid_get (X15.get hoa)), fun ot not => ?_⟩⟩
      have X16 := X15.new (o := .tup (oa.map V.ref)) not
      have hot : upd H15 ot (.tup (oa.map V.ref)) ot = some (.tup (oa.map V.ref)) := upd_same
      have T16 : TEx H15 (upd H15 ot (.tup (oa.map V.ref))) := TEx.new not
      generalize upd H15 ot (.tup (oa.map V.ref)) = H16 at *
      refine ⟨(by show 4 ≤ sizeLine; decide), fun c nc => ?_⟩
      have T17 : TEx H16 (upd H16 c (.tup [.ref it, .ref gt, .ref rt, .ref ot])) := TEx.new nc
      have T1114 := TEx.px Y14
      have T1117 := TEx.px X16
      refine q c ⟨ins, GB, R, O⟩ G it gt rt ot gb ra oa _ ((X8.trans (Z11.trans X16)).new nc) ⟨upd_same, ?_, ?_, ?_, ?_, ?_, ?_, ?_⟩ ⟨?_, ?_, ?_, ?_, ?_, ?_, ?_, ?_⟩
      · exact T17 _ _ (T16 _ _ (T15 _ _ (T14 _ _ (TEx.px X13 _ _ hit))))
      · exact T17 _ _ (T16 _ _ (T15 _ _ hgt))
      · exact T17 _ _ (T16 _ _ hrt)
      · exact T17 _ _ hot
      · exact hGB.imp fun _ _ z => z.te (T14.trans (T15.trans (T16.trans T17)))
      · exact hR.imp fun _ _ z => z.te (T11.trans (T1117.trans T17))
      · exact hO.imp fun _ _ z => (T1117.trans T17) _ _ z
      · exact ⟨na + 1, by omega, by omega, eIns.symm⟩
      · exact ⟨nb, by omega, hRn.trans eRgs.symm⟩
      · show G.length ≤ most
        omega
      · intro k g hk
        have := hGw k g hk
        show GateWf (ins ++ R.map (·.name) ++ _) k g
        rw [hRn]; exact this
      · exact hGp
      · intro r hr
        show RegWf r ∧ r.net ∈ ins ++ R.map (·.name) ++ (List.range G.length).map (nm "g")
        rw [hRn, hGi, eN]; exact hRw r hr
      · exact ⟨nq, by omega, hOn⟩
      · intro o ho
        show o.2 ∈ ins ++ R.map (·.name) ++ (List.range G.length).map (nm "g")
        rw [hRn, hGi, eN]; exact hOw o ho
end
end G
namespace G
open PySem PySem.Spec PyProof.Rows L2 Evl
/-! ## own classes of errors -/
def HasX (P : Program) (w : World) (K : PySem.W.Frag) (mg : Str → Option Value) (base : Heap) (k : Nat) (x : Str) (ps : List Str) (sp : Sp) : Prop :=
  ∃ (f : Addr) (fd : FuncData), FnOk P w K mg base (L2.CX P w) k f fd ps sp ∧ mg x = some (.ref f) ∧ PySem.W.keepIn K (.ref f) = true ∧ Binds K fd ps []
theorem passX0 {X : Cx} {P : Program} {w : World} : Passes (L2.CX P w) X (fun _ _ _ => False) := fun _ _ _ _ _ _ _ h => by
  obtain ⟨_, _, _, _, _, _, _, _, _, _, _, _, h⟩ := h
  exact h.elim
/-- an own class over ValueError without __init__, at C -/
structure ExcT (K : PySem.W.Frag) (mg : Str → Option Value) (x : Str) (C : Addr) : Prop where
  gC : mg x = some (.ref C)
  xP : PySem.W.excIn K C [.type "ValueError", .type "Exception", .type "BaseException", .type "object"] "ValueError.__new__" = true
  kC : PySem.W.keepIn K (.ref C) = true
  bC : PySem.W.subIn K (.ref C) (.type "BaseException") = some true
  tC : PySem.W.typeIn K (.ref C) = some (.type "type")
/-- what an except clause asks of the class that it names -/
structure ExcH (K : PySem.W.Frag) (mg : Str → Option Value) (x : Str) (C : Addr) : Prop where
  u : ExcT K mg x C
  dict : PySem.W.hasDictIn K C = true
  self : PySem.W.subIn K (.ref C) (.ref C) = some true
theorem ExcH.hit {K : PySem.W.Frag} {mg : Str → Option Value} {x : Str} {C : Addr} (U : ExcH K mg x C) : PySem.W.exmOne K (.ref C) (.ref C) = some true := PySem.W.exm_ref U.u.bC U.dict U.u.tC U.self
end G
namespace G
open PySem PySem.Spec PyProof.Rows L2 Evl TL
def namesD (d : CircD) : List Str := d.ins ++ d.gates.map (·.name) ++ d.regs.map (·.name)
structure TxtN (mg : Str → Option Value) : Prop where
  list : mg "list" = none
section
variable {P : Program} {w : World} {K : PySem.W.Frag} {mg : Str → Option Value} {base : Heap}
theorem gate_name {H : Hp} {a : Addr} {g : GateD} (h : GateAt H a g) : ∃ xs : List V, H a = some (.tup xs) ∧ xs[0]? = some (.str g.name) := by
  obtain ⟨t, pt, rt, ra, h1, _⟩ := h
  exact ⟨_, h1, rfl⟩
theorem reg_name {H : Hp} {a : Addr} {r : RegD} (h : RegAt H a r) : ∃ xs : List V, H a = some (.tup xs) ∧ xs[0]? = some (.str r.name) := by
  obtain ⟨ea, oa, h1, _⟩ := h
  exact ⟨_, h1, rfl⟩
def spNames : Sp := fun vs H Q _ => ∃ (c : Addr) (d : CircD) (it gt rt ot : Addr) (ga ra oa : List Addr), vs = [.ref c] ∧ CircAt H c d it gt rt ot ga ra oa ∧ (namesD d).length ≤ 1000 ∧ ∀ (l : Addr) (H' : Hp), H l = none → Ex H H' → H' l = some (.lst ((namesD d).map V.str)) → Q (.ref l) H'
theorem sc_all_names : FnScope ["circuit", "inputs", "gates", "regs", "_", "reg", "gate"] ["circuit"] (defScope s_all_names) := ⟨rfl, rfl, rfl, by decide +kernel, rfl, by decide +kernel, by decide +kernel⟩
theorem ok_all_names (D : Dfd K mg "_all_names" s_all_names ["circuit"]) (T : TxtN mg) : Has P w K mg base 1 "_all_names" ["circuit"] spNames := by
  refine D.has fun f fd F => F.ok sc_all_names (fun vs H Q E h => ?_) (fun cdv A outer s H vs Q E hr h => ?_)
  · obtain ⟨c, d, it, gt, rt, ot, ga, ra, oa, rfl, _⟩ := h
    rfl
  · obtain ⟨c, d, it, gt, rt, ot, ga, ra, oa, rfl, hc, hn, q⟩ := h
    have hlen : d.ins.length + d.gates.length + d.regs.length ≤ 1000 := by
      unfold namesD at hn
      rw [List.length_append, List.length_append, List.length_map, List.length_map] at hn
      omega
    refine ⟨_, (pss_cons (ps_asg (pv 0) (pg_tup rfl (pgs_cons (pg_name (i := 1) sc_all_names.nd rfl (.inl rfl)) (pgs_cons (pg_name (i := 2) sc_all_names.nd rfl (.inl rfl)) (pgs_cons (pg_name (i := 3) sc_all_names.nd rfl (.inl rfl)) (pgs_cons (pg_name (i := 4) sc_all_names.nd rfl (.inl rfl)) pgs_nil))))))
    (pss_one (ps_ret (pe_op op_cat (pe_op op_cat (pe_callTy call_list_of (by rfl) T.list (by decide +kernel) (pa_cons (pv 1) pa_nil)) (pe_lc (own := [("gate", 6)]) (g := gName 6) (tt := tYes) rfl sc_all_names.nd (pi_tup (pv 2)) (blkOk_by (N := ["circuit", "inputs", "gates", "regs", "_", "reg", "gate"]) (sc := defScope s_all_names) (own := [("gate", 6)]) (by decide +kernel)) (fun _ _ _ _ _ => (pg_name (i := 6) sc_all_names.nd rfl (.inl rfl))) (fun _ _ _ _ _ => pts_nil) (fun _ _ _ _ _ => (pe_ix (kIxT (K := K) rfl) (pv 6) pe_int (fun _ _ => rfl))))) (pe_lc (own := [("reg", 5)]) (g := gName 5) (tt := tYes) rfl sc_all_names.nd (pi_tup (pv 3)) (blkOk_by (N := ["circuit", "inputs", "gates", "regs", "_", "reg", "gate"]) (sc := defScope s_all_names) (own := [("reg", 5)]) (by decide +kernel)) (fun _ _ _ _ _ => (pg_name (i := 5) sc_all_names.nd rfl (.inl rfl))) (fun _ _ _ _ _ => pts_nil) (fun _ _ _ _ _ => (pe_ix (kIxT (K := K) rfl) (pv 5) pe_int (fun _ _ => rfl)))))))), ?_⟩
    refine ⟨_, rfl, c, _, rfl, SqT.of hc.top, rfl, _, _, rfl, _, _, rfl, _, _, rfl, _, _, rfl, rfl, ?_⟩
    refine ⟨_, rfl, _, _, rfl, .inr (SqT.of hc.ins), fun l1 n1 => ?_⟩
    have E1 : Ex H (upd H l1 (.lst (d.ins.map V.str))) := Ex.new n1
    have h1 : upd H l1 (.lst (d.ins.map V.str)) l1 = some (.lst (d.ins.map V.str)) := upd_same
    generalize upd H l1 (.lst (d.ins.map V.str)) = H1 at *
    have hc1 := hc.te (.of E1)
    refine ⟨_, rfl, gt, rfl, ⟨_, SqT.of hc1.gts⟩, fun L2 nL2 => wk_tup (K := K) (a := gt) (xs := ga.map V.ref) (fun j H' => Ex H1 H' ∧ H' L2 = some (.lst (((d.gates.map (·.name)).take j).map V.str))) ⟨Ex.new nL2, by rw [upd_same]; rfl⟩ (fun j H' _ g => SqT.of (g.1 _ _ hc1.gts)) ?_ ?_⟩
    · rintro j x H2 hx ⟨E2, hL⟩
      rw [List.getElem?_map] at hx
      cases e : ga[j]? with
      | none => rw [e] at hx; cases hx
      | some b =>
        rw [e] at hx; cases hx
        obtain ⟨g, hg, hgt⟩ := hc1.gates.at_ e
        obtain ⟨xs, hb, hx0⟩ := gate_name hgt
        have hj : j < d.gates.length := (List.getElem?_eq_some_iff.mp hg).1
        refine ⟨rfl, tYes_in ⟨_, rfl, _, _, _, _, rfl, rfl, SqT.of (E2 _ _ hb), atI_nat (j := 0) hx0, _, hL, sz_lt (by rw [List.length_map, List.length_take]; omega), E2.mut nL2, ?_⟩⟩
        rw [upd_same, List.take_add_one, List.getElem?_map, hg, List.map_append]; rfl
    rintro H2 ⟨E2, hL⟩
    rw [List.length_map, hc1.gates.1, ← List.length_map (f := fun g : GateD => g.name), List.take_length] at hL
    refine ⟨l1, L2, _, _, rfl, rfl, E2 _ _ h1, hL, sz_of (by rw [List.length_map, List.length_map, List.length_map]; omega), fun l3 n3 => ?_⟩
    rw [← List.map_append]
    have E3 : Ex H2 (upd H2 l3 (.lst ((d.ins ++ d.gates.map (·.name)).map V.str))) := Ex.new n3
    have h3 : upd H2 l3 (.lst ((d.ins ++ d.gates.map (·.name)).map V.str)) l3 = some (.lst ((d.ins ++ d.gates.map (·.name)).map V.str)) := upd_same
    generalize upd H2 l3 (.lst ((d.ins ++ d.gates.map (·.name)).map V.str)) = H3 at *
    have hc3 := hc.te (.of (E1.trans (E2.trans E3)))
    refine ⟨_, rfl, rt, rfl, ⟨_, SqT.of hc3.rgs⟩, fun L4 nL4 => wk_tup (K := K) (a := rt) (xs := ra.map V.ref) (fun j H' => Ex H3 H' ∧ H' L4 = some (.lst (((d.regs.map (·.name)).take j).map V.str))) ⟨Ex.new nL4, by rw [upd_same]; rfl⟩ (fun j H' _ g => SqT.of (g.1 _ _ hc3.rgs)) ?_ ?_⟩
    · rintro j x H4 hx ⟨E4, hL4⟩
      rw [List.getElem?_map] at hx
      cases e : ra[j]? with
      | none => rw [e] at hx; cases hx
      | some b =>
        rw [e] at hx; cases hx
        obtain ⟨g, hg, hgt⟩ := hc3.regs.at_ e
        obtain ⟨xs, hb, hx0⟩ := reg_name hgt
        have hj : j < d.regs.length := (List.getElem?_eq_some_iff.mp hg).1
        refine ⟨rfl, tYes_in ⟨_, rfl, _, _, _, _, rfl, rfl, SqT.of (E4 _ _ hb), atI_nat (j := 0) hx0, _, hL4, sz_lt (by rw [List.length_map, List.length_take]; omega), E4.mut nL4, ?_⟩⟩
        rw [upd_same, List.take_add_one, List.getElem?_map, hg, List.map_append]; rfl
    rintro H4 ⟨E4, hL4⟩
    rw [List.length_map, hc3.regs.1, ← List.length_map (f := fun g : RegD => g.name), List.take_length] at hL4
    refine ⟨l3, L4, _, _, rfl, rfl, E4 _ _ h3, hL4, sz_of (by rw [List.length_map, List.length_map, List.length_append, List.length_map, List.length_map]; omega), fun l5 n5 => ?_⟩
    have E5 := E1.trans (E2.trans (E3.trans E4))
    refine q l5 _ (fresh_back E5 n5) (E5.trans (Ex.new n5)) ?_
    rw [upd_same, ← List.map_append]; rfl
def spCheck (C : Addr) : Sp := fun vs H Q E => ∃ (c l : Addr) (d : CircD) (ns : List Str) (it gt rt ot : Addr) (ga ra oa : List Addr), vs = [.ref c, .ref l] ∧ CircAt H c d it gt rt ot ga ra oa ∧ (namesD d).length ≤ 1000 ∧ H l = some (.lst (ns.map V.str)) ∧ (∀ x ∈ ns, x.length ≤ 1000) ∧
  ((∀ x ∈ ns, x ∈ namesD d) → ∀ H', Ex H H' → Q .non H') ∧ ((∃ x ∈ ns, x ∉ namesD d) → ∀ H', Ex H H' → E (.ref C) none H')
theorem sc_check_nets : FnScope ["circuit", "names", "name", "nets"] ["circuit", "names"] (defScope s_check_nets) := ⟨rfl, rfl, rfl, by decide +kernel, rfl, by decide +kernel, by decide +kernel⟩
theorem ok_check_nets {C : Addr} (D : Dfd K mg "check_nets" s_check_nets ["circuit", "names"]) (U : ExcT K mg "UnknownName" C) (C1 : Has P w K mg base 1 "_all_names" ["circuit"] spNames) : HasX P w K mg base 2 "check_nets" ["circuit", "names"] (spCheck C) := by
  obtain ⟨f_all_names, d_all_names, G_all_names, g_all_names, k_all_names, b_all_names⟩ := C1
  obtain ⟨f, fd, F, gf, bf⟩ := D
  refine ⟨f, fd, F.okX sc_check_nets (fun vs H Q E h => ?_) (fun cdv A outer s H vs Q E hr h => ?_), gf, F.kp, bf⟩
  · obtain ⟨c, l, d, ns, it, gt, rt, ot, ga, ra, oa, rfl, _⟩ := h
    rfl
  · obtain ⟨c, l, d, ns, it, gt, rt, ot, ga, ra, oa, rfl, hc, hn, hl, hsm, q1, q2⟩ := h
    refine ⟨_, (pss_cons (ps_setDc (i := 3) (own := [("name", 2)]) (g := gName 2) (tt := tYes) rfl sc_check_nets.nd rfl rfl (sw_trueD rfl rfl rfl (by decide +kernel)) (pi_list (pe_call G_all_names (hr.mono (by omega)) (by rfl) g_all_names k_all_names b_all_names .nil pass0 (pa_cons (pv 0) pa_nil))) (blkOk_by (N := ["circuit", "names", "name", "nets"]) (sc := defScope s_check_nets) (own := [("name", 2)]) (by decide +kernel)) (fun _ _ _ _ _ => (pg_name (i := 2) sc_check_nets.nd rfl (.inl rfl))) (fun _ _ _ _ _ => pts_nil) (fun _ _ _ _ _ => (pv 2)) (fun _ _ _ _ _ => pe_bl))
    (pss_one (ps_for (passes_of rfl) rfl (pi_list (pv 1)) (pg_name (i := 2) sc_check_nets.nd rfl (.inl rfl))
      (pss_one (ps_if (pt_cmp (pc_dnotin (hu_of hr) (pv 2) (pv 3)))
        (pss_one (ps_raise rfl (takes_of rfl rfl rfl rfl) (pmk_ownA PySem.F.excBase_ValueError U.xP U.gC U.kC (raises_own U.bC U.tC) rfl (pa_cons (pe_joined (.cons (pe_fmt (pv 2)) (.cons pe_str .nil))) pa_nil))))
        pss_nil))))), ?_⟩
    have hn2 : (namesD d).length ≤ 1000 := hn
    refine ⟨_, rfl, c, d, it, gt, rt, ot, ga, ra, oa, rfl, hc, hn, fun L H1 nL E1 hL => ⟨L, rfl, ⟨_, SqL.of hL⟩, fun Dc nDc => wk_list (K := K) (a := L) (xs := (namesD d).map V.str)
      (fun j H' => Ex H1 H' ∧ ∃ es : List (Key × V), H' Dc = some (.dK es) ∧ es.length ≤ j ∧ ∀ x : Str, (valV es (.inr x)).isSome = decide (x ∈ (namesD d).take j))
      ⟨Ex.new nDc, [], upd_same, Nat.le_refl _, fun x => by rw [List.take_zero]; rfl⟩ (fun j H' _ g => SqL.of (g.1 _ _ hL)) ?_ ?_⟩⟩
    · rintro j x H2 hx ⟨E2, es, hD, hel, hk⟩
      have hj : j < (namesD d).length := by have := (List.getElem?_eq_some_iff.mp hx).1; rw [List.length_map] at this; exact this
      obtain rfl : x = .str (namesD d)[j] := by rw [strV_at hj] at hx; exact (Option.some.inj hx).symm
      refine ⟨rfl, tYes_in ⟨_, rfl, es, .inr (namesD d)[j], rfl, hD, sz_lt (by omega), E2.mut nDc, _, upd_same, Nat.le_trans (length_putK _ _ _) (Nat.succ_le_succ hel), fun x => ?_⟩⟩
      rw [valV_put, List.take_add_one, List.getElem?_eq_getElem hj]
      by_cases e : x = (namesD d)[j]
      · rw [if_pos (by rw [e]), decide_eq_true (by rw [e]; exact List.mem_append.mpr (.inr (List.mem_singleton.mpr rfl)))]; rfl
      · rw [if_neg (fun z => e (Sum.inr.inj z)), hk x, decide_eq_decide]
        exact ⟨fun h => List.mem_append.mpr (.inl h), fun h => (List.mem_append.mp h).elim id fun z => absurd (List.mem_singleton.mp z) e⟩
    rintro H2 ⟨E2, es, hD, hel, hk⟩
    rw [List.length_map, List.take_length] at hk
    have e2 := E1.trans E2
    refine ⟨_, rfl, l, rfl, ⟨_, SqL.of (e2 _ _ hl)⟩, for_list (K := K) (a := l) (xs := ns.map V.str)
      (fun i σ H' => Ex H2 H' ∧ (∀ x ∈ ns.take i, x ∈ namesD d) ∧ ∃ z : Option V, σ = [some (.ref c), some (.ref l), z, some (.ref Dc)]) ⟨.refl _, (by rw [List.take_zero]; exact fun _ h => nomatch h), _, rfl⟩ (fun i σ H' _ g => SqL.of (g.1 _ _ (e2 _ _ hl))) ?_ ?_⟩
    · rintro i x σ H3 hx ⟨E3, hall, z, rfl⟩
      have hi : i < ns.length := by have := (List.getElem?_eq_some_iff.mp hx).1; rw [List.length_map] at this; exact this
      obtain rfl : x = .str ns[i] := by rw [strV_at hi] at hx; exact (Option.some.inj hx).symm
      refine ⟨_, rfl, _, rfl, Dc, _, rfl, DGet.k (k := Sum.inr ns[i]) (E3 _ _ hD), _, rfl, ?_⟩
      rw [hk]
      cases hm : decide (ns[i] ∈ namesD d) with
      | true =>
        refine iteF ⟨E3, fun x hx => ?_, _, rfl⟩
        rw [List.take_add_one, List.getElem?_eq_getElem hi] at hx
        rcases List.mem_append.mp hx with z | z
        · exact hall x z
        · rw [List.mem_singleton.mp z]; exact of_decide_eq_true hm
      | false =>
        have hlen := hsm _ (List.getElem_mem hi)
        have hno := of_decide_eq_false hm
        have e1 : (Str.empty ++ ns[i]).length = ns[i].length := by
          rw [len_tl, tl_append, List.length_append, len_tl ns[i]]
          exact Nat.zero_add _
        refine iteT ⟨_, rfl, .inl ⟨ns[i], rfl, sz_of (by omega), ns[i], rfl, sz_of (by omega), " is not a net", rfl, sz_of ?_, (by show 1 ≤ sizeLine; decide), ?_⟩⟩
        · rw [len_tl, tl_append, List.length_append, ← len_tl (Str.empty ++ ns[i]), e1]
          have : (tl (" is not a net" : Str)).length = 13 := by decide +kernel
          omega
        · exact q2 ⟨ns[i], List.getElem_mem hi, hno⟩ H3 (e2.trans E3)
    · rintro σ H3 ⟨E3, hall, z, rfl⟩
      rw [List.length_map, List.take_length] at hall
      exact q1 hall H3 (e2.trans E3)
end
end G
namespace G
open PySem PySem.Spec PyProof.Rows L2 Evl TL
structure TxtR (mg : Str → Option Value) : Prop where
  list : mg "list" = none
  enumerate : mg "enumerate" = none
  set : mg "set" = none
  sorted : mg "sorted" = none
def pinsAt (d : CircD) (g : Nat) : List Str := ((d.gates[g]?).map (·.pins)).getD []
def rdG (g : Nat) (net : Str) (ps : List Str) (n : Nat) : List (Int × Int) := ((List.range n).filter fun j => decide (ps[j]? = some net)).map fun (j : Nat) => ((g : Int), (j : Int))
def readD (d : CircD) (net : Str) (n : Nat) : List (Int × Int) := (List.range n).flatMap fun g => rdG g net (pinsAt d g) (pinsAt d g).length
theorem rdG_succ (g : Nat) (net : Str) (ps : List Str) (n : Nat) : rdG g net ps (n + 1) = if decide (ps[n]? = some net) = true then rdG g net ps n ++ [((g : Int), (n : Int))] else rdG g net ps n := by
  unfold rdG
  rw [List.range_succ, List.filter_append, List.map_append]
  cases h : decide (ps[n]? = some net) with
  | true => rw [if_pos rfl, List.filter_cons_of_pos (p := fun j => decide (ps[j]? = some net)) h]; rfl
  | false => rw [if_neg Bool.false_ne_true, List.filter_cons_of_neg (p := fun j => decide (ps[j]? = some net)) (by rw [h]; decide)]; simp
theorem rdG_len (g : Nat) (net : Str) (ps : List Str) (n : Nat) : (rdG g net ps n).length ≤ n := by
  unfold rdG
  rw [List.length_map]
  have := List.length_filter_le (fun j => decide (ps[j]? = some net)) (List.range n)
  rw [List.length_range] at this; exact this
theorem readD_succ (d : CircD) (net : Str) (n : Nat) : readD d net (n + 1) = readD d net n ++ rdG n net (pinsAt d n) (pinsAt d n).length := by
  unfold readD
  rw [List.range_succ, List.flatMap_append]; simp
theorem readD_len (d : CircD) (net : Str) (h : ∀ g, (pinsAt d g).length ≤ 10) : ∀ n, (readD d net n).length ≤ 10 * n
  | 0 => Nat.le_refl _
  | n + 1 => by
    rw [readD_succ, List.length_append]
    have := readD_len d net h n
    have h2 := rdG_len n net (pinsAt d n) (pinsAt d n).length
    have h3 := h n
    omega
/-- small enough for every walk -/
structure CircSm (d : CircD) : Prop where
  names : (namesD d).length ≤ 1000
  gates : d.gates.length ≤ 50
  pins : ∀ g, (pinsAt d g).length ≤ 10
section
variable {P : Program} {w : World} {K : PySem.W.Frag} {mg : Str → Option Value} {base : Heap}
def spSources : Sp := fun vs H Q _ => ∃ (c : Addr) (d : CircD) (it gt rt ot : Addr) (ga ra oa : List Addr), vs = [.ref c] ∧ CircAt H c d it gt rt ot ga ra oa ∧ CircSm d ∧ ∀ (l : Addr) (H' : Hp), H l = none → Ex H H' → H' l = some (.lst ((d.ins ++ d.regs.map (·.name)).map V.str)) → Q (.ref l) H'
theorem regs_walk {te : TE} {σ : L2.St} {H : Hp} {L rt : Addr} {ra : List Addr} {d : CircD} {vs : List Nat} {i : Nat} {Qd : Hp → Prop} (hn : d.regs.length ≤ 1000) (nL : H L = none) (hr : H rt = some (.tup (ra.map V.ref))) (hR : All2 (RegAt H) ra d.regs) (hw : ∀ x, wipe ((wipe σ vs).set i (some x)) vs = wipe σ vs)
    (el : ∀ (a : Addr) (H' : Hp) (xs : List V) (n : Str) (Q : VK), H' a = some (.tup xs) → xs[0]? = some (.str n) → Q (.str n) H' → te ((wipe σ vs).set i (some (.ref a))) H' Q) (q : ∀ H', Ex H H' → H' L = some (.lst ((d.regs.map (·.name)).map V.str)) → Qd H') :
    ∃ W : Nat → Nat → Hp → Prop, (∃ m, W 0 m (upd H L (.lst []))) ∧ ∀ j m H, W j m H →
      ((Itt K rt).stop j H ∧ Qd H) ∨ ((Itt K rt).go j H ∧ ∃ Nx : Hp → Prop, (∀ H', Nx H' → ∃ m', m' < m ∧ W (j + 1) m' H') ∧ ∀ x H', (Itt K rt).yld j H x H' → gName i x (wipe σ vs) H' fun σ2 H2 => wipe σ2 vs = wipe σ vs ∧ tYes σ2 H2 fun b H3 =>
        if b = true then te σ2 H3 fun y H4 => ∃ acc, H4 L = some (.lst acc) ∧ acc.length < sizeLine ∧ Nx (upd H4 L (.lst (acc ++ [y]))) else Nx H3) := by
  refine wk_tup (K := K) (a := rt) (xs := ra.map V.ref) (fun j H' => Ex H H' ∧ H' L = some (.lst (((d.regs.map (·.name)).take j).map V.str))) ⟨Ex.new nL, by rw [upd_same]; rfl⟩ (fun j H' _ g => SqT.of (g.1 _ _ hr)) ?_ ?_
  · rintro j x H4 hx ⟨E4, hL4⟩
    obtain ⟨b, e, rfl⟩ := refs_get hx
    obtain ⟨g, hg, hgt⟩ := hR.at_ e
    obtain ⟨xs, hb, hx0⟩ := reg_name hgt
    have hj : j < d.regs.length := (List.getElem?_eq_some_iff.mp hg).1
    refine ⟨hw _, tYes_in (el b H4 xs g.name _ (E4 _ _ hb) hx0 ⟨_, hL4, sz_lt (by rw [List.length_map, List.length_take]; omega), E4.mut nL, ?_⟩)⟩
    rw [upd_same, List.take_add_one, List.getElem?_map, hg, List.map_append]; rfl
  · rintro H4 ⟨E4, hL4⟩
    rw [List.length_map, hR.1, ← List.length_map (f := fun g : RegD => g.name), List.take_length] at hL4
    exact q H4 E4 hL4
theorem sc_sources : FnScope ["circuit", "reg"] ["circuit"] (defScope s_sources) := ⟨rfl, rfl, rfl, by decide +kernel, rfl, by decide +kernel, by decide +kernel⟩
theorem ok_sources (D : Dfd K mg "sources" s_sources ["circuit"]) (T : TxtR mg) : Has P w K mg base 1 "sources" ["circuit"] spSources := by
  refine D.has fun f fd F => F.ok sc_sources (fun vs H Q E h => ?_) (fun cdv A outer s H vs Q E hr h => ?_)
  · obtain ⟨c, d, it, gt, rt, ot, ga, ra, oa, rfl, _⟩ := h
    rfl
  · obtain ⟨c, d, it, gt, rt, ot, ga, ra, oa, rfl, hc, hsm, q⟩ := h
    have hlen : d.ins.length + d.gates.length + d.regs.length ≤ 1000 := by
      have hn := hsm.names
      unfold namesD at hn
      rw [List.length_append, List.length_append, List.length_map, List.length_map] at hn
      omega
    refine ⟨_, (pss_one (ps_ret (pe_op op_cat (pe_callTy call_list_of (by rfl) T.list (by decide +kernel) (pa_cons (pe_ix ix_tup (pv 0) pe_int (fun _ _ => rfl)) pa_nil)) (pe_lc (own := [("reg", 1)]) (g := gName 1) (tt := tYes) rfl sc_sources.nd (pi_tup (pe_ix ix_tup (pv 0) pe_int (fun _ _ => rfl))) (blkOk_by (N := ["circuit", "reg"]) (sc := defScope s_sources) (own := [("reg", 1)]) (by decide +kernel)) (fun _ _ _ _ _ => (pg_name (i := 1) sc_sources.nd rfl (.inl rfl))) (fun _ _ _ _ _ => pts_nil) (fun _ _ _ _ _ => (pe_ix (kIxT (K := K) rfl) (pv 1) pe_int (fun _ _ => rfl))))))), ?_⟩
    refine ⟨_, rfl, _, _, _, _, rfl, rfl, SqT.of hc.top, atI_nat (j := 0) rfl, _, _, rfl, .inr (SqT.of hc.ins), fun l1 n1 => ?_⟩
    have E1 : Ex H (upd H l1 (.lst (d.ins.map V.str))) := Ex.new n1
    have h1 : upd H l1 (.lst (d.ins.map V.str)) l1 = some (.lst (d.ins.map V.str)) := upd_same
    generalize upd H l1 (.lst (d.ins.map V.str)) = H1 at *
    have hc1 := hc.te (.of E1)
    refine ⟨_, rfl, _, _, _, _, rfl, rfl, SqT.of hc1.top, atI_nat (j := 2) rfl, rt, rfl, ⟨_, SqT.of hc1.rgs⟩, fun L2 nL2 => regs_walk (by omega) nL2 hc1.rgs hc1.regs (fun _ => rfl) (fun a H' xs n Q ha hx q => ⟨_, rfl, _, _, _, _, rfl, rfl, SqT.of ha, atI_nat (j := 0) hx, q⟩) fun H2 E2 hL => ?_⟩
    refine ⟨l1, L2, _, _, rfl, rfl, E2 _ _ h1, hL, sz_of (by rw [List.length_map, List.length_map, List.length_map]; omega), fun l3 n3 => ?_⟩
    have E3 := E1.trans E2
    refine q l3 _ (fresh_back E3 n3) (E3.trans (Ex.new n3)) ?_
    rw [upd_same, ← List.map_append]
def spReaders (C : Addr) : Sp := fun vs H Q E => ∃ (c : Addr) (d : CircD) (net : Str) (it gt rt ot : Addr) (ga ra oa : List Addr), vs = [.ref c, .str net] ∧ CircAt H c d it gt rt ot ga ra oa ∧ CircSm d ∧ net.length ≤ 1000 ∧
  (net ∈ namesD d → ∀ (L : Addr) (as : List Addr) (H' : Hp), H L = none → Ex H H' → H' L = some (.lst (as.map V.ref)) → All2 (IntsAt H') as (readD d net d.gates.length) → Q (.ref L) H') ∧ (net ∉ namesD d → ∀ H', Ex H H' → E (.ref C) none H')
theorem decV_str2 (a b : Str) : decide (V.str a = V.str b) = decide (some a = some b) := by
  by_cases h : a = b
  · subst h; rw [decide_eq_true rfl, decide_eq_true rfl]
  · rw [decide_eq_false (fun z => h (V.str.inj z)), decide_eq_false (fun z => h (Option.some.inj z))]
theorem IntsAt.hid {H H' : Hp} {L a : Addr} {p : Int × Int} (e : Ex H H') (h : IntsAt (hid L H) a p) : IntsAt (hid L H') a p := by
  show G.hid L H' a = _
  rw [hid_ne (hid_neq h)]; exact e _ _ (hid_get h)
theorem sc_readers : FnScope ["circuit", "net", "g", "gate", "pin", "name"] ["circuit", "net"] (defScope s_readers) := ⟨rfl, rfl, rfl, by decide +kernel, rfl, by decide +kernel, by decide +kernel⟩
theorem ok_readers {C : Addr} (D : Dfd K mg "readers" s_readers ["circuit", "net"]) (T : TxtR mg) (C1 : HasX P w K mg base 2 "check_nets" ["circuit", "names"] (spCheck C)) : HasX P w K mg base 3 "readers" ["circuit", "net"] (spReaders C) := by
  obtain ⟨f_check_nets, d_check_nets, G_check_nets, g_check_nets, k_check_nets, b_check_nets⟩ := C1
  obtain ⟨f, fd, F, gf, bf⟩ := D
  refine ⟨f, fd, F.okX sc_readers (fun vs H Q E h => ?_) (fun cdv A outer s H vs Q E hr h => ?_), gf, F.kp, bf⟩
  · obtain ⟨c, d, net, it, gt, rt, ot, ga, ra, oa, rfl, _⟩ := h
    rfl
  · obtain ⟨c, d, net, it, gt, rt, ot, ga, ra, oa, rfl, hc, hsm, hnl, q1, q2⟩ := h
    refine ⟨_, (pss_cons (ps_expr (pe_call G_check_nets (hr.mono (by omega)) (by rfl) g_check_nets k_check_nets b_check_nets .nil (passes_call (takes_of rfl rfl rfl rfl) (fun _ _ _ _ h => h)) (pa_cons (pv 0) (pa_cons (pe_lst (pa_cons (pv 1) pa_nil)) pa_nil))))
    (pss_one (ps_ret (pe_lc2 (own := [("g", 2), ("gate", 3), ("pin", 4), ("name", 5)]) (vs1 := [4, 5]) (g := (gTup K 2 (gCons (gName 2) (gCons (gName 3) gNil)))) (tt := tYes) (g1 := (gTup K 2 (gCons (gName 4) (gCons (gName 5) gNil)))) (tt1 := _) rfl sc_readers.nd (pi_enumT (by rfl) T.enumerate (pa_cons (pe_ix ix_tup (pv 0) pe_int (fun _ _ => rfl)) pa_nil)) (blkOk_by (N := ["circuit", "net", "g", "gate", "pin", "name"]) (sc := defScope s_readers) (own := [("g", 2), ("gate", 3), ("pin", 4), ("name", 5)]) (by decide +kernel)) (by decide) (fun _ _ _ _ _ => (pg_tup rfl (pgs_cons (pg_name (i := 2) sc_readers.nd rfl (.inl rfl)) (pgs_cons (pg_name (i := 3) sc_readers.nd rfl (.inl rfl)) pgs_nil)))) (fun _ _ _ _ _ => pts_nil) (fun _ _ _ _ _ => (kPiEnumT (K := K) rfl (by rfl) T.enumerate (pa_cons (pe_ix (kIxT (K := K) rfl) (pv 3) pe_int (fun _ _ => rfl)) pa_nil))) (fun _ _ _ _ _ => (pg_tup rfl (pgs_cons (pg_name (i := 4) sc_readers.nd rfl (.inl rfl)) (pgs_cons (pg_name (i := 5) sc_readers.nd rfl (.inl rfl)) pgs_nil)))) (fun _ _ _ _ _ => pts_one (pt_cmpR op_eq (pv 5) (pv 1) (nomark _))) (fun _ _ _ _ _ => (pe_tup (pa_cons (pv 2) (pa_cons (pv 4) pa_nil)))))))), ?_⟩
    refine ⟨_, rfl, _, rfl, (by show 1 ≤ sizeLine; decide), fun l nl => ?_⟩
    have E1 : Ex H (upd H l (.lst [.str net])) := Ex.new nl
    have hl : upd H l (.lst [.str net]) l = some (.lst [.str net]) := upd_same
    generalize upd H l (.lst [.str net]) = H1 at *
    have hc1 := hc.te (.of E1)
    refine ⟨c, l, d, [net], it, gt, rt, ot, ga, ra, oa, rfl, hc1, hsm.names, hl, (fun x hx => by rw [List.mem_singleton.mp hx]; exact hnl), fun hall H2 E2 => ?_, fun hno H2 E2 => ?_⟩
    · have hin : net ∈ namesD d := hall net (List.mem_singleton.mpr rfl)
      have e2 := E1.trans E2
      have hc2 := hc.te (.of e2)
      refine ⟨_, rfl, _, _, _, _, rfl, rfl, SqT.of hc2.top, atI_nat (j := 1) rfl, gt, _, rfl, SqT.of hc2.gts, fun L nL => wk_it walk_enumT
        (fun k H' => Ex H2 H' ∧ ∃ as : List Addr, H' L = some (.lst (as.map V.ref)) ∧ All2 (IntsAt (hid L H')) as (readD d net k)) ⟨Ex.new nL, [], upd_same, .nil⟩ (fun k H' _ g => SqT.of (g.1 _ _ hc2.gts)) ?_ ?_⟩
      · rintro k x H3 H4 hk ⟨E3, as, hL, hA⟩ ⟨A1, x0, y0, rfl, nA, rfl, hx, hy⟩
        obtain rfl : V.int (k : Nat) = x0 := Option.some.inj hx
        obtain ⟨b, hb, rfl⟩ := refs_get (show (ga.map V.ref)[k]? = some y0 from hy)
        obtain ⟨g, hg, t, pt, rgt, rga, hg1, hg2, hg3, _⟩ := hc2.gates.at_ hb
        have hpk : pinsAt d k = g.pins := by unfold pinsAt; rw [hg]; rfl
        have hpl : g.pins.length ≤ 10 := by rw [← hpk]; exact hsm.pins k
        have nLA : L ≠ A1 := ne_of_none hL nA
        have E4 : Ex H3 (upd H3 A1 (.tup [V.int (k : Nat), .ref b])) := Ex.new nA
        refine ⟨A1, _, rfl, SqT.of upd_same, rfl, _, _, rfl, _, _, rfl, rfl, rfl, tYes_in ?_⟩
        generalize upd H3 A1 (.tup [V.int (k : Nat), .ref b]) = H4 at *
        have e34 := E3.trans E4
        refine ⟨_, rfl, _, _, _, _, rfl, rfl, SqT.of (e34 _ _ hg1), atI_nat (j := 2) rfl, pt, _, rfl, SqT.of (e34 _ _ hg3), ?_⟩
        refine wk_it walk_enumT (fun j H' => Ex H2 H' ∧ ∃ as : List Addr, H' L = some (.lst (as.map V.ref)) ∧ All2 (IntsAt (hid L H')) as (readD d net k ++ rdG k net g.pins j)) ⟨e34, as, E4 _ _ hL, ?_⟩ (fun j H' _ g => SqT.of (g.1 _ _ hg3)) ?_ ?_
        · rw [show rdG k net g.pins 0 = [] from rfl, List.append_nil]
          exact hA.imp fun _ _ z => z.hid E4
        · rintro j y H5 H6 hj ⟨E5, as, hL, hA⟩ ⟨A2, x1, y1, rfl, nA2, rfl, hx1, hy1⟩
          rw [List.length_map] at hj
          obtain rfl : V.int (j : Nat) = x1 := Option.some.inj hx1
          obtain rfl : y1 = .str g.pins[j] := by
            have hy1 : (g.pins.map V.str)[j]? = some y1 := hy1
            rw [strV_at hj] at hy1; exact (Option.some.inj hy1).symm
          have E6 : Ex H5 (upd H5 A2 (.tup [V.int (j : Nat), .str g.pins[j]])) := Ex.new nA2
          refine ⟨A2, _, rfl, SqT.of upd_same, rfl, _, _, rfl, _, _, rfl, rfl, rfl, ?_⟩
          generalize upd H5 A2 (.tup [V.int (j : Nat), .str g.pins[j]]) = H6 at *
          have e56 := E5.trans E6
          have hat := rdG_succ k net g.pins j
          rw [List.getElem?_eq_getElem hj] at hat
          refine ⟨_, rfl, _, rfl, rfl, _, rfl, ?_⟩
          rw [decV_str2]
          cases hd : decide (some g.pins[j] = some net) with
          | false =>
            rw [hd, if_neg Bool.false_ne_true] at hat
            refine iteF ⟨e56, as, E6 _ _ hL, ?_⟩
            rw [hat]
            exact hA.imp fun _ _ z => z.hid E6
          | true =>
            rw [hd, if_pos rfl] at hat
            refine iteT ⟨_, rfl, _, rfl, (by show 2 ≤ sizeLine; decide), fun e ne => ?_⟩
            have hL6 := E6 _ _ hL
            have nLe : L ≠ e := ne_of_none hL6 ne
            have E7 : Ex H6 (upd H6 e (.tup [.int (k : Nat), .int (j : Nat)])) := Ex.new ne
            have he : upd H6 e (.tup [.int (k : Nat), .int (j : Nat)]) e = some (.tup [.int (k : Nat), .int (j : Nat)]) := upd_same
            generalize upd H6 e (.tup [.int (k : Nat), .int (j : Nat)]) = H7 at *
            refine ⟨_, E7 _ _ hL6, sz_lt ?_, (e56.trans E7).mut nL, as ++ [e], by rw [upd_same, List.map_append]; rfl, ?_⟩
            · rw [List.length_map, hA.1, List.length_append]
              have h1 := readD_len d net hsm.pins k
              have h2 := rdG_len k net g.pins j
              have h3 : k < ga.length := by rw [List.length_map] at hk; exact hk
              have h4 := hc2.gates.1
              have h5 := hsm.gates
              omega
            · rw [hat, ← List.append_assoc, hid_upd]
              refine (hA.imp fun _ _ z => z.hid (E6.trans E7)).snoc ?_
              show G.hid L H7 e = _
              rw [hid_ne nLe.symm]; exact he
        · rintro H5 ⟨E5, as, hL, hA⟩
          refine ⟨E5, as, hL, ?_⟩
          rw [readD_succ, hpk]
          rw [List.length_map] at hA
          exact hA
      · rintro H3 ⟨E3, as, hL, hA⟩
        rw [List.length_map, hc2.gates.1] at hA
        exact q1 hin L as H3 (fresh_back e2 nL) (e2.trans E3) hL (hA.imp fun _ _ z => hid_get z)
    · obtain ⟨x, hx, hxn⟩ := hno
      rw [List.mem_singleton.mp hx] at hxn
      exact q2 hxn H2 (E1.trans E2)
end
end G
namespace G
open PySem PySem.Spec PyProof.Rows L2 Evl TL
def occD (d : CircD) (s : Str) (n : Nat) : List Int := (readD d s n).map (·.1)
/-- the dict at fd: each net's list of the gates that read it -/
structure ByNet (H0 H : Hp) (fd : Addr) (es : List (Key × V)) (occ : Str → List Int) : Prop where
  some_ : ∀ s v, valV es (.inr s) = some v → ∃ L : Addr, v = .ref L ∧ H L = some (.lst ((occ s).map V.int)) ∧ H0 L = none
  none_ : ∀ s, valV es (.inr s) = none → occ s = []
  inj : ∀ s t (L : Addr), valV es (.inr s) = some (.ref L) → valV es (.inr t) = some (.ref L) → s = t
theorem valS_put (es : List (Key × V)) (a s : Str) (y : V) : valV (putK es (.inr a) y) (.inr s) = if s = a then some y else valV es (.inr s) := by
  rw [valV_put]
  by_cases e : s = a
  · rw [if_pos e, if_pos (by rw [e])]
  · rw [if_neg e, if_neg (fun z => e (Sum.inr.inj z))]
theorem ByNet.old {H0 H : Hp} {fd L : Addr} {es : List (Key × V)} {occ : Str → List Int} {s0 : Str} {g : Int} (B : ByNet H0 H fd es occ) (h : valV es (.inr s0) = some (.ref L)) (occ' : Str → List Int) (ho : ∀ s, occ' s = if s = s0 then occ s ++ [g] else occ s) :
    ByNet H0 (upd H L (.lst ((occ s0).map V.int ++ [.int g]))) fd es occ' := by
  refine ⟨fun s v hv => ?_, fun s hs => ?_, B.inj⟩
  · obtain ⟨L2, rfl, h2, h3⟩ := B.some_ s v hv
    by_cases e : s = s0
    · subst e
      have : L2 = L := V.ref.inj (Option.some.inj (hv.symm.trans h))
      subst this
      refine ⟨L2, rfl, ?_, h3⟩
      rw [upd_same, ho, if_pos rfl, List.map_append]; rfl
    · have hne : L2 ≠ L := fun z => e (B.inj s s0 L (z ▸ hv) h)
      refine ⟨L2, rfl, ?_, h3⟩
      rw [upd_ne hne, ho, if_neg e]; exact h2
  · rw [ho]
    by_cases e : s = s0
    · subst e; rw [h] at hs; cases hs
    · rw [if_neg e]; exact B.none_ s hs
theorem ByNet.new_ {H0 H : Hp} {fd L : Addr} {es : List (Key × V)} {occ : Str → List Int} {s0 : Str} {g : Int} {o1 : HO} (B : ByNet H0 H fd es occ) (h : valV es (.inr s0) = none) (hd : ∃ es', H fd = some (.dK es')) (nL : H L = none) (nL0 : H0 L = none) (occ' : Str → List Int) (ho : ∀ s, occ' s = if s = s0 then occ s ++ [g] else occ s) :
    ByNet H0 (upd (upd (upd H L (.lst [])) fd o1) L (.lst ([] ++ [.int g]))) fd (putK es (.inr s0) (.ref L)) occ' := by
  obtain ⟨es', hd⟩ := hd
  refine ⟨fun s v hv => ?_, fun s hs => ?_, fun s t L2 h1 h2 => ?_⟩
  · rw [valS_put] at hv
    by_cases e : s = s0
    · rw [if_pos e] at hv
      cases hv
      refine ⟨L, rfl, ?_, nL0⟩
      rw [upd_same, ho, if_pos e, e, B.none_ s0 h]; rfl
    · rw [if_neg e] at hv
      obtain ⟨L2, rfl, h2, h3⟩ := B.some_ s v hv
      have n1 : L2 ≠ L := ne_of_none h2 nL
      have n2 : L2 ≠ fd := ne_of h2 hd (by intro z; cases z)
      refine ⟨L2, rfl, ?_, h3⟩
      rw [upd_ne n1, upd_ne n2, upd_ne n1, ho, if_neg e]; exact h2
  · rw [valS_put] at hs
    by_cases e : s = s0
    · rw [if_pos e] at hs; cases hs
    · rw [if_neg e] at hs
      rw [ho, if_neg e]; exact B.none_ s hs
  · rw [valS_put] at h1 h2
    have fresh : ∀ u, u ≠ s0 → valV es (.inr u) = some (.ref L2) → L2 ≠ L := fun u _ hu => by
      obtain ⟨L3, e3, h3, _⟩ := B.some_ u _ hu
      have : L2 = L3 := V.ref.inj e3
      subst this
      exact ne_of_none h3 nL
    by_cases e1 : s = s0
    · by_cases e2 : t = s0
      · rw [e1, e2]
      · rw [if_pos e1] at h1
        rw [if_neg e2] at h2
        exact absurd (V.ref.inj (Option.some.inj h1)).symm (fresh t e2 h2)
    · rw [if_neg e1] at h1
      by_cases e2 : t = s0
      · rw [if_pos e2] at h2
        exact absurd (V.ref.inj (Option.some.inj h2)).symm (fresh s e1 h1)
      · rw [if_neg e2] at h2
        exact B.inj s t L2 h1 h2
theorem ByNet.ex {H0 H H' : Hp} {fd : Addr} {es : List (Key × V)} {occ : Str → List Int} (B : ByNet H0 H fd es occ) (e : Ex H H') : ByNet H0 H' fd es occ :=
  ⟨fun s v hv => by obtain ⟨L, h1, h2, h3⟩ := B.some_ s v hv; exact ⟨L, h1, e _ _ h2, h3⟩, B.none_, B.inj⟩
section
variable {P : Program} {w : World} {K : PySem.W.Frag} {mg : Str → Option Value} {base : Heap}
def spBy : Sp := fun vs H Q _ => ∃ (gt : Addr) (d : CircD) (ga : List Addr), vs = [.ref gt] ∧ H gt = some (.tup (ga.map V.ref)) ∧ All2 (GateAt H) ga d.gates ∧ CircSm d ∧ ∀ (fd : Addr) (es : List (Key × V)) (H' : Hp), H fd = none → Ex H H' → H' fd = some (.dK es) → ByNet H H' fd es (fun s => occD d s d.gates.length) → Q (.ref fd) H'
theorem sc_gates_by_net : FnScope ["gates", "found", "g", "gate", "net"] ["gates"] (defScope s_gates_by_net) := ⟨rfl, rfl, rfl, by decide +kernel, rfl, by decide +kernel, by decide +kernel⟩
theorem ok_gates_by_net (D : Dfd K mg "_gates_by_net" s_gates_by_net ["gates"]) (T : TxtR mg) : Has P w K mg base 1 "_gates_by_net" ["gates"] spBy := by
  refine D.has fun f fd F => F.ok sc_gates_by_net (fun vs H Q E h => ?_) (fun cdv A outer s H vs Q E hr h => ?_)
  · obtain ⟨gt, d, ga, rfl, _⟩ := h
    rfl
  · obtain ⟨gt, d, ga, rfl, hgt, hG, hsm, q⟩ := h
    refine ⟨_, (pss_cons (ps_set (i := 1) sc_gates_by_net.nd rfl (.inl rfl) pe_dnewK)
    (pss_cons (ps_for PassesOwn.never rfl (pi_enumT (by rfl) T.enumerate (pa_cons (pv 0) pa_nil)) (pg_tup rfl (pgs_cons (pg_name (i := 2) sc_gates_by_net.nd rfl (.inl rfl)) (pgs_cons (pg_name (i := 3) sc_gates_by_net.nd rfl (.inl rfl)) pgs_nil)))
      (pss_one (ps_for PassesOwn.never rfl (pi_tup (pe_ix ix_tup (pv 3) pe_int (fun _ _ => rfl))) (pg_name (i := 4) sc_gates_by_net.nd rfl (.inl rfl))
        (pss_one (ps_expr (pe_bm PySem.F.plainAttrs_list PySem.F.slot_list_append PySem.F.type_list_append mt_append (pe_dsetd (pv 1) (pv 4) (pe_lst pa_nil) ⟨rfl, rfl, rfl, rfl⟩) (pa_cons (pv 2) pa_nil)))))))
    (pss_one (ps_ret (pv 1))))), ?_⟩
    refine fun D0 nD0 => ⟨_, rfl, gt, _, rfl, SqT.of (Ex.new nD0 _ _ hgt), for_it walk_enumT
      (fun i σ H' => Ex H H' ∧ (∃ es : List (Key × V), H' D0 = some (.dK es) ∧ es.length ≤ 10 * i ∧ ByNet H H' D0 es (fun s => occD d s i)) ∧ ∃ (x y z : Option V), σ = [some (.ref gt), some (.ref D0), x, y, z])
      ⟨Ex.new nD0, ⟨[], upd_same, Nat.le_refl _, ⟨(fun s v h => nomatch h), (fun _ _ => rfl), (fun s t L h => nomatch h)⟩⟩, _, _, _, rfl⟩ (fun i σ H' _ g => SqT.of (g.1 _ _ hgt)) ?_ ?_⟩
    · rintro i x σ H1 H2 hi ⟨E1, ⟨es, hD, hel, hB⟩, x2, y2, z2, rfl⟩ ⟨A1, x0, y0, rfl, nA, rfl, hx, hy⟩
      rw [List.length_map] at hi
      obtain rfl : V.int (i : Nat) = x0 := Option.some.inj hx
      obtain ⟨b, hb, rfl⟩ := refs_get (show (ga.map V.ref)[i]? = some y0 from hy)
      obtain ⟨g, hg, t, pt, rgt, rga, hg1, hg2, hg3, _⟩ := hG.at_ hb
      have hpk : pinsAt d i = g.pins := by unfold pinsAt; rw [hg]; rfl
      have hpl : g.pins.length ≤ 10 := by rw [← hpk]; exact hsm.pins i
      have E2 : Ex H1 (upd H1 A1 (.tup [V.int (i : Nat), .ref b])) := Ex.new nA
      refine ⟨A1, _, rfl, SqT.of upd_same, rfl, _, _, rfl, _, _, rfl, rfl, ?_⟩
      generalize upd H1 A1 (.tup [V.int (i : Nat), .ref b]) = H2 at *
      have e12 := E1.trans E2
      refine ⟨_, rfl, _, _, _, _, rfl, rfl, SqT.of (e12 _ _ hg1), atI_nat (j := 2) rfl, pt, rfl, ⟨_, SqT.of (e12 _ _ hg3)⟩, for_tup (K := K) (a := pt) (xs := g.pins.map V.str)
        (fun j σ H' => Ex H H' ∧ (∃ es : List (Key × V), H' D0 = some (.dK es) ∧ es.length ≤ 10 * i + j ∧ ByNet H H' D0 es (fun s => (readD d s i ++ rdG i s g.pins j).map (·.1))) ∧ ∃ (z : Option V), σ = [some (.ref gt), some (.ref D0), some (.int (i : Nat)), some (.ref b), z])
        ⟨e12, ⟨es, E2 _ _ hD, hel, ?_⟩, _, rfl⟩ (fun j σ H' _ g => SqT.of (g.1 _ _ hg3)) ?_ ?_⟩
      · have := hB.ex E2
        have e : (fun s => (readD d s i ++ rdG i s g.pins 0).map (·.1)) = fun s => occD d s i := by
          funext s
          rw [show rdG i s g.pins 0 = [] from rfl, List.append_nil]; rfl
        rw [e]; exact this
      · rintro j y σ H3 hy ⟨E3, ⟨es, hD, hel, hB⟩, z, rfl⟩
        have hj : j < g.pins.length := by have := (List.getElem?_eq_some_iff.mp hy).1; rw [List.length_map] at this; exact this
        obtain rfl : y = .str g.pins[j] := by rw [strV_at hj] at hy; exact (Option.some.inj hy).symm
        have hocc : ∀ s, (readD d s i ++ rdG i s g.pins (j + 1)).map (·.1) = if s = g.pins[j] then (readD d s i ++ rdG i s g.pins j).map (·.1) ++ [(i : Int)] else (readD d s i ++ rdG i s g.pins j).map (·.1) := fun s => by
          rw [rdG_succ, List.getElem?_eq_getElem hj]
          by_cases e : s = g.pins[j]
          · rw [if_pos e, if_pos (decide_eq_true (by rw [e])), ← List.append_assoc, List.map_append (l₂ := [((i : Int), (j : Int))])]; rfl
          · rw [if_neg e, if_neg (by rw [decide_eq_false (fun z => e (Option.some.inj z).symm)]; decide)]
        have hlo : ∀ s, ((readD d s i ++ rdG i s g.pins j).map (·.1)).length ≤ 600 := fun s => by
          rw [List.length_map, List.length_append]
          have h1 := readD_len d s hsm.pins i
          have h2 := rdG_len i s g.pins j
          have h3 := hsm.gates
          have h4 := hG.1
          omega
        refine ⟨_, rfl, D0, rfl, .inl ⟨es, .inl hD⟩, _, rfl, Nat.zero_le _, fun e ne => ?_⟩
        have hD4 : upd H3 e (.lst []) D0 = some (.dK es) := Ex.new ne _ _ hD
        have E4 : Ex H3 (upd H3 e (.lst [])) := Ex.new ne
        have ne0 : H e = none := fresh_back E3 ne
        refine ⟨es, .inr g.pins[j], hD4, rfl, sz_lt (by have := hsm.gates; have := hG.1; omega), fun v hv => ?_, fun hv => ?_⟩
        · obtain ⟨L, rfl, hL, nL⟩ := hB.some_ _ v hv
          have hL4 := E4 _ _ hL
          refine ⟨.inl ⟨rfl, _, SqL.of hL4⟩, _, rfl, L, _, _, rfl, rfl, hL4, sz_lt (by rw [List.length_map]; have := hlo g.pins[j]; omega), (E3.trans E4).mut nL, ⟨es, ?_, by omega, ?_⟩, _, rfl⟩
          · rw [upd_ne (ne_of hD4 hL4 (by intro z; cases z))]; exact hD4
          · exact (hB.ex E4).old hv _ hocc
        · have n1 : e ≠ D0 := (ne_of_none hD ne).symm
          have hL4 : upd (upd H3 e (.lst [])) D0 (.dK (putK es (.inr g.pins[j]) (.ref e))) e = some (.lst []) := by rw [upd_ne n1]; exact upd_same
          refine ⟨.inl ⟨rfl, _, SqL.of hL4⟩, _, rfl, e, [], _, rfl, rfl, hL4, (by show 0 < sizeLine; decide), ?_, ⟨putK es (.inr g.pins[j]) (.ref e), ?_, Nat.le_trans (length_putK _ _ _) (by omega), ?_⟩, _, rfl⟩
          · exact Ex.mut (Ex.mut (E3.trans E4) nD0) ne0
          · rw [upd_ne n1.symm, upd_same]
          · exact hB.new_ hv ⟨es, hD⟩ ne ne0 _ hocc
      · rintro σ H3 ⟨E3, ⟨es, hD, hel, hB⟩, z, rfl⟩
        rw [List.length_map] at hel hB
        refine ⟨E3, ⟨es, hD, by omega, ?_⟩, _, _, _, rfl⟩
        have e : (fun s => (readD d s i ++ rdG i s g.pins g.pins.length).map (·.1)) = fun s => occD d s (i + 1) := by
          funext s
          unfold occD
          rw [readD_succ, hpk]
        rw [e] at hB; exact hB
    · rintro σ H1 ⟨E1, ⟨es, hD, hel, hB⟩, x2, y2, z2, rfl⟩
      rw [List.length_map, hG.1] at hB
      exact ⟨_, rfl, q D0 es H1 nD0 E1 hD hB⟩
end
end G
namespace G
open PySem PySem.Spec PyProof.Rows L2 Evl TL
/-- reached from the names, gate by gate -/
inductive Rch (gs : List GateD) (ns : List Str) : Nat → Prop
  | base {g : Nat} {gd : GateD} {x : Str} : gs[g]? = some gd → x ∈ gd.pins → x ∈ ns → Rch gs ns g
  | step {g h : Nat} {gd hd : GateD} : gs[g]? = some gd → gs[h]? = some hd → hd.name ∈ gd.pins → Rch gs ns h → Rch gs ns g
def Known (gs : List GateD) (ns : List Str) (S : Int → Bool) (x : Str) : Prop := x ∈ ns ∨ ∃ (h : Nat) (hd : GateD), gs[h]? = some hd ∧ x = hd.name ∧ S (h : Int) = true
def Done (gs : List GateD) (S : Int → Bool) (x : Str) : Prop := ∀ (g : Nat) (gd : GateD), gs[g]? = some gd → x ∈ gd.pins → S (g : Int) = true
theorem rch_closed {gs : List GateD} {ns : List Str} {S : Int → Bool} (h : ∀ x, Known gs ns S x → Done gs S x) : ∀ {g : Nat}, Rch gs ns g → S (g : Int) = true := by
  intro g r
  induction r with
  | base h1 h2 h3 => exact h _ (.inl h3) _ _ h1 h2
  | step h1 h2 h3 _ ih => exact h _ (.inr ⟨_, _, h2, rfl, ih⟩) _ _ h1 h3
theorem rch_known {gs : List GateD} {ns : List Str} {S : Int → Bool} (sub : ∀ k, S k = true → ∃ g : Nat, k = g ∧ Rch gs ns g) {x : Str} (kx : Known gs ns S x) {g : Nat} {gd : GateD} (h1 : gs[g]? = some gd) (h2 : x ∈ gd.pins) : Rch gs ns g := by
  rcases kx with h | ⟨h, hd, e1, e2, e3⟩
  · exact .base h1 h2 h
  · obtain ⟨g', eg, r⟩ := sub _ e3
    have : h = g' := by omega
    subst this
    exact .step h1 e1 (e2 ▸ h2) r
def cntS (S : Int → Bool) (N : Nat) : Nat := ((List.range N).filter fun (g : Nat) => S (g : Int)).length
theorem cntS_le (S : Int → Bool) (N : Nat) : cntS S N ≤ N := by
  unfold cntS
  have := List.length_filter_le (fun (g : Nat) => S (g : Int)) (List.range N)
  rw [List.length_range] at this; exact this
theorem cntS_add {S : Int → Bool} {N g : Nat} (hg : g < N) (hs : S (g : Int) = false) : cntS (fun j => S j || decide (j = (g : Int))) N = cntS S N + 1 := by
  unfold cntS
  induction N with
  | zero => exact absurd hg (Nat.not_lt_zero _)
  | succ N ih =>
    rw [List.range_succ, List.filter_append, List.filter_append, List.length_append, List.length_append]
    by_cases e : g = N
    · subst e
      have e1 : ((List.range g).filter fun (k : Nat) => S (k : Int) || decide ((k : Int) = (g : Int))) = (List.range g).filter fun (k : Nat) => S (k : Int) := by
        refine List.filter_congr fun k hk => ?_
        have := List.mem_range.mp hk
        rw [decide_eq_false (by omega), Bool.or_false]
      rw [e1]
      simp [hs]
    · rw [ih (by omega)]
      have e2 : (decide ((N : Int) = (g : Int))) = false := decide_eq_false (by omega)
      simp only [List.filter_cons, List.filter_nil, e2, Bool.or_false]
      omega
structure CInv (gs : List GateD) (ns : List Str) (S : Int → Bool) (n : Nat) (ws : List Str) (net : Option Str) : Prop where
  sub : ∀ k, S k = true → ∃ g : Nat, k = g ∧ g < gs.length ∧ Rch gs ns g
  cnt : n = cntS S gs.length
  opn : ∀ x, Known gs ns S x → x ∈ ws ∨ some x = net ∨ Done gs S x
  wk : ∀ x ∈ ws, Known gs ns S x
  nk : ∀ x, some x = net → Known gs ns S x
section
variable {gs : List GateD} {ns : List Str} {S : Int → Bool} {n : Nat} {ws : List Str} {net : Option Str}
theorem CInv.start : CInv gs ns (fun _ => false) 0 ns none := by
  refine ⟨(fun _ h => nomatch h), ?_, fun x h => ?_, fun x h => .inl h, (fun _ h => nomatch h)⟩
  · unfold cntS
    rw [List.filter_eq_nil_iff.mpr (fun _ _ => Bool.false_ne_true)]; rfl
  · rcases h with h | ⟨_, _, _, _, h⟩
    · exact .inl h
    · cases h
theorem CInv.pop {x : Str} (c : CInv gs ns S n (ws ++ [x]) none) : CInv gs ns S n ws (some x) := by
  refine ⟨c.sub, c.cnt, fun y hy => ?_, fun y hy => c.wk y (List.mem_append.mpr (.inl hy)), fun y hy => ?_⟩
  · rcases c.opn y hy with h | h | h
    · rcases List.mem_append.mp h with z | z
      · exact .inl z
      · exact .inr (.inl (by rw [List.mem_singleton.mp z]))
    · cases h
    · exact .inr (.inr h)
  · cases hy
    exact c.wk x (List.mem_append.mpr (.inr (List.mem_singleton.mpr rfl)))
theorem known_mono {g : Nat} {x : Str} (h : Known gs ns S x) : Known gs ns (fun j => S j || decide (j = (g : Int))) x := by
  rcases h with h | ⟨k, hd, e1, e2, e3⟩
  · exact .inl h
  · exact .inr ⟨k, hd, e1, e2, by show (S k || _) = true; rw [e3]; rfl⟩
theorem CInv.add {x : Str} {g : Nat} {gd : GateD} (c : CInv gs ns S n ws (some x)) (hg : gs[g]? = some gd) (hp : x ∈ gd.pins) (hs : S (g : Int) = false) : CInv gs ns (fun j => S j || decide (j = (g : Int))) (n + 1) (ws ++ [gd.name]) (some x) := by
  have hl : g < gs.length := (List.getElem?_eq_some_iff.mp hg).1
  refine ⟨fun k hk => ?_, ?_, fun y hy => ?_, fun y hy => ?_, fun y hy => known_mono (c.nk y hy)⟩
  · have hk : (S k || decide (k = (g : Int))) = true := hk
    cases e : S k with
    | true => exact c.sub k e
    | false =>
      rw [e, Bool.false_or] at hk
      exact ⟨g, of_decide_eq_true hk, hl, rch_known (fun k h => let ⟨g, a, _, b⟩ := c.sub k h; ⟨g, a, b⟩) (c.nk x rfl) hg hp⟩
  · rw [cntS_add hl hs, ← c.cnt]
  · have old : Known gs ns S y ∨ y = gd.name := by
      rcases hy with h | ⟨k, hd, e1, e2, e3⟩
      · exact .inl (.inl h)
      · have e3 : (S k || decide ((k : Int) = (g : Int))) = true := e3
        cases e : S k with
        | true => exact .inl (.inr ⟨k, hd, e1, e2, e⟩)
        | false =>
          rw [e, Bool.false_or] at e3
          have := of_decide_eq_true e3
          have : k = g := by omega
          subst this
          rw [hg] at e1
          cases e1
          exact .inr e2
    rcases old with h | h
    · rcases c.opn y h with z | z | z
      · exact .inl (List.mem_append.mpr (.inl z))
      · exact .inr (.inl z)
      · refine .inr (.inr fun k kd h1 h2 => ?_)
        show (S k || _) = true
        rw [z k kd h1 h2]; rfl
    · exact .inl (List.mem_append.mpr (.inr (List.mem_singleton.mpr h)))
  · rcases List.mem_append.mp hy with z | z
    · exact known_mono (c.wk y z)
    · rw [List.mem_singleton.mp z]
      exact .inr ⟨g, gd, hg, rfl, by show (S g || decide ((g : Int) = (g : Int))) = true; rw [decide_eq_true rfl, Bool.or_true]⟩
theorem CInv.shut {x : Str} (c : CInv gs ns S n ws (some x)) (h : Done gs S x) : CInv gs ns S n ws none := by
  refine ⟨c.sub, c.cnt, fun y hy => ?_, c.wk, (fun _ h => nomatch h)⟩
  rcases c.opn y hy with z | z | z
  · exact .inl z
  · cases z; exact .inr (.inr h)
  · exact .inr (.inr z)
theorem CInv.fin (c : CInv gs ns S n [] none) : ∀ k, S k = true ↔ ∃ g : Nat, k = g ∧ Rch gs ns g := by
  refine fun k => ⟨fun h => let ⟨g, a, _, b⟩ := c.sub k h; ⟨g, a, b⟩, fun ⟨g, e, r⟩ => ?_⟩
  rw [e]
  refine rch_closed (fun x hx => ?_) r
  rcases c.opn x hx with z | z | z
  · cases z
  · cases z
  · exact z
end
theorem mem_occ {d : CircD} {s : Str} {k : Int} : k ∈ occD d s d.gates.length ↔ ∃ (g : Nat) (gd : GateD), k = g ∧ d.gates[g]? = some gd ∧ s ∈ gd.pins := by
  unfold occD readD
  rw [List.mem_map]
  constructor
  · rintro ⟨⟨a, b⟩, h, rfl⟩
    obtain ⟨g, hg, h2⟩ := List.mem_flatMap.mp h
    have hl := List.mem_range.mp hg
    unfold rdG at h2
    obtain ⟨j, hj, e⟩ := List.mem_map.mp h2
    cases e
    have := (List.mem_filter.mp hj).2
    have hp := of_decide_eq_true this
    have hgd : d.gates[g]? = some d.gates[g] := List.getElem?_eq_getElem hl
    refine ⟨g, d.gates[g], rfl, hgd, ?_⟩
    have : pinsAt d g = d.gates[g].pins := by unfold pinsAt; rw [hgd]; rfl
    rw [this] at hp
    exact List.mem_of_getElem? hp
  · rintro ⟨g, gd, rfl, hg, hs⟩
    have hl : g < d.gates.length := (List.getElem?_eq_some_iff.mp hg).1
    have hp : pinsAt d g = gd.pins := by unfold pinsAt; rw [hg]; rfl
    obtain ⟨j, hj, e⟩ := List.getElem_of_mem hs
    refine ⟨((g : Int), (j : Int)), List.mem_flatMap.mpr ⟨g, List.mem_range.mpr hl, ?_⟩, rfl⟩
    unfold rdG
    rw [hp]
    refine List.mem_map.mpr ⟨j, List.mem_filter.mpr ⟨List.mem_range.mpr hj, decide_eq_true ?_⟩, rfl⟩
    rw [List.getElem?_eq_getElem hj, e]
theorem kSet0 {X : Cx} {w : World} (h : X.w = w) : CallR X (.type "set") (rSet0 w) := by subst h; exact cr_set0
theorem kSNotIn {X : Cx} {w : World} (h : X.w = w) : OpR X (compareOp .NotIn) (rSNotIn w) := by subst h; exact or_snotin
theorem kSortedSet {X : Cx} {w : World} (h : X.w = w) (hc : X.calm = true) : CallR X (.builtin "sorted") (rSortedSet w) := by subst h; exact cr_sortedSet hc
theorem kSAdd {X : Cx} {w : World} {o e : Expr} {es : List Expr} {to : TE} {t : TA} {apos cpos : Pos} (h : X.w = w) (ho : PE X o to) (ha : PA X (e :: es) t) (hbase : attributeBase o "add" X.env (eval o X.env) = eval o X.env := by rfl)
    (hfew : ((backTo cpos (starEach (e :: es) X.env)).all (fun x => !x.1) && (backToKw cpos (keywordEach [] X.env)).all (fun x => x.1.isSome) && decide ((e :: es).length + ([] : List Keyword).length + (if ([] : List Keyword).isEmpty then 0 else 1) < 30)) = true := by rfl)
    (hline : (apos.endLine == cpos.line) = true := by rfl) (hs : starEach (e :: es) X.env = (false, eval e X.env) :: starEach es X.env := by rfl) (hplain : (backTo cpos (starEach es X.env)).any (·.1) = false := by rfl) :
    PE X (.Call (.Attribute o "add" apos) (e :: es) [] cpos) (tSAdd w to t) := by subst h; exact pe_sadd ho ha hbase hfew hline hs hplain
theorem pi_or2 {X : Cx} {e tg : Expr} {te : TE} (he : PE X e te) : PI X tg e (fun σ H R => iList X.K te σ H R ∨ iTup X.K te σ H R) :=
  ⟨fun ps s σ H R I h => h.elim (fun z => (pi_list he).run ps s σ H R I z) fun z => (pi_tup he).run ps s σ H R I z⟩
section
variable {P : Program} {w : World} {K : PySem.W.Frag} {mg : Str → Option Value} {base : Heap}
def Sorted (ns : List Int) : Prop := ns.Pairwise (· < ·)
def spCone (C : Addr) : Sp := fun vs H Q E => ∃ (c l : Addr) (d : CircD) (ns : List Str) (it gt rt ot : Addr) (ga ra oa : List Addr), vs = [.ref c, .ref l] ∧ CircAt H c d it gt rt ot ga ra oa ∧ CircSm d ∧ H l = some (.lst (ns.map V.str)) ∧ ns.length ≤ 1000 ∧ (∀ x ∈ ns, x.length ≤ 1000) ∧
  ((∀ x ∈ ns, x ∈ namesD d) → ∀ (L : Addr) (ks : List Int) (H' : Hp), H L = none → Ex H H' → H' L = some (.lst (ks.map V.int)) → Sorted ks → (∀ k, k ∈ ks ↔ ∃ g : Nat, k = g ∧ Rch d.gates ns g) → Q (.ref L) H') ∧ ((∃ x ∈ ns, x ∉ namesD d) → ∀ H', Ex H H' → E (.ref C) none H')
theorem sc_cone : FnScope ["circuit", "names", "gates", "found", "waiting", "followers", "net", "g"] ["circuit", "names"] (defScope s_cone) := ⟨rfl, rfl, rfl, by decide +kernel, rfl, by decide +kernel, by decide +kernel⟩
theorem ok_cone {C : Addr} (D : Dfd K mg "cone" s_cone ["circuit", "names"]) (T : TxtR mg) (C1 : HasX P w K mg base 2 "check_nets" ["circuit", "names"] (spCheck C)) (C2 : Has P w K mg base 1 "_gates_by_net" ["gates"] spBy) : HasX P w K mg base 3 "cone" ["circuit", "names"] (spCone C) := by
  obtain ⟨f_check_nets, d_check_nets, G_check_nets, g_check_nets, k_check_nets, b_check_nets⟩ := C1
  obtain ⟨f_gates_by_net, d_gates_by_net, G_gates_by_net, g_gates_by_net, k_gates_by_net, b_gates_by_net⟩ := C2
  obtain ⟨f, fd, F, gf, bf⟩ := D
  refine ⟨f, fd, F.okX sc_cone (fun vs H Q E h => ?_) (fun cdv A outer s H vs Q E hr h => ?_), gf, F.kp, bf⟩
  · obtain ⟨c, l, d, ns, it, gt, rt, ot, ga, ra, oa, rfl, _⟩ := h
    rfl
  · obtain ⟨c, l, d, ns, it, gt, rt, ot, ga, ra, oa, rfl, hc, hsm, hl, hnn, hnl, q1, q2⟩ := h
    refine ⟨_, (pss_cons (ps_expr (pe_call G_check_nets (hr.mono (by omega)) (by rfl) g_check_nets k_check_nets b_check_nets .nil (passes_call (takes_of rfl rfl rfl rfl) (fun _ _ _ _ h => h)) (pa_cons (pv 0) (pa_cons (pv 1) pa_nil))))
    (pss_cons (ps_set (i := 2) sc_cone.nd rfl (.inl rfl) (pe_ix ix_tup (pv 0) pe_int (fun _ _ => rfl)))
    (pss_cons (ps_set (i := 3) sc_cone.nd rfl (.inl rfl) (pe_callTy0 (kSet0 (w := w) rfl) (by rfl) T.set (by decide +kernel)))
    (pss_cons (ps_set (i := 4) sc_cone.nd rfl (.inl rfl) (pe_callTy call_list_of (by rfl) T.list (by decide +kernel) (pa_cons (pv 1) pa_nil)))
    (pss_cons (ps_set (i := 5) sc_cone.nd rfl (.inl rfl) (pe_call G_gates_by_net (hr.mono (by omega)) (by rfl) g_gates_by_net k_gates_by_net b_gates_by_net .nil pass0 (pa_cons (pv 2) pa_nil)))
    (pss_cons (ps_while (passes_of rfl) (pt_truth (pv 4) (by intro _; rfl))
      (pss_cons (ps_set (i := 6) sc_cone.nd rfl (.inl rfl) (pe_bm0 PySem.F.plainAttrs_list PySem.F.slot_list_pop PySem.F.type_list_pop mt_pop (pv 4)))
      (pss_one (ps_for (passes_of rfl) rfl (pi_or2 (pe_dget2 (hu_of hr) (pv 5) (pv 6) (pe_tup pa_nil) ⟨rfl, rfl, rfl, rfl⟩)) (pg_name (i := 7) sc_cone.nd rfl (.inl rfl))
        (pss_one (ps_if (pt_cmpR (kSNotIn (w := w) rfl) (pv 7) (pv 3) (by rfl))
          (pss_cons (ps_expr (kSAdd (w := w) rfl (pv 3) (pa_cons (pv 7) pa_nil)))
          (pss_one (ps_expr (pe_bm PySem.F.plainAttrs_list PySem.F.slot_list_append PySem.F.type_list_append mt_append (pv 4) (pa_cons (pe_ix ix_tup (pe_ix ix_tup (pv 2) (pv 7) (fun _ _ => rfl)) pe_int (fun _ _ => rfl)) pa_nil)))))
          pss_nil))))))
    (pss_one (ps_ret (pe_callB (kSortedSet (w := w) rfl rfl) (by rfl) T.sorted (by decide +kernel) (pa_cons (pv 3) pa_nil)))))))))), ?_⟩
    refine ⟨_, rfl, _, rfl, c, l, d, ns, it, gt, rt, ot, ga, ra, oa, rfl, hc, hsm.names, hl, hnl, fun hall H1 E1 => ?_, fun hno H1 E1 => q2 hno H1 E1⟩
    have hc1 := hc.te (.of E1)
    refine ⟨_, rfl, _, _, _, _, rfl, rfl, SqT.of hc1.top, atI_nat (j := 1) rfl, rfl, fun fa nfa => ⟨_, rfl, _, _, rfl, .inl (SqL.of (Ex.new nfa _ _ (E1 _ _ hl))), fun wl nwl => ?_⟩⟩
    have E2 := (E1.trans (Ex.new (o := SetO w fa (fun _ => false) 0) nfa)).trans (Ex.new (o := .lst (ns.map V.str)) nwl)
    have nfw : fa ≠ wl := ne_of_none upd_same nwl
    have hfa2 : upd (upd H1 fa (SetO w fa (fun _ => false) 0)) wl (.lst (ns.map V.str)) fa = some (SetO w fa (fun _ => false) 0) := by rw [upd_ne nfw]; exact upd_same
    have hwl2 : upd (upd H1 fa (SetO w fa (fun _ => false) 0)) wl (.lst (ns.map V.str)) wl = some (.lst (ns.map V.str)) := upd_same
    have nfa0 : H fa = none := fresh_back E1 nfa
    have nwl0 : H wl = none := fresh_back (E1.trans (Ex.new nfa)) nwl
    generalize upd (upd H1 fa (SetO w fa (fun _ => false) 0)) wl (.lst (ns.map V.str)) = H2 at *
    have hc2 := hc.te (.of E2)
    refine ⟨_, rfl, gt, d, ga, rfl, hc2.gts, hc2.gates, hsm, fun fo es H3 nfo E3 hfo hB => ?_⟩
    have E30 := E2.trans E3
    have hc3 := hc.te (.of E30)
    have hfa3 := E3 _ _ hfa2
    have hwl3 := E3 _ _ hwl2
    have nof : fo ≠ fa := ne_of hfo hfa3 (by intro z; cases z)
    have now : fo ≠ wl := ne_of hfo hwl3 (by intro z; cases z)
    have hgl : d.gates.length ≤ 50 := hsm.gates
    have tupk : ∀ {b : Addr} {xs : List V}, H3 b = some (.tup xs) → b ≠ fa ∧ b ≠ wl := fun {b xs} z => ⟨ne_of z hfa3 (by intro y; cases y), ne_of z hwl3 (by intro y; cases y)⟩
    refine ⟨fun m σ H' => ∃ (S : Int → Bool) (n : Nat) (ws : List Str) (x6 x7 : Option V), m = 2 * (d.gates.length - n) + ws.length ∧ m ≤ 1200 ∧ CInv d.gates ns S n ws none ∧ Ex H H' ∧ (∀ b o, b ≠ fa → b ≠ wl → H3 b = some o → H' b = some o) ∧ H' fa = some (SetO w fa S n) ∧ H' wl = some (.lst (ws.map V.str)) ∧
      σ = [some (.ref c), some (.ref l), some (.ref gt), some (.ref fa), some (.ref wl), some (.ref fo), x6, x7],
      ⟨_, fun _ => false, 0, ns, _, _, rfl, by omega, .start, E30, fun _ _ _ _ h => h, hfa3, hwl3, rfl⟩, ?_⟩
    rintro m σ H4 ⟨S, n, ws, x6, x7, hm, hm2, hI, E4, Fr, hfa, hwl, rfl⟩
    refine ⟨_, rfl, _, .inl ⟨_, SqL.of hwl, rfl⟩, ?_⟩
    rcases List.eq_nil_or_concat ws with e | ⟨ws', x, e⟩
    · subst e
      have hn50 : n < 64 := by have := hI.cnt; have := cntS_le S d.gates.length; omega
      refine iteF ⟨_, rfl, fa, S, n, rfl, hfa, hn50, fun ks L hs hmem _ nL => ?_⟩
      exact q1 hall L ks _ (fresh_back E4 nL) (E4.trans (Ex.new nL)) upd_same hs fun k => (hmem k).trans (hI.fin k)
    · subst e
      rw [List.concat_eq_append] at *
      have hne : (!((ws' ++ [x]).map V.str).isEmpty) = true := by cases ws' <;> rfl
      rw [hne]
      refine iteT ⟨fun σ' H' => ∃ m', m' < m ∧ ∃ (S : Int → Bool) (n : Nat) (ws : List Str) (x6 x7 : Option V), m' = 2 * (d.gates.length - n) + ws.length ∧ m' ≤ 1200 ∧ CInv d.gates ns S n ws none ∧ Ex H H' ∧ (∀ b o, b ≠ fa → b ≠ wl → H3 b = some o → H' b = some o) ∧ H' fa = some (SetO w fa S n) ∧ H' wl = some (.lst (ws.map V.str)) ∧
        σ' = [some (.ref c), some (.ref l), some (.ref gt), some (.ref fa), some (.ref wl), some (.ref fo), x6, x7], fun _ _ h => h, ?_⟩
      have hwl : H4 wl = some (.lst (ws'.map V.str ++ [V.str x])) := by rw [List.map_append] at hwl; exact hwl
      rw [List.length_append] at hm
      have hm : m = 2 * (d.gates.length - n) + (ws'.length + 1) := hm
      have hlast : (ws'.map V.str ++ [V.str x])[(ws'.map V.str ++ [V.str x]).length - 1]? = some (.str x) := by
        rw [List.length_append, List.getElem?_append_right (by simp)]
        simp
      refine ⟨_, rfl, .inl ⟨rfl, _, SqL.of hwl⟩, wl, _, .str x, rfl, rfl, hwl, hlast, ?_⟩
      rw [show (ws'.map V.str ++ [V.str x]).dropLast = ws'.map V.str from List.dropLast_concat]
      have E5 : Ex H (upd H4 wl (.lst (ws'.map V.str))) := E4.mut nwl0
      have F5 : ∀ b o, b ≠ fa → b ≠ wl → H3 b = some o → upd H4 wl (.lst (ws'.map V.str)) b = some o := fun b o h1 h2 h3 => by rw [upd_ne h2]; exact Fr b o h1 h2 h3
      have hfa5 : upd H4 wl (.lst (ws'.map V.str)) fa = some (SetO w fa S n) := by rw [upd_ne nfw]; exact hfa
      have hwl5 : upd H4 wl (.lst (ws'.map V.str)) wl = some (.lst (ws'.map V.str)) := upd_same
      generalize upd H4 wl (.lst (ws'.map V.str)) = H5 at *
      have hI5 := hI.pop
      have hfo5 := F5 _ _ nof now hfo
      -- the loop over the readers
      cases hv : valV es (.inr x) with
      | none =>
        have hocc : occD d x d.gates.length = [] := hB.none_ x hv
        refine .inr ⟨_, rfl, fo, rfl, .inl ⟨es, .inl hfo5⟩, _, rfl, (by show 0 ≤ sizeLine; decide), fun e ne => ⟨_, DGet.k (k := Sum.inr x) (Ex.new ne _ _ hfo5), ?_⟩⟩
        rw [hv]
        refine ⟨e, rfl, ⟨_, SqT.of upd_same⟩, for_tup (K := K) (a := e) (xs := []) (fun i σ' H' => H' = upd H5 e (.tup []) ∧ ∃ x7 : Option V, σ' = [some (.ref c), some (.ref l), some (.ref gt), some (.ref fa), some (.ref wl), some (.ref fo), some (.str x), x7]) ⟨rfl, _, rfl⟩ (fun i σ' H' _ g => by rw [g.1]; exact SqT.of upd_same) (fun i y σ' H' h => nomatch h) ?_⟩
        rintro σ' H' ⟨rfl, x7, rfl⟩
        refine ⟨_, ?_, S, n, ws', _, _, rfl, by omega, hI5.shut (fun g gd h1 h2 => ?_), E5.trans (Ex.new ne), fun b o h1 h2 h3 => Ex.new ne _ _ (F5 b o h1 h2 h3), Ex.new ne _ _ hfa5, Ex.new ne _ _ hwl5, rfl⟩
        · omega
        · have := mem_occ.mpr ⟨g, gd, rfl, h1, h2⟩
          rw [hocc] at this; cases this
      | some v =>
        obtain ⟨L, rfl, hL3, nL2⟩ := hB.some_ x v hv
        have nLf : L ≠ fa := (ne_of_none hfa2 nL2).symm
        have nLw : L ≠ wl := (ne_of_none hwl2 nL2).symm
        refine .inl ⟨_, rfl, fo, rfl, .inl ⟨es, .inl hfo5⟩, _, rfl, (by show 0 ≤ sizeLine; decide), fun e ne => ⟨_, DGet.k (k := Sum.inr x) (Ex.new ne _ _ hfo5), ?_⟩⟩
        rw [hv]
        have E6 := E5.trans (Ex.new (o := .tup []) ne)
        have F6 : ∀ b o, b ≠ fa → b ≠ wl → H3 b = some o → upd H5 e (.tup []) b = some o := fun b o h1 h2 h3 => Ex.new ne _ _ (F5 b o h1 h2 h3)
        have hfa6 := Ex.new (o := .tup []) ne _ _ hfa5
        have hwl6 := Ex.new (o := .tup []) ne _ _ hwl5
        generalize upd H5 e (.tup []) = H6 at *
        refine ⟨L, rfl, ⟨_, SqL.of (F6 _ _ nLf nLw hL3)⟩, for_list (K := K) (a := L) (xs := (occD d x d.gates.length).map V.int)
          (fun i σ' H' => ∃ (S : Int → Bool) (n : Nat) (ws : List Str) (x7 : Option V), 2 * (d.gates.length - n) + ws.length < m ∧ CInv d.gates ns S n ws (some x) ∧ (∀ k ∈ (occD d x d.gates.length).take i, S k = true) ∧ Ex H H' ∧ (∀ b o, b ≠ fa → b ≠ wl → H3 b = some o → H' b = some o) ∧ H' fa = some (SetO w fa S n) ∧ H' wl = some (.lst (ws.map V.str)) ∧
            σ' = [some (.ref c), some (.ref l), some (.ref gt), some (.ref fa), some (.ref wl), some (.ref fo), some (.str x), x7])
          ⟨S, n, ws', _, by omega, hI5, (by rw [List.take_zero]; exact fun _ h => nomatch h), E6, F6, hfa6, hwl6, rfl⟩ (fun i σ' H' _ g => by obtain ⟨_, _, _, _, _, _, _, _, Fq, _⟩ := g; exact SqL.of (Fq _ _ nLf nLw hL3)) ?_ ?_⟩
        · rintro i y σ' H7 hy ⟨S, n, ws, x7, hlt, hI7, hk7, E7, F7, hfa7, hwl7, rfl⟩
          rw [List.getElem?_map] at hy
          cases ek : (occD d x d.gates.length)[i]? with
          | none => rw [ek] at hy; cases hy
          | some k =>
            rw [ek] at hy
            cases hy
            obtain ⟨g, gd, rfl, hg, hxp⟩ := mem_occ.mp (List.mem_of_getElem? ek)
            refine ⟨_, rfl, _, rfl, (g : Int), fa, S, n, rfl, rfl, hfa7, _, rfl, ?_⟩
            cases hs : S (g : Int) with
            | true =>
              refine iteF ⟨S, n, ws, _, hlt, hI7, fun k hk => ?_, E7, F7, hfa7, hwl7, rfl⟩
              rw [take_snoc1 ek] at hk
              rcases List.mem_append.mp hk with z | z
              · exact hk7 k z
              · rw [List.mem_singleton.mp z]; exact hs
            | false =>
              have hgl2 : g < d.gates.length := (List.getElem?_eq_some_iff.mp hg).1
              have hcnt := hI7.cnt
              have hI8 := hI7.add hg hxp hs
              have hcnt8 := hI8.cnt
              have hle8 := cntS_le (fun j => S j || decide (j = (g : Int))) d.gates.length
              obtain ⟨b, hb, hgate⟩ := hc3.gates.of hg
              obtain ⟨xs, hb1, hb2⟩ := gate_name hgate
              refine iteT ⟨_, rfl, ⟨fa, S, n, rfl, hfa7⟩, _, rfl, fa, (g : Int), S, n, rfl, rfl, hfa7, (by show n + 1 < 4096; omega), ?_⟩
              rw [hs, if_neg Bool.false_ne_true]
              have E8 : Ex H (upd H7 fa (SetO w fa (fun j => S j || decide (j = (g : Int))) (n + 1))) := E7.mut nfa0
              have F8 : ∀ b o, b ≠ fa → b ≠ wl → H3 b = some o → upd H7 fa (SetO w fa (fun j => S j || decide (j = (g : Int))) (n + 1)) b = some o := fun b o h1 h2 h3 => by rw [upd_ne h1]; exact F7 b o h1 h2 h3
              have hfa8 : upd H7 fa (SetO w fa (fun j => S j || decide (j = (g : Int))) (n + 1)) fa = some (SetO w fa (fun j => S j || decide (j = (g : Int))) (n + 1)) := upd_same
              have hwl8 : upd H7 fa (SetO w fa (fun j => S j || decide (j = (g : Int))) (n + 1)) wl = some (.lst (ws.map V.str)) := by rw [upd_ne nfw.symm]; exact hwl7
              generalize upd H7 fa (SetO w fa (fun j => S j || decide (j = (g : Int))) (n + 1)) = H8 at *
              have hgt8 := F8 _ _ (tupk hc3.gts).1 (tupk hc3.gts).2 hc3.gts
              have hb8 := F8 _ _ (tupk hb1).1 (tupk hb1).2 hb1
              refine ⟨_, rfl, .inl ⟨rfl, _, SqL.of hwl8⟩, _, rfl, _, rfl, _, _, _, _, rfl, rfl, SqT.of hgt8, atI_nat (j := g) (by rw [List.getElem?_map, hb]; rfl), _, _, _, _, rfl, rfl, SqT.of hb8, atI_nat (j := 0) hb2, wl, _, _, rfl, rfl, hwl8, sz_lt (by rw [List.length_map]; omega), ?_⟩
              refine ⟨fun j => S j || decide (j = (g : Int)), n + 1, ws ++ [gd.name], _, ?_, hI8, fun k hk => ?_, E8.mut nwl0, fun b o h1 h2 h3 => by rw [upd_ne h2]; exact F8 b o h1 h2 h3, ?_, ?_, rfl⟩
              · rw [List.length_append]
                show _ + (ws.length + 1) < m
                omega
              · rw [take_snoc1 ek] at hk
                rcases List.mem_append.mp hk with z | z
                · show (S k || _) = true
                  rw [hk7 k z]; rfl
                · rw [List.mem_singleton.mp z]
                  show (S g || decide ((g : Int) = g)) = true
                  rw [decide_eq_true rfl, Bool.or_true]
              · rw [upd_ne nfw]; exact hfa8
              · rw [upd_same, List.map_append]; rfl
        · rintro σ' H7 ⟨S, n, ws, x7, hlt, hI7, hk7, E7, F7, hfa7, hwl7, rfl⟩
          rw [List.length_map, List.take_length] at hk7
          exact ⟨_, hlt, S, n, ws, _, _, rfl, by omega, hI7.shut (fun g gd h1 h2 => hk7 _ (mem_occ.mpr ⟨g, gd, rfl, h1, h2⟩)), E7, F7, hfa7, hwl7, rfl⟩
end
end G
namespace G
open PySem PySem.Spec PyProof.Rows L2 Evl TL
theorem for_rangeB {n : Nat} {lo : Int} {body : (L2.St → Hp → Prop) → V → L2.St → Hp → Prop} {Dn : L2.St → Hp → Prop} {σ0 : L2.St} {H0 : Hp} (Pv : Nat → L2.St → Hp → Prop) (h0 : Pv 0 σ0 H0) (hs : ∀ i σ H, i < n → Pv i σ H → body (Pv (i + 1)) (.int (lo + (i : Int))) σ H) (hd : ∀ σ H, Pv n σ H → Dn σ H) :
    ∃ W : Nat → Nat → L2.St → Hp → Prop, (∃ m, W 0 m σ0 H0) ∧ ∀ i m σ H, W i m σ H → ((Itr lo n).stop i H ∧ Dn σ H) ∨ ((Itr lo n).go i H ∧ ∃ N : L2.St → Hp → Prop, (∀ σ' H', N σ' H' → ∃ m', m' < m ∧ W (i + 1) m' σ' H') ∧ ∀ x H', (Itr lo n).yld i H x H' → body N x σ H') := by
  refine ⟨fun i m σ H => m = n - i ∧ i ≤ n ∧ Pv i σ H, ⟨n, by simp, Nat.zero_le _, h0⟩, ?_⟩
  rintro i m σ H ⟨rfl, hi, p⟩
  rcases Nat.lt_or_ge i n with lt | ge
  · refine .inr ⟨lt, Pv (i + 1), fun σ' H' p' => ⟨n - (i + 1), by omega, rfl, lt, p'⟩, fun x H' y => ?_⟩
    obtain ⟨rfl, rfl⟩ := y
    exact hs i σ _ lt p
  · have e : i = n := by omega
    subst e
    exact .inl ⟨Nat.le_refl _, hd σ H p⟩
theorem pe_when {X : Cx} {e : Expr} {t : TE} {p : Prop} (h : p → PE X e t) : PE X e (fun σ H Q => p ∧ t σ H Q) := ⟨fun ps s σ H Q I z => (h z.1).run ps s σ H Q I z.2⟩
/-- what an except clause and isinstance ask of the class at C, the other class at DC -/
structure ExcU (K : PySem.W.Frag) (mg : Str → Option Value) (C DC : Addr) : Prop where
  u : ExcT K mg "UnknownName" C
  gD : mg "DeckError" = some (.ref DC)
  dict : PySem.W.hasDictIn K C = true
  self : PySem.W.subIn K (.ref C) (.ref C) = some true
  isc : ExcC K C
  kit : PySem.W.kitOne K (.ref C) (.ref DC) = some true
section
variable {P : Program} {w : World} {K : PySem.W.Frag} {mg : Str → Option Value} {base : Heap}
def spUnknown : Sp := fun vs H Q _ => ∃ (c l : Addr) (d : CircD) (ns : List Str) (it gt rt ot : Addr) (ga ra oa : List Addr), vs = [.ref c, .ref l] ∧ CircAt H c d it gt rt ot ga ra oa ∧ CircSm d ∧ H l = some (.lst (ns.map V.str)) ∧ ns.length ≤ 100 ∧ (∀ x ∈ ns, x.length ≤ 1000) ∧ ("nowhere" : Str) ∉ namesD d ∧ ∀ H', Ex H H' → Q (.bl true) H'
theorem sc_law_unknown : FnScope ["circuit", "names", "wrong", "kind", "e"] ["circuit", "names"] (defScope s_law_unknown) := ⟨rfl, rfl, rfl, by decide +kernel, rfl, by decide +kernel, by decide +kernel⟩
theorem kCat {X : Cx} : OpR X (binaryOp .Add) rCat := op_cat
theorem ok_law_unknown {C DC : Addr} (D : Dfd K mg "_law_unknown" s_law_unknown ["circuit", "names"]) (T : TxtS mg) (U : ExcU K mg C DC) (C1 : HasX P w K mg base 3 "readers" ["circuit", "net"] (spReaders C)) (C2 : HasX P w K mg base 3 "cone" ["circuit", "names"] (spCone C)) :
    Has P w K mg base 4 "_law_unknown" ["circuit", "names"] spUnknown := by
  obtain ⟨f_readers, d_readers, G_readers, g_readers, k_readers, b_readers⟩ := C1
  obtain ⟨f_cone, d_cone, G_cone, g_cone, k_cone, b_cone⟩ := C2
  refine D.has fun f fd F => F.ok sc_law_unknown (fun vs H Q E h => ?_) (fun cdv A outer s H vs Q E hr h => ?_)
  · obtain ⟨c, l, d, ns, it, gt, rt, ot, ga, ra, oa, rfl, _⟩ := h
    rfl
  · obtain ⟨c, l, d, ns, it, gt, rt, ot, ga, ra, oa, rfl, hc, hsm, hl, hn, hns, hno, q⟩ := h
    have hx : PySem.W.exmOne K (.ref C) (.ref C) = some true := PySem.W.exm_ref U.u.bC U.dict U.u.tC U.self
    refine ⟨_, (pss_cons (ps_set (i := 2) sc_law_unknown.nd rfl (.inl rfl) pe_int)
      (pss_cons (ps_for PassesOwn.never rfl (pi_range1 rfl T.range (pa_cons pe_int pa_nil)) (pg_name (i := 3) sc_law_unknown.nd rfl (.inl rfl))
        (pss_one (ps_try_as (c := .ref C) (i := 4) rfl rfl sc_law_unknown.nd rfl rfl ⟨rfl, by decide, .inl U.u.gC⟩ takes0
          (fun W pn xe tk _ => pss_one (ps_if (pt_cmpR op_eq (pv 3) pe_int (nomark _))
            (pss_one (ps_expr (pe_callS G_readers (hr.mono (by omega)) rfl g_readers k_readers b_readers (fun σ => passAt tk σ) (pa_cons (pv 0) (pa_cons pe_str pa_nil)))))
            (pss_one (ps_expr (pe_callS G_cone (hr.mono (by omega)) rfl g_cone k_cone b_cone (fun σ => passAt tk σ) (pa_cons (pv 0) (pa_cons (pe_op op_cat (pv 1) (pe_lst (pa_cons pe_str pa_nil))) pa_nil)))))))
          (fun a oe cls dd pn hz hf => pss_one (ps_set (i := 2) sc_law_unknown.nd rfl (.inl rfl) (pe_op op_add (pv 2) (pe_callTy call_int1 (by rfl) T.int (by decide +kernel) (pa_cons (pe_when (p := cls = .ref C ∧ dd = none) (t := tCB (rIsE K C a) (tCons (tVar 4) (tCons (tC (.ref DC)) tNil)))
            (fun z => by obtain ⟨rfl, rfl⟩ := z; exact pe_callB (call_isE U.isc hz hf) (by rfl) T.isinstance (by decide +kernel) (pa_cons (pv 4) (pa_cons (gRef rfl U.gD) pa_nil)))) pa_nil))))))))
      (pss_one (ps_ret (pe_cmpR op_eq (pv 2) pe_int (nomark _)))))), ?_⟩
    refine ⟨2, rfl, by decide, by decide, for_rangeB (n := 2) (fun i σ H' => Ex H H' ∧ ∃ (x2 : Int) (x3 : Option V), x2 = (i : Nat) ∧ σ = [some (.ref c), some (.ref l), some (.int x2), x3, none]) ⟨.refl _, 0, _, rfl, rfl⟩ ?_ ?_⟩
    · rintro i σ H1 hi ⟨E1, x2, x3, e2, rfl⟩
      have hc1 := hc.te (.of E1)
      refine ⟨_, rfl, rfl, _, rfl, ite2 (fun e => ?_) (fun e => ?_)⟩
      · refine ⟨_, rfl, c, d, "nowhere", it, gt, rt, ot, ga, ra, oa, rfl, hc1, hsm, by decide, fun hin => absurd hin hno, fun _ H2 E2 => ⟨true, hx, fun _ a na => ?_, fun q => nomatch q⟩⟩
        refine ⟨_, rfl, ⟨rfl, rfl⟩, _, rfl, .ref DC, .ref DC, true, rfl, fun u hu => hu, U.kit, .inr ⟨true, rfl, _, _, rfl, rfl, E1.trans E2, _, _, (by rw [e2]; rfl), rfl⟩⟩
      · refine ⟨_, rfl, _, rfl, (by show 1 ≤ sizeLine; decide), fun m nm => ?_⟩
        have E2 := E1.trans (Ex.new (o := .lst [.str "nowhere"]) nm)
        refine ⟨l, m, _, _, rfl, rfl, E2 _ _ hl, upd_same, sz_of (by rw [List.length_map]; show ns.length + 1 ≤ _; omega), fun b nb => ?_⟩
        have E3 := E2.trans (Ex.new (o := .lst (ns.map V.str ++ [.str "nowhere"])) nb)
        refine ⟨c, b, d, ns ++ [("nowhere" : Str)], it, gt, rt, ot, ga, ra, oa, rfl, hc.te (.of E3), hsm, by rw [upd_same, List.map_append]; rfl, by rw [List.length_append]; show ns.length + 1 ≤ _; omega, fun x hx => ?_, fun hall => ?_, fun _ H4 E4 => ⟨true, hx, fun _ a na => ?_, fun q => nomatch q⟩⟩
        · rcases List.mem_append.mp hx with z | z
          · exact hns x z
          · rw [List.mem_singleton.mp z]; decide
        · exact absurd (hall "nowhere" (List.mem_append.mpr (.inr (List.mem_singleton.mpr rfl)))) hno
        · refine ⟨_, rfl, ⟨rfl, rfl⟩, _, rfl, .ref DC, .ref DC, true, rfl, fun u hu => hu, U.kit, .inr ⟨true, rfl, _, _, rfl, rfl, E3.trans E4, _, _, (by rw [e2]; rfl), rfl⟩⟩
    · rintro σ H1 ⟨E1, x2, x3, e2, rfl⟩
      rw [e2]
      exact ⟨_, rfl, rfl, q H1 E1⟩
end
theorem nodup_le : ∀ (N : Nat) (fs : List Nat), fs.Nodup → (∀ x ∈ fs, x < N) → fs.length ≤ N
  | 0, [], _, _ => Nat.le_refl _
  | 0, a :: _, _, h => absurd (h a (List.mem_cons_self ..)) (Nat.not_lt_zero _)
  | N + 1, fs, nd, h => by
    by_cases hm : N ∈ fs
    · have h1 := nodup_le N (fs.erase N) (nd.erase N) fun x hx => by
        have hx2 := (nd.mem_erase_iff).mp hx
        have := h x hx2.2
        omega
      rw [List.length_erase_of_mem hm] at h1
      omega
    · have := nodup_le N fs nd fun x hx => by
        have h1 := h x hx
        have : x ≠ N := fun e => hm (e ▸ hx)
        omega
      omega
def nameAt (gs : List GateD) (g : Nat) : Str := ((gs[g]?).map (·.name)).getD ""
def knL (gs : List GateD) (ns : List Str) (fs : List Nat) : List Str := ns ++ fs.map (nameAt gs)
def Shut (gs : List GateD) (ns : List Str) (fs : List Nat) : Prop := ∀ g gd, gs[g]? = some gd → (∃ x ∈ gd.pins, x ∈ knL gs ns fs) → g ∈ fs
theorem shut_all {gs : List GateD} {ns : List Str} {fs : List Nat} (h : Shut gs ns fs) {g : Nat} (r : Rch gs ns g) : g ∈ fs := by
  induction r with
  | base h1 h2 h3 => exact h _ _ h1 ⟨_, h2, List.mem_append.mpr (.inl h3)⟩
  | @step g k gd hd h1 h2 h3 _ ih => exact h _ _ h1 ⟨_, h3, List.mem_append.mpr (.inr (List.mem_map.mpr ⟨k, ih, by unfold nameAt; rw [h2]; rfl⟩))⟩
theorem hit_rch {gs : List GateD} {ns : List Str} {fs : List Nat} (hf : ∀ g ∈ fs, g < gs.length ∧ Rch gs ns g) {g : Nat} {gd : GateD} (hg : gs[g]? = some gd) (hx : ∃ x ∈ gd.pins, x ∈ knL gs ns fs) : Rch gs ns g := by
  obtain ⟨x, h1, h2⟩ := hx
  rcases List.mem_append.mp h2 with z | z
  · exact .base hg h1 z
  · obtain ⟨k, hk, rfl⟩ := List.mem_map.mp z
    obtain ⟨a, b⟩ := hf k hk
    have hk2 : gs[k]? = some gs[k] := List.getElem?_eq_getElem a
    refine .step hg hk2 ?_ b
    have : nameAt gs k = gs[k].name := by unfold nameAt; rw [hk2]; rfl
    rw [← this]; exact h1
theorem full_shut {gs : List GateD} {ns : List Str} {fs : List Nat} (nd : fs.Nodup) (hf : ∀ g ∈ fs, g < gs.length ∧ Rch gs ns g) (hl : gs.length ≤ fs.length) : Shut gs ns fs := by
  intro g gd hg _
  have hlt : g < gs.length := (List.getElem?_eq_some_iff.mp hg).1
  refine Classical.byContradiction fun no => ?_
  have := nodup_le gs.length (g :: fs) (List.nodup_cons.mpr ⟨no, nd⟩) fun x hx => by
    rcases List.mem_cons.mp hx with z | z
    · omega
    · exact (hf x z).1
  rw [List.length_cons] at this
  omega
theorem sorted_eq : ∀ {a b : List Int}, Sorted a → Sorted b → (∀ k, k ∈ a ↔ k ∈ b) → a = b
  | [], [], _, _, _ => rfl
  | [], y :: b, _, _, h => absurd ((h y).mpr (List.mem_cons_self ..)) (by simp)
  | x :: a, [], _, _, h => absurd ((h x).mp (List.mem_cons_self ..)) (by simp)
  | x :: a, y :: b, ha, hb, h => by
    have h1 := List.pairwise_cons.mp ha
    have h2 := List.pairwise_cons.mp hb
    have e : x = y := by
      rcases List.mem_cons.mp ((h x).mp (List.mem_cons_self ..)) with z | z
      · exact z
      · rcases List.mem_cons.mp ((h y).mpr (List.mem_cons_self ..)) with z2 | z2
        · exact z2.symm
        · have := h2.1 x z
          have := h1.1 y z2
          omega
    subst e
    rw [sorted_eq h1.2 h2.2 fun k => ?_]
    constructor
    · intro hk
      rcases List.mem_cons.mp ((h k).mp (List.mem_cons_of_mem _ hk)) with z | z
      · have := h1.1 k hk; omega
      · exact z
    · intro hk
      rcases List.mem_cons.mp ((h k).mpr (List.mem_cons_of_mem _ hk)) with z | z
      · have := h2.1 k hk; omega
      · exact z
theorem inV_strs {k : Str} {l : List Str} : inV (.str k) (l.map V.str) = l.contains k := by
  unfold inV
  rw [List.any_map, List.contains_eq_any_beq]
  congr 1
  funext y
  show (y == k) = (k == y)
  rw [Bool.eq_iff_iff]; simp; exact eq_comm
theorem dp_strs {K : PySem.W.Frag} {H : Hp} {a : Addr} {ns : List Str} (h : SqL K H a (ns.map V.str)) : Dp K H (.ref a) (.list (ns.map PyData.str)) := .lst h (dpAll_map (fun i => .str i) ns)
theorem nm_ok : ∀ c ∈ (["i", "r", "g", "p"] : List Str), ∀ k, k < 20 → PyData.strOk (nm c k) = true ∧ (nm c k).length ≤ 20 ∧ nm c k ≠ "nowhere" := by decide +kernel
def NmOk (x : Str) : Prop := PyData.strOk x = true ∧ x.length ≤ 20 ∧ x ≠ "nowhere"
theorem nms_ok {c : Str} {n : Nat} {x : Str} (hc : c ∈ (["i", "r", "g", "p"] : List Str)) (hn : n ≤ 20) (h : x ∈ (List.range n).map (nm c)) : NmOk x := by
  obtain ⟨k, hk, rfl⟩ := List.mem_map.mp h
  exact nm_ok c hc k (by have := List.mem_range.mp hk; omega)
theorem gnames {most : Nat} {d : CircD} {G : List GateD} (W : CircWf most d G) {x : Str} (h : x ∈ d.gates.map (·.name)) : x ∈ (List.range G.length).map (nm "g") := by
  obtain ⟨g, hg, rfl⟩ := List.mem_map.mp h
  obtain ⟨k, hk, e⟩ := List.getElem_of_mem (W.perm.mem_iff.mp hg)
  have := W.gates k g (List.getElem?_eq_some_iff.mpr ⟨hk, e⟩)
  rw [this.name]
  exact List.mem_map.mpr ⟨k, List.mem_range.mpr hk, rfl⟩
theorem names_ok {most : Nat} {d : CircD} {G : List GateD} (W : CircWf most d G) (hm : most ≤ 15) : ∀ x ∈ namesD d, NmOk x := by
  intro x hx
  unfold namesD at hx
  rcases List.mem_append.mp hx with z | z
  · rcases List.mem_append.mp z with z | z
    · obtain ⟨n, _, h2, e⟩ := W.ins
      rw [e] at z
      exact nms_ok nmi_str (by omega) z
    · exact nms_ok nmg_str (by have := W.few; omega) (gnames W z)
  · obtain ⟨n, h2, e⟩ := W.regs
    rw [e] at z
    exact nms_ok nmr_str (by omega) z
theorem circ_sm {most : Nat} {d : CircD} {G : List GateD} (W : CircWf most d G) (hm : most ≤ 15) : CircSm d := by
  obtain ⟨n1, _, a2, a3⟩ := W.ins
  obtain ⟨n2, b2, b3⟩ := W.regs
  have l1 : d.ins.length ≤ 3 := by rw [a3, List.length_map, List.length_range]; exact a2
  have l2 : (d.regs.map (·.name)).length ≤ 3 := by rw [b3, List.length_map, List.length_range]; exact b2
  have l3 : d.gates.length ≤ 15 := by rw [W.perm.length_eq]; have := W.few; omega
  refine ⟨?_, by omega, fun g => ?_⟩
  · unfold namesD
    rw [List.length_append, List.length_append, List.length_map]
    omega
  · unfold pinsAt
    cases e : d.gates[g]? with
    | none => exact Nat.zero_le _
    | some gd =>
      obtain ⟨k, hk, e2⟩ := List.getElem_of_mem (W.perm.mem_iff.mp (List.mem_of_getElem? e))
      have := (W.gates k gd (List.getElem?_eq_some_iff.mpr ⟨hk, e2⟩)).few
      show gd.pins.length ≤ 10
      omega
theorem lay_strs : ∀ {xs : List Str}, (∀ x ∈ xs, PyData.strOk x = true) → PyData.canLayAll0 (xs.map PyData.str) = true ∧ PyData.depthAll (xs.map PyData.str) = 0
  | [], _ => ⟨rfl, rfl⟩
  | x :: r, h => by
    have ih := lay_strs (xs := r) fun y hy => h y (List.mem_cons_of_mem _ hy)
    have hx := h x (List.mem_cons_self ..)
    constructor
    · simp [PyData.canLayAll0, PyData.canLay0, hx, ih.1]
    · simp [PyData.depthAll, PyData.depth, ih.2]
theorem shaped_strs {xs : List Str} (h : ∀ x ∈ xs, PyData.strOk x = true) : SeqAt.shaped (.list (xs.map PyData.str)) = true := by
  have := lay_strs h
  simp [SeqAt.shaped, PyData.canLay0, PyData.depth, this.1, this.2]
section
variable {P : Program} {w : World} {K : PySem.W.Frag} {mg : Str → Option Value} {base : Heap}
def Some_ (gs : List GateD) (ns : List Str) (fs : List Nat) (k : Nat) : Prop := ∀ j, j < k → ∀ gd, gs[j]? = some gd → (∃ x ∈ gd.pins, x ∈ knL gs ns fs) → j ∈ fs
structure TxtQ (mg : Str → Option Value) : Prop where
  list : mg "list" = none
  len : mg "len" = none
  range : mg "range" = none
  sorted : mg "sorted" = none
def intsN (fs : List Nat) : List Int := fs.map fun (g : Nat) => (g : Int)
theorem mem_intsN {fs : List Nat} {k : Nat} : (intsN fs).contains (k : Int) = decide (k ∈ fs) := by
  rw [Bool.eq_iff_iff, List.contains_iff_mem, decide_eq_true_iff]
  unfold intsN
  rw [List.mem_map]
  constructor
  · rintro ⟨g, hg, e⟩
    have : g = k := by omega
    rw [← this]; exact hg
  · exact fun h => ⟨k, h, rfl⟩
def spReached : Sp := fun vs H Q _ => ∃ (c l : Addr) (d : CircD) (ns : List Str) (it gt rt ot : Addr) (ga ra oa : List Addr), vs = [.ref c, .ref l] ∧ CircAt H c d it gt rt ot ga ra oa ∧ CircSm d ∧ (∀ x ∈ namesD d, NmOk x) ∧ H l = some (.lst (ns.map V.str)) ∧ ns.length ≤ 100 ∧ (∀ x ∈ ns, x ∈ namesD d) ∧
  ∀ (L : Addr) (ks : List Int) (H' : Hp), H L = none → Ex H H' → H' L = some (.lst (ks.map V.int)) → Sorted ks → (∀ k, k ∈ ks ↔ ∃ g : Nat, k = g ∧ Rch d.gates ns g) → Q (.ref L) H'
theorem sc_law_reached : FnScope ["circuit", "names", "found", "known", "turn", "k", "net"] ["circuit", "names"] (defScope s_law_reached) := ⟨rfl, rfl, rfl, by decide +kernel, rfl, by decide +kernel, by decide +kernel⟩
theorem ok_law_reached (D : Dfd K mg "_law_reached" s_law_reached ["circuit", "names"]) (T : TxtQ mg) : Has P w K mg base 1 "_law_reached" ["circuit", "names"] spReached := by
  refine D.has fun f fd F => F.ok sc_law_reached (fun vs H Q E h => ?_) (fun cdv A outer s H vs Q E hr h => ?_)
  · obtain ⟨c, l, d, ns, it, gt, rt, ot, ga, ra, oa, rfl, _⟩ := h
    rfl
  · obtain ⟨c, l, d, ns, it, gt, rt, ot, ga, ra, oa, rfl, hc, hsm, hok, hl, hn, hns, q⟩ := h
    refine ⟨_, (pss_cons (ps_set (i := 2) sc_law_reached.nd rfl (.inl rfl) (pe_lst pa_nil))
    (pss_cons (ps_set (i := 3) sc_law_reached.nd rfl (.inr rfl) (pe_callTy call_list_of (by rfl) T.list (by decide +kernel) (pa_cons (pv 1) pa_nil)))
    (pss_cons (ps_for PassesOwn.never rfl (pi_range1 rfl T.range (pa_cons (pe_callB call_len_seq (by rfl) T.len (by decide +kernel) (pa_cons (pe_ix ix_tup (pv 0) pe_int (fun _ _ => rfl)) pa_nil)) pa_nil)) (pg_name (i := 4) sc_law_reached.nd rfl (.inl rfl))
      (pss_one (ps_for PassesOwn.never rfl (pi_range1 rfl T.range (pa_cons (pe_callB call_len_seq (by rfl) T.len (by decide +kernel) (pa_cons (pe_ix ix_tup (pv 0) pe_int (fun _ _ => rfl)) pa_nil)) pa_nil)) (pg_name (i := 5) sc_law_reached.nd rfl (.inl rfl))
        (pss_one (ps_if (PW.pt (pw_and (pt_cmpR op_notIn_seq (pv 5) (pv 2) (by rfl)) (pw_and1 (pt_cmpR (op_neD hr.units) (pe_lc (own := [("net", 6)]) (g := gName 6) (tt := _) rfl sc_law_reached.nd (pi_tup (pe_ix ix_tup (pe_ix ix_tup (pe_ix ix_tup (pv 0) pe_int (fun _ _ => rfl)) (pv 5) (fun _ _ => rfl)) pe_int (fun _ _ => rfl))) (blkOk_by (N := ["circuit", "names", "found", "known", "turn", "k", "net"]) (sc := defScope s_law_reached) (own := [("net", 6)]) (by decide +kernel)) (fun _ _ _ _ _ => (pg_name (i := 6) sc_law_reached.nd rfl (.inl rfl))) (fun _ _ _ _ _ => pts_one (pt_cmpR (kIn (K := K) rfl) (pv 6) (pv 3) (by rfl))) (fun _ _ _ _ _ => (pv 6))) (pe_lst pa_nil) (nomark _)))))
          (pss_cons (ps_expr (pe_bm PySem.F.plainAttrs_list PySem.F.slot_list_append PySem.F.type_list_append mt_append (pv 2) (pa_cons (pv 5) pa_nil)))
          (pss_one (ps_expr (pe_bm PySem.F.plainAttrs_list PySem.F.slot_list_append PySem.F.type_list_append mt_append (pv 3) (pa_cons (pe_ix ix_tup (pe_ix ix_tup (pe_ix ix_tup (pv 0) pe_int (fun _ _ => rfl)) (pv 5) (fun _ _ => rfl)) pe_int (fun _ _ => rfl)) pa_nil)))))
          pss_nil)))))
    (pss_one (ps_ret (pe_callB cr_sorted (by rfl) T.sorted (by decide +kernel) (pa_cons (pv 2) pa_nil))))))), ?_⟩
    refine ⟨Nat.zero_le _, fun fl nfl => ⟨_, rfl, _, _, rfl, .inl (SqL.of (Ex.new nfl _ _ hl)), fun kl nkl => ?_⟩⟩
    have nfk : fl ≠ kl := ne_of_none upd_same nkl
    have E0 := (Ex.new (o := .lst []) nfl).trans (Ex.new (o := .lst (ns.map V.str)) nkl)
    have hfl0 : upd (upd H fl (.lst [])) kl (.lst (ns.map V.str)) fl = some (.lst []) := by rw [upd_ne nfk]; exact upd_same
    have hkl0 : upd (upd H fl (.lst [])) kl (.lst (ns.map V.str)) kl = some (.lst (ns.map V.str)) := upd_same
    have nkl0 : H kl = none := fresh_back (Ex.new nfl) nkl
    generalize upd (upd H fl (.lst [])) kl (.lst (ns.map V.str)) = H0 at *
    have hc0 := hc.te (.of E0)
    have hgl : d.gates.length ≤ 50 := hsm.gates
    have hgn : (ga.map V.ref).length = d.gates.length := by rw [List.length_map, hc.gates.1]
    refine ⟨_, rfl, _, _, _, _, rfl, rfl, SqT.of hc0.top, atI_nat (j := 1) rfl, _, _, rfl, .inr (SqT.of hc0.gts), _, rfl, by omega, by omega, for_range (n := (((ga.map V.ref).length : Nat) : Int).toNat)
      (fun t σ H' => Ex H H' ∧ ∃ fs : List Nat, H' fl = some (.lst ((intsN fs).map V.int)) ∧ H' kl = some (.lst ((knL d.gates ns fs).map V.str)) ∧ fs.Nodup ∧ (∀ g ∈ fs, g < d.gates.length ∧ Rch d.gates ns g) ∧ (Shut d.gates ns fs ∨ t ≤ fs.length) ∧ ∃ (x4 x5 x6 : Option V), σ = [some (.ref c), some (.ref l), some (.ref fl), some (.ref kl), x4, x5, x6])
      ⟨E0, [], hfl0, (by unfold knL; rw [List.map_nil, List.append_nil]; exact hkl0), List.nodup_nil, (fun _ h => nomatch h), .inr (Nat.le_refl _), _, _, _, rfl⟩ ?_ ?_⟩
    · rintro t σ H1 ht ⟨E1, fs, hfl, hkl, nd, hfs, hsh, x4, x5, x6, rfl⟩
      have hc1 := hc.te (.of E1)
      refine ⟨_, rfl, _, _, _, _, rfl, rfl, SqT.of hc1.top, atI_nat (j := 1) rfl, _, _, rfl, .inr (SqT.of hc1.gts), _, rfl, by omega, by omega, for_range (n := (((ga.map V.ref).length : Nat) : Int).toNat)
        (fun k σ H' => Ex H H' ∧ ∃ fs : List Nat, H' fl = some (.lst ((intsN fs).map V.int)) ∧ H' kl = some (.lst ((knL d.gates ns fs).map V.str)) ∧ fs.Nodup ∧ (∀ g ∈ fs, g < d.gates.length ∧ Rch d.gates ns g) ∧ (Shut d.gates ns fs ∨ (t ≤ fs.length ∧ (t + 1 ≤ fs.length ∨ Some_ d.gates ns fs k))) ∧ ∃ (x4 x5 x6 : Option V), σ = [some (.ref c), some (.ref l), some (.ref fl), some (.ref kl), x4, x5, x6])
        ⟨E1, fs, hfl, hkl, nd, hfs, hsh.imp id (fun h => ⟨h, .inr fun j hj => absurd hj (Nat.not_lt_zero _)⟩), _, _, _, rfl⟩ ?_ ?_⟩
      · rintro k σ H2 hk ⟨E2, fs, hfl, hkl, nd, hfs, hsh, x4, x5, x6, rfl⟩
        have hk' : k < d.gates.length := by omega
        have ek : (0 : Int) + (k : Int) = (k : Int) := Int.zero_add _
        rw [ek]
        have hc2 := hc.te (.of E2)
        have hgd : d.gates[k]? = some d.gates[k] := List.getElem?_eq_getElem hk'
        obtain ⟨b, hb, tt, pt, rgt, rga, hg1, hg2, hg3, _⟩ := hc2.gates.of hgd
        have hbV : (ga.map V.ref)[k]? = some (.ref b) := by rw [List.getElem?_map, hb]; rfl
        have hpl : d.gates[k].pins.length ≤ 10 := by
          have := hsm.pins k
          unfold pinsAt at this; rw [hgd] at this; exact this
        have hfsl : fs.length ≤ d.gates.length := nodup_le _ _ nd fun x hx => (hfs x hx).1
        have keep : (k ∈ fs ∨ ¬ ∃ x ∈ d.gates[k].pins, x ∈ knL d.gates ns fs) → Shut d.gates ns fs ∨ (t ≤ fs.length ∧ (t + 1 ≤ fs.length ∨ Some_ d.gates ns fs (k + 1))) := fun h => hsh.imp id fun z => ⟨z.1, z.2.imp id fun y j hj gd hg hx => by
          rcases Nat.lt_succ_iff_lt_or_eq.mp hj with a | a
          · exact y j a gd hg hx
          · subst a
            rw [hgd] at hg
            cases hg
            exact h.elim id fun n => absurd hx n⟩
        refine ⟨_, rfl, _, rfl, fl, _, rfl, .inl (SqL.of hfl), rfl, flat_map (fun _ => rfl) _, _, rfl, ?_⟩
        show if (if true = true then !inV (.int (k : Int)) ((intsN fs).map V.int) else inV (.int (k : Int)) ((intsN fs).map V.int)) = true then _ else _
        rw [if_pos rfl, inV_ints, mem_intsN]
        cases hm : decide (k ∈ fs) with
        | true => exact iteF ⟨E2, fs, hfl, hkl, nd, hfs, keep (.inl (of_decide_eq_true hm)), _, _, _, rfl⟩
        | false =>
          have hnm := of_decide_eq_false hm
          refine iteT ⟨_, rfl, _, _, _, _, rfl, rfl, SqT.of hc2.top, atI_nat (j := 1) rfl, _, rfl, _, _, _, _, rfl, rfl, SqT.of hc2.gts, atI_nat hbV, _, _, _, _, rfl, rfl, SqT.of hg1, atI_nat (j := 2) rfl, pt, rfl, ⟨_, SqT.of hg3⟩, fun L nL => wk_tup (K := K) (a := pt) (xs := d.gates[k].pins.map V.str)
            (fun j H' => Ex H2 H' ∧ H' L = some (.lst (((d.gates[k].pins.take j).filter fun x => (knL d.gates ns fs).contains x).map V.str))) ⟨Ex.new nL, by rw [upd_same]; rfl⟩ (fun j H' _ g => SqT.of (g.1 _ _ hg3)) ?_ ?_⟩
          · rintro j x H3 hx ⟨E3, hL⟩
            have hj : j < d.gates[k].pins.length := by have := (List.getElem?_eq_some_iff.mp hx).1; rw [List.length_map] at this; exact this
            obtain rfl : x = .str d.gates[k].pins[j] := by rw [strV_at hj] at hx; exact (Option.some.inj hx).symm
            refine ⟨rfl, _, rfl, _, rfl, kl, _, rfl, .inl (SqL.of (E3 _ _ hkl)), rfl, flat_map (fun _ => rfl) _, _, rfl, ?_⟩
            show if (if false = true then !inV (.str d.gates[k].pins[j]) ((knL d.gates ns fs).map V.str) else inV (.str d.gates[k].pins[j]) ((knL d.gates ns fs).map V.str)) = true then _ else _
            rw [if_neg Bool.false_ne_true, inV_strs]
            have hat : (d.gates[k].pins.take (j + 1)).filter (fun x => (knL d.gates ns fs).contains x) = if (knL d.gates ns fs).contains d.gates[k].pins[j] = true then (d.gates[k].pins.take j).filter (fun x => (knL d.gates ns fs).contains x) ++ [d.gates[k].pins[j]] else (d.gates[k].pins.take j).filter (fun x => (knL d.gates ns fs).contains x) := by
              rw [take_snoc1 (List.getElem?_eq_getElem hj), List.filter_append]
              cases e : (knL d.gates ns fs).contains d.gates[k].pins[j] with
              | true => rw [if_pos rfl, List.filter_cons_of_pos (p := fun x => (knL d.gates ns fs).contains x) e]; rfl
              | false => rw [if_neg Bool.false_ne_true, List.filter_cons_of_neg (p := fun x => (knL d.gates ns fs).contains x) (by rw [e]; decide), List.filter_nil, List.append_nil]
            cases e : (knL d.gates ns fs).contains d.gates[k].pins[j] with
            | false =>
              rw [e, if_neg Bool.false_ne_true] at hat
              exact iteF ⟨E3, by rw [hat]; exact hL⟩
            | true =>
              rw [e, if_pos rfl] at hat
              refine iteT ⟨_, rfl, _, hL, sz_lt ?_, E3.mut nL, by rw [upd_same, hat, List.map_append]; rfl⟩
              rw [List.length_map]
              have h1 := List.length_filter_le (fun x => (knL d.gates ns fs).contains x) (d.gates[k].pins.take j)
              rw [List.length_take] at h1
              omega
          · rintro H3 ⟨E3, hL⟩
            rw [List.length_map, List.take_length] at hL
            have hokp : ∀ x ∈ d.gates[k].pins.filter (fun x => (knL d.gates ns fs).contains x), PyData.strOk x = true := fun x hx => by
              have h2 := List.contains_iff_mem.mp (List.mem_filter.mp hx).2
              rcases List.mem_append.mp h2 with z | z
              · exact (hok x (hns x z)).1
              · obtain ⟨g, hg, rfl⟩ := List.mem_map.mp z
                have hgl2 := (hfs g hg).1
                have e1 : d.gates[g]? = some d.gates[g] := List.getElem?_eq_getElem hgl2
                refine (hok _ ?_).1
                unfold nameAt namesD
                rw [e1]
                exact List.mem_append.mpr (.inl (List.mem_append.mpr (.inr (List.mem_map.mpr ⟨_, List.getElem_mem hgl2, rfl⟩))))
            refine ⟨Nat.zero_le _, fun L2 nL2 => ?_⟩
            have E4 := E3.trans (Ex.new (o := .lst []) nL2)
            have hL4 := Ex.new (o := .lst []) nL2 _ _ hL
            have hE4 : upd H3 L2 (.lst []) L2 = some (.lst []) := upd_same
            generalize upd H3 L2 (.lst []) = H4 at *
            refine ⟨_, _, dp_strs (SqL.of hL4), dp_nil (SqL.of hE4), shaped_strs hokp, shaped_nil, _, rfl, ?_⟩
            rw [eqv_nil, List.isEmpty_map]
            have e24 := E2.trans E4
            cases he : (d.gates[k].pins.filter fun x => (knL d.gates ns fs).contains x).isEmpty with
            | true =>
              refine iteF ⟨e24, fs, E4 _ _ hfl, E4 _ _ hkl, nd, hfs, keep (.inr ?_), _, _, _, rfl⟩
              rintro ⟨x, h1, h2⟩
              have h3 := List.filter_eq_nil_iff.mp (List.isEmpty_iff.mp he) x h1
              exact h3 (List.contains_iff_mem.mpr h2)
            | false =>
              have hit : ∃ x ∈ d.gates[k].pins, x ∈ knL d.gates ns fs := by
                cases hq : d.gates[k].pins.filter (fun x => (knL d.gates ns fs).contains x) with
                | nil => rw [hq] at he; cases he
                | cons y r =>
                  have := List.mem_filter.mp (show y ∈ d.gates[k].pins.filter (fun x => (knL d.gates ns fs).contains x) by rw [hq]; exact List.mem_cons_self ..)
                  exact ⟨y, this.1, List.contains_iff_mem.mp this.2⟩
              have hr := hit_rch hfs hgd hit
              have hfl4 := E4 _ _ hfl
              have hkl4 := E4 _ _ hkl
              refine iteT ⟨_, rfl, .inl ⟨rfl, _, SqL.of hfl4⟩, _, rfl, fl, _, _, rfl, rfl, hfl4, sz_lt (by rw [List.length_map]; unfold intsN; rw [List.length_map]; omega), ?_⟩
              have e5 : Ex H (upd H4 fl (.lst ((intsN fs).map V.int ++ [.int (k : Int)]))) := e24.mut nfl
              have hkl5 : upd H4 fl (.lst ((intsN fs).map V.int ++ [.int (k : Int)])) kl = some (.lst ((knL d.gates ns fs).map V.str)) := by rw [upd_ne nfk.symm]; exact hkl4
              have hfl5 : upd H4 fl (.lst ((intsN fs).map V.int ++ [.int (k : Int)])) fl = some (.lst ((intsN (fs ++ [k])).map V.int)) := by
                rw [upd_same]
                unfold intsN
                rw [List.map_append, List.map_append]; rfl
              generalize upd H4 fl (.lst ((intsN fs).map V.int ++ [.int (k : Int)])) = H5 at *
              have hc5 := hc.te (.of e5)
              obtain ⟨b5, hb5, hgate5⟩ := hc5.gates.of hgd
              obtain ⟨xs5, hx5, hx50⟩ := gate_name hgate5
              have hbb : b5 = b := by rw [hb] at hb5; exact (Option.some.inj hb5).symm
              subst hbb
              refine ⟨_, rfl, .inl ⟨rfl, _, SqL.of hkl5⟩, _, rfl, _, _, _, _, rfl, rfl, SqT.of hc5.top, atI_nat (j := 1) rfl, _, rfl, _, _, _, _, rfl, rfl, SqT.of hc5.gts, atI_nat hbV, _, _, _, _, rfl, rfl, SqT.of hx5, atI_nat (j := 0) hx50, kl, _, _, rfl, rfl, hkl5, sz_lt (by rw [List.length_map]; unfold knL; rw [List.length_append, List.length_map]; omega), ?_⟩
              refine ⟨e5.mut nkl0, fs ++ [k], by rw [upd_ne nfk]; exact hfl5, ?_, ?_, ?_, ?_, _, _, _, rfl⟩
              · rw [upd_same]
                unfold knL
                rw [List.map_append (l₁ := fs), ← List.append_assoc, List.map_append (l₂ := [k].map _)]
                have : nameAt d.gates k = d.gates[k].name := by unfold nameAt; rw [hgd]; rfl
                rw [List.map_cons, this]; rfl
              · exact List.nodup_append.mpr ⟨nd, List.nodup_cons.mpr ⟨(fun h => nomatch h), List.nodup_nil⟩, fun x hx y hy e => hnm (by rw [List.mem_singleton.mp hy] at e; exact e ▸ hx)⟩
              · intro g hg
                rcases List.mem_append.mp hg with z | z
                · exact hfs g z
                · rw [List.mem_singleton.mp z]; exact ⟨hk', hr⟩
              · rcases hsh with z | z
                · exact absurd (z k _ hgd hit) hnm
                · exact .inr ⟨by rw [List.length_append]; omega, .inl (by rw [List.length_append]; show t + 1 ≤ fs.length + 1; omega)⟩
      · rintro σ H2 ⟨E2, fs, hfl, hkl, nd, hfs, hsh, x4, x5, x6, rfl⟩
        rw [hgn, Int.toNat_natCast] at hsh
        refine ⟨E2, fs, hfl, hkl, nd, hfs, ?_, _, _, _, rfl⟩
        rcases hsh with z | ⟨_, z | z⟩
        · exact .inl z
        · exact .inr z
        · exact .inl fun g gd hg hx => z g (List.getElem?_eq_some_iff.mp hg).1 gd hg hx
    · rintro σ H1 ⟨E1, fs, hfl, hkl, nd, hfs, hsh, x4, x5, x6, rfl⟩
      rw [hgn, Int.toNat_natCast] at hsh
      have hfull : Shut d.gates ns fs := hsh.elim id fun h => full_shut nd hfs h
      have hfsl : fs.length ≤ d.gates.length := nodup_le _ _ nd fun x hx => (hfs x hx).1
      refine ⟨_, rfl, fl, intsN fs, rfl, SqL.of hfl, (by unfold intsN; rw [List.length_map]; omega), fun ks L hperm hle nL => ?_⟩
      have ndI : (intsN fs).Nodup := by
        unfold intsN
        exact List.Pairwise.map _ (fun a b (h : a ≠ b) => by omega) nd
      refine q L ks _ (fresh_back E1 nL) (E1.trans (Ex.new nL)) upd_same ?_ fun k => ?_
      · exact (hle.and (hperm.symm.nodup ndI)).imp fun {a b} h => by have := h.1; have := h.2; omega
      · rw [hperm.mem_iff]
        unfold intsN
        rw [List.mem_map]
        constructor
        · rintro ⟨g, hg, rfl⟩; exact ⟨g, rfl, (hfs g hg).2⟩
        · rintro ⟨g, rfl, r⟩; exact ⟨g, shut_all hfull r, rfl⟩
def spLaw (K : PySem.W.Frag) : Sp := fun vs H Q _ => ∃ (a : Addr) (ns : List Int), vs = [.ref a] ∧ SqL K H a (ns.map V.int) ∧ ns.length ≤ 63 ∧ ∀ H', Q (.bl true) H'
theorem rep_strs {H : Hp} {x : Addr} {us : List Str} (h : H x = some (.lst (us.map V.str))) : Rep H (.ref x) (.lst (us.map G.D.str)) :=
  let r := rep_map (H := H) (f := V.str) (g := G.D.str) (l := us) fun _ => .str _
  .lst h r.1 r.2
theorem okD_strs {us : List Str} (h : us.length ≤ 1000) : okD 1 (.lst (us.map G.D.str)) := ⟨by rw [List.length_map]; omega, fun d hd => by obtain ⟨_, _, rfl⟩ := List.mem_map.mp hd; trivial⟩
def pairD (p : Int × Int) : G.D := .tup [.int p.1, .int p.2]
theorem rep_pair {H : Hp} {a : Addr} {p : Int × Int} (h : IntsAt H a p) : Rep H (.ref a) (pairD p) := by
  refine .tup h rfl fun i x d hx hd => ?_
  match i with
  | 0 => cases hx; cases hd; exact .int _
  | 1 => cases hx; cases hd; exact .int _
  | n + 2 => exact nomatch hx
theorem rep_pairs {H : Hp} {x : Addr} {as : List Addr} {ps : List (Int × Int)} (h : H x = some (.lst (as.map V.ref))) (hA : All2 (IntsAt H) as ps) : Rep H (.ref x) (.lst (ps.map pairD)) := by
  refine .lst h (by rw [List.length_map, List.length_map, hA.1]) fun i y d hy hd => ?_
  obtain ⟨a, ha, rfl⟩ := refs_get hy
  obtain ⟨p, hp, hap⟩ := hA.at_ ha
  rw [List.getElem?_map, hp] at hd
  cases hd
  exact rep_pair hap
theorem okD_pairs {ps : List (Int × Int)} (h : ps.length ≤ 1000) : okD 2 (.lst (ps.map pairD)) := ⟨by rw [List.length_map]; omega, fun d hd => by
  obtain ⟨p, _, rfl⟩ := List.mem_map.mp hd
  refine ⟨(by show 2 < 2 ^ 61; decide), fun e he => ?_⟩
  rcases List.mem_cons.mp he with rfl | he
  · trivial
  · rw [List.mem_singleton.mp he]; trivial⟩
theorem PoolOk.tex {p a : Addr} {H : Hp} (h : PoolOk p a H) : TEx H (hid p H) := fun c xs hc => by
  obtain ⟨_, _, _, _, _, e, _⟩ := h
  rw [hid_ne (ne_of hc e (by intro z; cases z))]; exact hc
theorem gates_walk {te : TE} {σ : L2.St} {H : Hp} {L gt : Addr} {ga : List Addr} {d : CircD} {vs : List Nat} {i : Nat} {Qd : Hp → Prop} (hn : d.gates.length ≤ 1000) (nL : H L = none) (hr : H gt = some (.tup (ga.map V.ref))) (hR : All2 (GateAt H) ga d.gates) (hw : ∀ x, wipe ((wipe σ vs).set i (some x)) vs = wipe σ vs)
    (el : ∀ (a : Addr) (H' : Hp) (xs : List V) (n : Str) (Q : VK), H' a = some (.tup xs) → xs[0]? = some (.str n) → Q (.str n) H' → te ((wipe σ vs).set i (some (.ref a))) H' Q) (q : ∀ H', Ex H H' → H' L = some (.lst ((d.gates.map (·.name)).map V.str)) → Qd H') :
    ∃ W : Nat → Nat → Hp → Prop, (∃ m, W 0 m (upd H L (.lst []))) ∧ ∀ j m H, W j m H →
      ((Itt K gt).stop j H ∧ Qd H) ∨ ((Itt K gt).go j H ∧ ∃ Nx : Hp → Prop, (∀ H', Nx H' → ∃ m', m' < m ∧ W (j + 1) m' H') ∧ ∀ x H', (Itt K gt).yld j H x H' → gName i x (wipe σ vs) H' fun σ2 H2 => wipe σ2 vs = wipe σ vs ∧ tYes σ2 H2 fun b H3 =>
        if b = true then te σ2 H3 fun y H4 => ∃ acc, H4 L = some (.lst acc) ∧ acc.length < sizeLine ∧ Nx (upd H4 L (.lst (acc ++ [y]))) else Nx H3) := by
  refine wk_tup (K := K) (a := gt) (xs := ga.map V.ref) (fun j H' => Ex H H' ∧ H' L = some (.lst (((d.gates.map (·.name)).take j).map V.str))) ⟨Ex.new nL, by rw [upd_same]; rfl⟩ (fun j H' _ g => SqT.of (g.1 _ _ hr)) ?_ ?_
  · rintro j x H4 hx ⟨E4, hL4⟩
    obtain ⟨b, e, rfl⟩ := refs_get hx
    obtain ⟨g, hg, hgt⟩ := hR.at_ e
    obtain ⟨xs, hb, hx0⟩ := gate_name hgt
    have hj : j < d.gates.length := (List.getElem?_eq_some_iff.mp hg).1
    refine ⟨hw _, tYes_in (el b H4 xs g.name _ (E4 _ _ hb) hx0 ⟨_, hL4, sz_lt (by rw [List.length_map, List.length_take]; omega), E4.mut nL, ?_⟩)⟩
    rw [upd_same, List.take_add_one, List.getElem?_map, hg, List.map_append]; rfl
  · rintro H4 ⟨E4, hL4⟩
    rw [List.length_map, hR.1, ← List.length_map (f := fun g : GateD => g.name), List.take_length] at hL4
    exact q H4 E4 hL4
theorem eqv_strs : ∀ us : List Str, PyData.eqv (.list (us.map PyData.str)) (.list (us.map PyData.str)) = true
  | [] => rfl
  | u :: us => by
    have := eqv_strs us
    simp [PyData.eqv, PyData.eqvAll] at this ⊢
    exact this
theorem sc_law : FnScope ["script", "pool", "turn", "circuit", "due", "nets", "net", "pins", "k", "j", "names", "given", "row", "gate"] ["script"] (defScope s_law) := ⟨rfl, rfl, rfl, by decide +kernel, rfl, by decide +kernel, by decide +kernel⟩
theorem fn_law {C DC : Addr} {f : Addr} {fd : FuncData} (F : Fun K "law" "law" s_law f fd) (T : TxtS mg) (C1 : Has P w K mg base 1 "_law_pool" ["script"] (spPool K)) (C2 : Has P w K mg base 2 "_law_draw" ["pool", "many"] spDrawX) (C3 : Has P w K mg base 4 "_law_circuit" ["pool", "most"] spCirc)
    (C4 : Has P w K mg base 1 "sources" ["circuit"] spSources) (C5 : HasX P w K mg base 3 "readers" ["circuit", "net"] (spReaders C)) (C6 : HasX P w K mg base 3 "cone" ["circuit", "names"] (spCone C)) (C7 : Has P w K mg base 1 "_law_reached" ["circuit", "names"] spReached)
    (C8 : Has P w K mg base 4 "_law_unknown" ["circuit", "names"] spUnknown) (C9 : Has P w K mg base 3 "_law_same" ["actual", "due"] (spSame 3)) : FnOk P w K mg base CX0 5 f fd ["script"] (spLaw K) := by
  obtain ⟨f_law_pool, d_law_pool, G_law_pool, g_law_pool, k_law_pool, b_law_pool⟩ := C1
  obtain ⟨f_law_draw, d_law_draw, G_law_draw, g_law_draw, k_law_draw, b_law_draw⟩ := C2
  obtain ⟨f_law_circuit, d_law_circuit, G_law_circuit, g_law_circuit, k_law_circuit, b_law_circuit⟩ := C3
  obtain ⟨f_sources, d_sources, G_sources, g_sources, k_sources, b_sources⟩ := C4
  obtain ⟨f_readers, d_readers, G_readers, g_readers, k_readers, b_readers⟩ := C5
  obtain ⟨f_cone, d_cone, G_cone, g_cone, k_cone, b_cone⟩ := C6
  obtain ⟨f_law_reached, d_law_reached, G_law_reached, g_law_reached, k_law_reached, b_law_reached⟩ := C7
  obtain ⟨f_law_unknown, d_law_unknown, G_law_unknown, g_law_unknown, k_law_unknown, b_law_unknown⟩ := C8
  obtain ⟨f_law_same, d_law_same, G_law_same, g_law_same, k_law_same, b_law_same⟩ := C9
  refine F.ok sc_law (fun vs H Q E h => ?_) (fun cdv A outer s H vs Q E hr h => ?_)
  · obtain ⟨a, ns, rfl, _⟩ := h
    rfl
  · obtain ⟨sa, ns, rfl, hs, hn, q⟩ := h
    refine ⟨_, (pss_cons (ps_set (i := 1) sc_law.nd rfl (.inr rfl) (pe_call G_law_pool (hr.mono (by omega)) (by rfl) g_law_pool k_law_pool b_law_pool .nil pass0 (pa_cons (pv 0) pa_nil)))
    (pss_cons (ps_for PassesOwn.never rfl (pi_range1 rfl T.range (pa_cons pe_int pa_nil)) (pg_name (i := 2) sc_law.nd rfl (.inl rfl))
      (pss_cons (ps_set (i := 3) sc_law.nd rfl (.inl rfl) (pe_call G_law_circuit (hr.mono (by omega)) (by rfl) g_law_circuit k_law_circuit b_law_circuit .nil pass0 (pa_cons (pv 1) (pa_cons pe_int pa_nil))))
      (pss_cons (ps_set (i := 4) sc_law.nd rfl (.inl rfl) (pe_op op_cat (pe_callTy call_list_of (by rfl) T.list (by decide +kernel) (pa_cons (pe_ix ix_tup (pv 3) pe_int (fun _ _ => rfl)) pa_nil)) (pe_lc (own := [("row", 12)]) (g := gName 12) (tt := tYes) rfl sc_law.nd (pi_tup (pe_ix ix_tup (pv 3) pe_int (fun _ _ => rfl))) (blkOk_by (N := ["script", "pool", "turn", "circuit", "due", "nets", "net", "pins", "k", "j", "names", "given", "row", "gate"]) (sc := defScope s_law) (own := [("row", 12)]) (by decide +kernel)) (fun _ _ _ _ _ => (pg_name (i := 12) sc_law.nd rfl (.inl rfl))) (fun _ _ _ _ _ => pts_nil) (fun _ _ _ _ _ => (pe_ix (kIxT (K := K) rfl) (pv 12) pe_int (fun _ _ => rfl))))))
      (pss_cons (ps_if (pt_not (pt_val (pe_call G_law_same (hr.mono (by omega)) (by rfl) g_law_same k_law_same b_law_same .nil pass0 (pa_cons (pe_call G_sources (hr.mono (by omega)) (by rfl) g_sources k_sources b_sources .nil pass0 (pa_cons (pv 3) pa_nil)) (pa_cons (pv 4) pa_nil)))))
        (pss_one (ps_ret pe_bl))
        pss_nil)
      (pss_cons (ps_set (i := 5) sc_law.nd rfl (.inr rfl) (pe_op op_cat (pv 4) (pe_lc (own := [("gate", 13)]) (g := gName 13) (tt := tYes) rfl sc_law.nd (pi_tup (pe_ix ix_tup (pv 3) pe_int (fun _ _ => rfl))) (blkOk_by (N := ["script", "pool", "turn", "circuit", "due", "nets", "net", "pins", "k", "j", "names", "given", "row", "gate"]) (sc := defScope s_law) (own := [("gate", 13)]) (by decide +kernel)) (fun _ _ _ _ _ => (pg_name (i := 13) sc_law.nd rfl (.inl rfl))) (fun _ _ _ _ _ => pts_nil) (fun _ _ _ _ _ => (pe_ix (kIxT (K := K) rfl) (pv 13) pe_int (fun _ _ => rfl))))))
      (pss_cons (ps_for PassesOwn.never rfl (pi_list (pv 5)) (pg_name (i := 6) sc_law.nd rfl (.inl rfl))
        (pss_cons (ps_set (i := 7) sc_law.nd rfl (.inl rfl) (pe_lst pa_nil))
        (pss_cons (ps_for PassesOwn.never rfl (pi_range1 rfl T.range (pa_cons (pe_callB call_len_seq (by rfl) T.len (by decide +kernel) (pa_cons (pe_ix ix_tup (pv 3) pe_int (fun _ _ => rfl)) pa_nil)) pa_nil)) (pg_name (i := 8) sc_law.nd rfl (.inl rfl))
          (pss_one (ps_for PassesOwn.never rfl (pi_range1 rfl T.range (pa_cons (pe_callB call_len_seq (by rfl) T.len (by decide +kernel) (pa_cons (pe_ix ix_tup (pe_ix ix_tup (pe_ix ix_tup (pv 3) pe_int (fun _ _ => rfl)) (pv 8) (fun _ _ => rfl)) pe_int (fun _ _ => rfl)) pa_nil)) pa_nil)) (pg_name (i := 9) sc_law.nd rfl (.inl rfl))
            (pss_one (ps_if (pt_cmpR op_eq (pe_ix ix_tup (pe_ix ix_tup (pe_ix ix_tup (pe_ix ix_tup (pv 3) pe_int (fun _ _ => rfl)) (pv 8) (fun _ _ => rfl)) pe_int (fun _ _ => rfl)) (pv 9) (fun _ _ => rfl)) (pv 6) (nomark _))
              (pss_one (ps_expr (pe_bm PySem.F.plainAttrs_list PySem.F.slot_list_append PySem.F.type_list_append mt_append (pv 7) (pa_cons (pe_tup (pa_cons (pv 8) (pa_cons (pv 9) pa_nil))) pa_nil))))
              pss_nil)))))
        (pss_one (ps_if (pt_not (pt_val (pe_call G_law_same (hr.mono (by omega)) (by rfl) g_law_same k_law_same b_law_same .nil pass0 (pa_cons (pe_call G_readers (hr.mono (by omega)) (by rfl) g_readers k_readers b_readers .nil passX0 (pa_cons (pv 3) (pa_cons (pv 6) pa_nil))) (pa_cons (pv 7) pa_nil)))))
          (pss_one (ps_ret pe_bl))
          pss_nil)))))
      (pss_one (ps_for PassesOwn.never rfl (pi_range1 rfl T.range (pa_cons pe_int pa_nil)) (pg_name (i := 8) sc_law.nd rfl (.inl rfl))
        (pss_cons (ps_setLc (i := 10) (own := [("j", 9)]) (g := gName 9) (tt := tYes) rfl sc_law.nd rfl rfl (sw_true rfl rfl rfl (by decide +kernel)) (pi_range1 rfl T.range (pa_cons (pe_call G_law_draw (hr.mono (by omega)) (by rfl) g_law_draw k_law_draw b_law_draw .nil pass0 (pa_cons (pv 1) (pa_cons pe_int pa_nil))) pa_nil)) (blkOk_by (N := ["script", "pool", "turn", "circuit", "due", "nets", "net", "pins", "k", "j", "names", "given", "row", "gate"]) (sc := defScope s_law) (own := [("j", 9)]) (by decide +kernel)) (fun _ _ _ _ _ => (pg_name (i := 9) sc_law.nd rfl (.inl rfl))) (fun _ _ _ _ _ => pts_nil) (fun _ _ _ _ _ => (pe_ix (kIxL (K := K) rfl) (pv 5) (pe_call G_law_draw (hr.mono (by omega)) (by rfl) g_law_draw k_law_draw b_law_draw .nil pass0 (pa_cons (pv 1) (pa_cons (pe_callB (kLen (K := K) rfl) (by rfl) T.len (by decide +kernel) (pa_cons (pv 5) pa_nil)) pa_nil))) (fun _ _ => rfl))))
        (pss_cons (ps_set (i := 11) sc_law.nd rfl (.inl rfl) (pe_callTy call_list_of (by rfl) T.list (by decide +kernel) (pa_cons (pv 10) pa_nil)))
        (pss_cut (ps_if (PW.pt (pw_or (pt_not (pt_val (pe_call G_law_same (hr.mono (by omega)) (by rfl) g_law_same k_law_same b_law_same .nil pass0 (pa_cons (pe_call G_cone (hr.mono (by omega)) (by rfl) g_cone k_cone b_cone .nil passX0 (pa_cons (pv 3) (pa_cons (pv 11) pa_nil))) (pa_cons (pe_call G_law_reached (hr.mono (by omega)) (by rfl) g_law_reached k_law_reached b_law_reached .nil pass0 (pa_cons (pv 3) (pa_cons (pv 10) pa_nil))) pa_nil))))) (pw_or1 (pt_cmpR (op_neD hr.units) (pv 11) (pv 10) (nomark _)))))
          (pss_one (ps_ret pe_bl))
          pss_nil)
        (pss_one (ps_if (pt_not (pt_truth (pe_call G_law_unknown (hr.mono (by omega)) (by rfl) g_law_unknown k_law_unknown b_law_unknown .nil pass0 (pa_cons (pv 3) (pa_cons (pv 10) pa_nil))) (by intro _; rfl)))
          (pss_one (ps_ret pe_bl))
          pss_nil)))))))))))))
    (pss_one (ps_ret pe_bl)))), ?_⟩
    refine ⟨_, rfl, sa, ns, rfl, hs, by omega, fun p a H0 hp _ _ => ⟨2, rfl, by decide, by decide, for_range (n := 2)
      (fun _ σ H' => Px p a H0 H' ∧ ∃ (x2 x3 x4 x5 x6 x7 x8 x9 x10 x11 x12 x13 : Option V), σ = [some (.ref sa), some (.ref p), x2, x3, x4, x5, x6, x7, x8, x9, x10, x11, x12, x13]) ⟨Px.refl hp, _, _, _, _, _, _, _, _, _, _, _, _, rfl⟩ ?_ ?_⟩⟩
    · rintro turn σ H1 _ ⟨X1, x2, x3, x4, x5, x6, x7, x8, x9, x10, x11, x12, x13, rfl⟩
      refine ⟨_, rfl, p, a, 9, rfl, by decide, X1.pool, fun c d Gs it gt rt ot ga ra oa H2 Y2 hc2 W => ?_⟩
      have X2 := X1.trans Y2
      have hsm := circ_sm W (by decide)
      have hok := names_ok W (by decide)
      have hlen : d.ins.length + d.gates.length + d.regs.length ≤ 1000 := by
        have hn := hsm.names
        unfold namesD at hn
        rw [List.length_append, List.length_append, List.length_map, List.length_map] at hn
        omega
      refine ⟨_, rfl, _, _, _, _, rfl, rfl, SqT.of hc2.top, atI_nat (j := 0) rfl, _, _, rfl, .inr (SqT.of hc2.ins), fun l1 n1 => ?_⟩
      have E1 : Ex H2 (upd H2 l1 (.lst (d.ins.map V.str))) := Ex.new n1
      have h1 : upd H2 l1 (.lst (d.ins.map V.str)) l1 = some (.lst (d.ins.map V.str)) := upd_same
      generalize upd H2 l1 (.lst (d.ins.map V.str)) = H3 at *
      have hc3 := hc2.te (.of E1)
      refine ⟨_, rfl, _, _, _, _, rfl, rfl, SqT.of hc3.top, atI_nat (j := 2) rfl, rt, rfl, ⟨_, SqT.of hc3.rgs⟩, fun L2 nL2 => regs_walk (by omega) nL2 hc3.rgs hc3.regs (fun _ => rfl) (fun a H' xs n Q ha hx q => ⟨_, rfl, _, _, _, _, rfl, rfl, SqT.of ha, atI_nat (j := 0) hx, q⟩) fun H4 E4 hL => ?_⟩
      refine ⟨l1, L2, _, _, rfl, rfl, E4 _ _ h1, hL, sz_of (by rw [List.length_map, List.length_map, List.length_map]; omega), fun du ndu => ?_⟩
      rw [← List.map_append]
      generalize eD : d.ins ++ d.regs.map (·.name) = due at *
      have E5 : Ex H2 (upd H4 du (.lst (due.map V.str))) := (E1.trans E4).trans (Ex.new ndu)
      have hdu : upd H4 du (.lst (due.map V.str)) du = some (.lst (due.map V.str)) := upd_same
      generalize upd H4 du (.lst (due.map V.str)) = H5 at *
      have hc5 := hc2.te (.of E5)
      have hdl : due.length ≤ 1000 := by rw [← eD, List.length_append, List.length_map]; omega
      refine ⟨_, rfl, c, d, it, gt, rt, ot, ga, ra, oa, rfl, hc5, hsm, fun L6 H6 nL6 E6 hL6 => ?_⟩
      rw [eD] at hL6
      refine ⟨_, rfl, _, _, .lst (due.map G.D.str), rfl, rep_strs hL6, rep_strs (E6 _ _ hdu), okD.mono (by decide) (okD_strs hdl), _, rfl, iteF ?_⟩
      have E26 := E5.trans E6
      have hc6 := hc2.te (.of E26)
      -- nets
      refine ⟨_, rfl, _, rfl, _, _, _, _, rfl, rfl, SqT.of hc6.top, atI_nat (j := 1) rfl, gt, rfl, ⟨_, SqT.of hc6.gts⟩, fun L7 nL7 => gates_walk (by omega) nL7 hc6.gts hc6.gates (fun _ => rfl) (fun a H' xs n Q ha hx q => ⟨_, rfl, _, _, _, _, rfl, rfl, SqT.of ha, atI_nat (j := 0) hx, q⟩) fun H7 E7 hL7 => ?_⟩
      refine ⟨du, L7, _, _, rfl, rfl, E7 _ _ (E6 _ _ hdu), hL7, sz_of (by rw [List.length_map, List.length_map, List.length_map]; omega), fun nt nnt => ?_⟩
      rw [← List.map_append]
      have hmem : ∀ x, x ∈ due ++ d.gates.map (·.name) ↔ x ∈ namesD d := fun x => by
        rw [← eD]
        unfold namesD
        simp only [List.mem_append]
        constructor
        · rintro ((z | z) | z)
          · exact .inl (.inl z)
          · exact .inr z
          · exact .inl (.inr z)
        · rintro ((z | z) | z)
          · exact .inl (.inl z)
          · exact .inr z
          · exact .inl (.inr z)
      have hnl : (due ++ d.gates.map (·.name)).length ≤ 2000 := by rw [List.length_append, List.length_map]; omega
      have hn0 : 0 < (due ++ d.gates.map (·.name)).length := by
        obtain ⟨k, a1, _, a3⟩ := W.ins
        rw [← eD, List.length_append, List.length_append, a3, List.length_map, List.length_range]; omega
      generalize due ++ d.gates.map (·.name) = nets at *
      have E8 : Ex H2 (upd H7 nt (.lst (nets.map V.str))) := (E26.trans E7).trans (Ex.new nnt)
      have hnt : upd H7 nt (.lst (nets.map V.str)) nt = some (.lst (nets.map V.str)) := upd_same
      have nnt2 : H2 nt = none := fresh_back (E26.trans E7) nnt
      generalize upd H7 nt (.lst (nets.map V.str)) = H8 at *
      have hc8 := hc2.te (.of E8)
      have hgn : (ga.map V.ref).length = d.gates.length := by rw [List.length_map, hc2.gates.1]
      refine ⟨_, rfl, nt, rfl, ⟨_, SqL.of hnt⟩, for_list (K := K) (a := nt) (xs := nets.map V.str)
        (fun i σ H' => Ex H8 H' ∧ ∃ (x6 x7 x8 x9 x10 x11 x12 x13 : Option V), σ = [some (.ref sa), some (.ref p), some (.int (0 + (turn : Int))), some (.ref c), some (.ref du), some (.ref nt), x6, x7, x8, x9, x10, x11, x12, x13]) ⟨.refl _, _, _, _, _, _, _, _, _, rfl⟩ (fun i σ H' _ g => SqL.of (g.1 _ _ hnt)) ?_ ?_⟩
      · rintro i x σ H9 hx ⟨E9, x6, x7, x8, x9, x10, x11, x12, x13, rfl⟩
        have hi : i < nets.length := by have := (List.getElem?_eq_some_iff.mp hx).1; rw [List.length_map] at this; exact this
        obtain rfl : x = .str nets[i] := by rw [strV_at hi] at hx; exact (Option.some.inj hx).symm
        have hin : nets[i] ∈ namesD d := (hmem _).mp (List.getElem_mem hi)
        generalize nets[i] = net at *
        have hc9 := hc8.te (.of E9)
        refine ⟨Nat.zero_le _, fun pl npl => ?_⟩
        refine ⟨_, rfl, _, _, _, _, rfl, rfl, SqT.of (hc9.te (.new npl)).top, atI_nat (j := 1) rfl, _, _, rfl, .inr (SqT.of (hc9.te (.new npl)).gts), _, rfl, by omega, by omega, for_range (n := (((ga.map V.ref).length : Nat) : Int).toNat)
          (fun k σ H' => Ex H9 H' ∧ (∃ as : List Addr, H' pl = some (.lst (as.map V.ref)) ∧ All2 (IntsAt (hid pl H')) as (readD d net k)) ∧ ∃ (x8 x9 x10 x11 x12 x13 : Option V), σ = [some (.ref sa), some (.ref p), some (.int (0 + (turn : Int))), some (.ref c), some (.ref du), some (.ref nt), some (.str net), some (.ref pl), x8, x9, x10, x11, x12, x13])
          ⟨Ex.new npl, ⟨[], upd_same, .nil⟩, _, _, _, _, _, _, rfl⟩ ?_ ?_⟩
        · rintro k σ H10 hk ⟨E10, ⟨as, hpl, hA⟩, x8, x9, x10, x11, x12, x13, rfl⟩
          have hk' : k < d.gates.length := by omega
          have ek : (0 : Int) + (k : Int) = (k : Int) := Int.zero_add _
          rw [ek]
          have hc10 := hc9.te (.of E10)
          have hgd : d.gates[k]? = some d.gates[k] := List.getElem?_eq_getElem hk'
          obtain ⟨b, hb, tt, pt, rgt, rga, hg1, hg2, hg3, _⟩ := hc10.gates.of hgd
          have hbV : (ga.map V.ref)[k]? = some (.ref b) := by rw [List.getElem?_map, hb]; rfl
          have hpk : pinsAt d k = d.gates[k].pins := by unfold pinsAt; rw [hgd]; rfl
          have hpll : d.gates[k].pins.length ≤ 10 := by rw [← hpk]; exact hsm.pins k
          generalize d.gates[k].pins = pins at *
          have hplen : (pins.map V.str).length = pins.length := List.length_map ..
          refine ⟨_, rfl, _, _, _, _, rfl, rfl, SqT.of hc10.top, atI_nat (j := 1) rfl, _, rfl, _, _, _, _, rfl, rfl, SqT.of hc10.gts, atI_nat hbV, _, _, _, _, rfl, rfl, SqT.of hg1, atI_nat (j := 2) rfl, _, _, rfl, .inr (SqT.of hg3), _, rfl, by omega, by omega, for_range (n := (((pins.map V.str).length : Nat) : Int).toNat)
            (fun j σ H' => Ex H9 H' ∧ TEx H10 H' ∧ (∃ as : List Addr, H' pl = some (.lst (as.map V.ref)) ∧ All2 (IntsAt (hid pl H')) as (readD d net k ++ rdG k net pins j)) ∧ ∃ (x9 x10 x11 x12 x13 : Option V), σ = [some (.ref sa), some (.ref p), some (.int (0 + (turn : Int))), some (.ref c), some (.ref du), some (.ref nt), some (.str net), some (.ref pl), some (.int (k : Int)), x9, x10, x11, x12, x13])
            ⟨E10, .refl _, ⟨as, hpl, by rw [show rdG k net pins 0 = [] from rfl, List.append_nil]; exact hA⟩, _, _, _, _, _, rfl⟩ ?_ ?_⟩
          · rintro j σ H11 hj ⟨E11, T11, ⟨as, hpl, hA⟩, x9, x10, x11, x12, x13, rfl⟩
            have hj' : j < pins.length := by omega
            have ej : (0 : Int) + (j : Int) = (j : Int) := Int.zero_add _
            rw [ej]
            have hc11 := hc9.te (.of E11)
            have hat := rdG_succ k net pins j
            rw [List.getElem?_eq_getElem hj'] at hat
            refine ⟨_, rfl, _, _, _, _, rfl, rfl, SqT.of hc11.top, atI_nat (j := 1) rfl, _, rfl, _, _, _, _, rfl, rfl, SqT.of hc11.gts, atI_nat hbV, _, _, _, _, rfl, rfl, SqT.of (T11 _ _ hg1), atI_nat (j := 2) rfl, _, rfl, _, _, _, _, rfl, rfl, SqT.of (T11 _ _ hg3), atI_nat (strV_at hj'), _, rfl, rfl, _, rfl, ?_⟩
            rw [decV_str2]
            cases hd : decide (some pins[j] = some net) with
            | false =>
              rw [hd, if_neg Bool.false_ne_true] at hat
              exact iteF ⟨E11, T11, ⟨as, hpl, by rw [hat]; exact hA⟩, _, _, _, _, _, rfl⟩
            | true =>
              rw [hd, if_pos rfl] at hat
              refine iteT ⟨_, rfl, .inl ⟨rfl, _, SqL.of hpl⟩, _, rfl, _, rfl, (by show 2 ≤ sizeLine; decide), fun e ne => ?_⟩
              have nLe : pl ≠ e := ne_of_none hpl ne
              have E12 : Ex H11 (upd H11 e (.tup [.int (k : Nat), .int (j : Nat)])) := Ex.new ne
              have he : upd H11 e (.tup [.int (k : Nat), .int (j : Nat)]) e = some (.tup [.int (k : Nat), .int (j : Nat)]) := upd_same
              generalize upd H11 e (.tup [.int (k : Nat), .int (j : Nat)]) = H12 at *
              have hpl12 := E12 _ _ hpl
              refine ⟨pl, _, _, rfl, rfl, hpl12, sz_lt ?_, (E11.trans E12).mut npl, (T11.trans (.of E12)).trans (.mut hpl12), ⟨as ++ [e], by rw [upd_same, List.map_append]; rfl, ?_⟩, _, _, _, _, _, rfl⟩
              · rw [List.length_map, hA.1, List.length_append]
                have h1 := readD_len d net hsm.pins k
                have h2 := rdG_len k net pins j
                have h5 := hsm.gates
                omega
              · rw [hat, ← List.append_assoc, hid_upd]
                refine (hA.imp fun _ _ z => z.hid E12).snoc ?_
                show G.hid pl H12 e = _
                rw [hid_ne nLe.symm]; exact he
          · rintro σ H11 ⟨E11, T11, ⟨as, hpl, hA⟩, x9, x10, x11, x12, x13, rfl⟩
            rw [hplen, Int.toNat_natCast] at hA
            exact ⟨E11, ⟨as, hpl, by rw [readD_succ, hpk]; exact hA⟩, _, _, _, _, _, _, rfl⟩
        · rintro σ H10 ⟨E10, ⟨as, hpl, hA⟩, x8, x9, x10, x11, x12, x13, rfl⟩
          rw [hgn, Int.toNat_natCast] at hA
          have hA10 : All2 (IntsAt H10) as (readD d net d.gates.length) := hA.imp fun _ _ z => hid_get z
          have hrl : (readD d net d.gates.length).length ≤ 1000 := by
            have h1 := readD_len d net hsm.pins d.gates.length
            have h5 := hsm.gates
            omega
          refine ⟨_, rfl, _, rfl, c, d, net, it, gt, rt, ot, ga, ra, oa, rfl, hc9.te (.of E10), hsm, by have := (hok net hin).2.1; omega, fun _ L11 as2 H11 nL11 E11 hL11 hA11 => ?_, fun hno => absurd hin hno⟩
          refine ⟨_, rfl, _, _, .lst ((readD d net d.gates.length).map pairD), rfl, rep_pairs hL11 hA11, rep_pairs (E11 _ _ hpl) (hA10.imp fun _ _ z => E11 _ _ z), okD_pairs hrl, _, rfl, iteF ⟨E9.trans (E10.trans E11), _, _, _, _, _, _, _, _, rfl⟩⟩
      · rintro σ H9 ⟨E9, x6, x7, x8, x9, x10, x11, x12, x13, rfl⟩
        have E29 := E8.trans E9
        have X9 := X2.more E29
        have Y29 := Px.ofEx X2.pool E29
        have hnt9 : hid p H9 nt = some (.lst (nets.map V.str)) := Y29.seen nnt2 (E9 _ _ hnt)
        have hno : ("nowhere" : Str) ∉ namesD d := fun h => (hok _ h).2.2 rfl
        refine ⟨4, rfl, by decide, by decide, for_range (n := 4)
          (fun k σ H' => Px p a H9 H' ∧ ∃ (x6 x7 x8 x9 x10 x11 x12 x13 : Option V), σ = [some (.ref sa), some (.ref p), some (.int (0 + (turn : Int))), some (.ref c), some (.ref du), some (.ref nt), x6, x7, x8, x9, x10, x11, x12, x13]) ⟨Px.refl X9.pool, _, _, _, _, _, _, _, _, rfl⟩ ?_ ?_⟩
        · rintro k σ H10 _ ⟨X10, x6, x7, x8, x9, x10, x11, x12, x13, rfl⟩
          refine ⟨_, rfl, p, a, 4, rfl, by decide, by decide, X10.pool, fun m H11 hm X11 _ => ⟨_, rfl, by omega, by omega, fun L12 nL12 => lc_range (lo := 0) (n := ((m : Nat) : Int).toNat)
            (fun j H' => Px p a H11 H' ∧ ∃ us : List Str, us.length = j ∧ (∀ x ∈ us, x ∈ nets) ∧ hid p H' L12 = some (.lst (us.map V.str))) ⟨(Px.refl X11.pool).new nL12, [], rfl, (fun _ h => nomatch h), hid_new (X11.pool.ne nL12)⟩ ?_ ?_⟩⟩
          · rintro j H12 hj ⟨X12, us, huj, hus, hL12⟩
            have Z12 := (X10.trans X11).trans X12
            refine ⟨rfl, tYes_in ⟨_, rfl, _, rfl, _, rfl, _, _, rfl, .inl (SqL.of (Z12.at_ hnt9)), p, a, nets.length, by rw [List.length_map]; rfl, by omega, by omega, X12.pool, fun u H13 hu X13 _ => ?_⟩⟩
            have hu' : u < nets.length := by omega
            refine ⟨_, _, _, _, rfl, rfl, SqL.of ((Z12.trans X13).at_ hnt9), atI_nat (strV_at hu'), _, hid_get (X13.get hL12), sz_lt (by rw [List.length_map]; omega), (X12.trans X13).mut nL12, us ++ [nets[u]], ?_, ?_, ?_⟩
            · rw [List.length_append, huj]; rfl
            · intro x hx
              rcases List.mem_append.mp hx with z | z
              · exact hus x z
              · rw [List.mem_singleton.mp z]; exact List.getElem_mem hu'
            · rw [hid_new (X11.pool.ne nL12), List.map_append]; rfl
          · rintro H12 ⟨X12, us, huj, hus, hL12⟩
            rw [Int.toNat_natCast] at huj
            have Z12 := (X10.trans X11).trans X12
            have husN : ∀ x ∈ us, x ∈ namesD d := fun x hx => (hmem x).mp (hus x hx)
            have husl : ∀ x ∈ us, x.length ≤ 1000 := fun x hx => by have := (hok x (husN x hx)).2.1; omega
            have husk : ∀ x ∈ us, PyData.strOk x = true := fun x hx => (hok x (husN x hx)).1
            have hL12' := hid_get hL12
            have hc12 : CircAt H12 c d it gt rt ot ga ra oa := hc2.te ((TEx.px Y29).trans (TEx.px Z12))
            refine ⟨_, rfl, _, _, rfl, .inl (SqL.of hL12'), fun gv ngv => ?_⟩
            have E13 : Ex H12 (upd H12 gv (.lst (us.map V.str))) := Ex.new ngv
            have hgv : upd H12 gv (.lst (us.map V.str)) gv = some (.lst (us.map V.str)) := upd_same
            generalize upd H12 gv (.lst (us.map V.str)) = H13 at *
            have hc13 := hc12.te (.of E13)
            refine ⟨fun σ H' => Ex H12 H' ∧ ∃ (x6 x7 x8 x9 x11 x12 x13 : Option V), σ = [some (.ref sa), some (.ref p), some (.int (0 + (turn : Int))), some (.ref c), some (.ref du), some (.ref nt), x6, x7, x8, x9, some (.ref L12), x11, x12, x13], ?_, ?_⟩
            · refine ⟨_, rfl, _, rfl, c, gv, d, us, it, gt, rt, ot, ga, ra, oa, rfl, hc13, hsm, hgv, by omega, husl, fun _ L14 ks H14 nL14 E14 hL14 hso hks => ?_, fun hx => absurd hx (fun ⟨x, h1, h2⟩ => h2 (husN x h1))⟩
              have E1214 := E13.trans E14
              refine ⟨_, rfl, _, rfl, c, L12, d, us, it, gt, rt, ot, ga, ra, oa, rfl, hc12.te (.of E1214), hsm, hok, E1214 _ _ hL12', by omega, husN, fun L15 ks2 H15 nL15 E15 hL15 hso2 hks2 => ?_⟩
              have ek : ks = ks2 := sorted_eq hso hso2 fun k => (hks k).trans (hks2 k).symm
              subst ek
              have hkl : ks.length ≤ 1000 := by
                have nd : ks.Nodup := hso.imp fun {a b} h => by omega
                have h1 := nodup_le d.gates.length (ks.map Int.toNat) (List.pairwise_map.mpr (List.Pairwise.imp_of_mem (fun {a b} ha hb h => by
                    obtain ⟨g, e1, _⟩ := (hks a).mp ha
                    obtain ⟨g2, e2, _⟩ := (hks b).mp hb
                    omega) hso)) fun x hx => by
                  obtain ⟨k, hk, rfl⟩ := List.mem_map.mp hx
                  obtain ⟨g, e1, r⟩ := (hks k).mp hk
                  have hg : g < d.gates.length := by
                    cases r with
                    | base h1 _ _ => exact (List.getElem?_eq_some_iff.mp h1).1
                    | step h1 _ _ _ => exact (List.getElem?_eq_some_iff.mp h1).1
                  omega
                rw [List.length_map] at h1
                have := hsm.gates
                omega
              refine ⟨_, _, .lst (ks.map G.D.int), rfl, rep_ints (E15 _ _ hL14), rep_ints hL15, okD.mono (by decide) (okD_ints (by omega)), _, rfl, iteF ?_⟩
              have E1215 := E1214.trans E15
              refine ⟨_, rfl, _, rfl, _, _, dp_strs (SqL.of (E15 _ _ (E14 _ _ hgv))), dp_strs (SqL.of (E1215 _ _ hL12')), shaped_strs husk, shaped_strs husk, _, rfl, ?_⟩
              rw [eqv_strs]
              exact iteF ⟨E1215, _, _, _, _, _, _, _, rfl⟩
            · rintro σ H14 ⟨E14, x6, x7, x8, x9, x11, x12, x13, rfl⟩
              refine ⟨_, rfl, _, rfl, c, L12, d, us, it, gt, rt, ot, ga, ra, oa, rfl, hc12.te (.of E14), hsm, E14 _ _ hL12', by omega, husl, hno, fun H15 E15 => ⟨_, rfl, iteF ⟨Z12.more (E14.trans E15) |> fun z => z, _, _, _, _, _, _, _, _, rfl⟩⟩⟩
        · rintro σ H10 ⟨X10, x6, x7, x8, x9, x10, x11, x12, x13, rfl⟩
          exact ⟨X9.trans X10, _, _, _, _, _, _, _, _, _, _, _, _, rfl⟩
    · rintro σ H1 ⟨X1, x2, x3, x4, x5, x6, x7, x8, x9, x10, x11, x12, x13, rfl⟩
      exact q H1
end
end G
namespace G
open PySem PySem.Spec PyProof.Rows L2
/-- the defs and the built-in names as the top has left them -/
structure All (K : PySem.W.Frag) (mg : Str → Option Value) : Prop where
  d_sources : Dfd K mg "sources" s_sources ["circuit"]
  d_readers : Dfd K mg "readers" s_readers ["circuit", "net"]
  d_cone : Dfd K mg "cone" s_cone ["circuit", "names"]
  d_check_nets : Dfd K mg "check_nets" s_check_nets ["circuit", "names"]
  d_all_names : Dfd K mg "_all_names" s_all_names ["circuit"]
  d_gates_by_net : Dfd K mg "_gates_by_net" s_gates_by_net ["gates"]
  d_law_pool : Dfd K mg "_law_pool" s_law_pool ["script"]
  d_law_spread : Dfd K mg "_law_spread" s_law_spread ["cell"]
  d_law_draw : Dfd K mg "_law_draw" s_law_draw ["pool", "many"]
  d_law_same : Dfd K mg "_law_same" s_law_same ["actual", "due"]
  d_law_bits : Dfd K mg "_law_bits" s_law_bits ["index", "many"]
  d_law_table : Dfd K mg "_law_table" s_law_table ["pool", "many"]
  d_law_register : Dfd K mg "_law_register" s_law_register ["pool", "name", "net"]
  d_law_shuffled : Dfd K mg "_law_shuffled" s_law_shuffled ["pool", "rows"]
  d_law_circuit : Dfd K mg "_law_circuit" s_law_circuit ["pool", "most"]
  d_law_unknown : Dfd K mg "_law_unknown" s_law_unknown ["circuit", "names"]
  d_law_reached : Dfd K mg "_law_reached" s_law_reached ["circuit", "names"]
  z_list : mg "list" = none
  z_enumerate : mg "enumerate" = none
  z_set : mg "set" = none
  z_sorted : mg "sorted" = none
  z_int : mg "int" = none
  z_range : mg "range" = none
  z_len : mg "len" = none
  z_isinstance : mg "isinstance" = none
  z_tuple : mg "tuple" = none
  z_bool : mg "bool" = none
  z_str : mg "str" = none
  z_ValueError : mg "ValueError" = none
  e_UnknownName : ∃ C DC : Addr, ExcU K mg C DC
end G
namespace G
open PySem PySem.Spec PyProof.Rows L2
theorem glue {P : Program} {w : World} {K : PySem.W.Frag} {mg : Str → Option Value} {base : Heap} (A : All K mg) {f : Addr} {fd : FuncData} (F : Fun K "law" "law" s_law f fd) : FnOk P w K mg base CX0 5 f fd ["script"] (spLaw K) := by
  have TL : TxtL mg := ⟨A.z_int, A.z_len, A.z_list, A.z_range⟩
  have TS : TxtS mg := ⟨A.z_isinstance, A.z_tuple, A.z_list, A.z_len, A.z_range, A.z_bool, A.z_int, A.z_str⟩
  have TR : TxtR mg := ⟨A.z_list, A.z_enumerate, A.z_set, A.z_sorted⟩
  have TQ : TxtQ mg := ⟨A.z_list, A.z_len, A.z_range, A.z_sorted⟩
  obtain ⟨C, DC, U⟩ := A.e_UnknownName
  have hd := drawX (P := P) (w := w) (base := base) (ok_law_draw A.d_law_draw TL (ok_law_spread A.d_law_spread TL))
  have hb := ok_law_bits (P := P) (w := w) (base := base) A.d_law_bits TS
  have hk := ok_check_nets (P := P) (w := w) (base := base) A.d_check_nets U.u (ok_all_names A.d_all_names ⟨A.z_list⟩)
  have hr := ok_readers (P := P) (w := w) (base := base) A.d_readers TR hk
  have hc := ok_cone (P := P) (w := w) (base := base) A.d_cone TR hk (ok_gates_by_net A.d_gates_by_net TR)
  exact fn_law (DC := DC) F TS (ok_law_pool A.d_law_pool TL) hd (ok_law_circuit A.d_law_circuit TS hd (ok_law_table A.d_law_table TS hd hb) (ok_law_register A.d_law_register hd) (ok_law_shuffled A.d_law_shuffled TS hd))
    (ok_sources A.d_sources TR) hr hc (ok_law_reached A.d_law_reached TQ) (ok_law_unknown A.d_law_unknown TS U hr hc) (ok_law_same A.d_law_same TS 3)
end G
namespace G
open PySem PySem.Spec PyProof.Rows L2
theorem all_mk {l : PySem.W.OpenLaw} {w : World} {K : PySem.W.Frag} {h : Heap} {mg : Str → Option Value} {fa f0 f1 f2 f3 f4 f5 f6 f7 f8 f9 f10 f11 f12 f13 f14 f15 f16 f17 : Addr} (X : K.In h) (G : h.Ns mainGlobals mg) (hfa : mg "law" = some (.ref fa))
    {od0 an0 od1 an1 od2 an2 od3 an3 od4 an4 od5 an5 od6 an6 od7 an7 od8 an8 od9 an9 od10 an10 od11 an11 od12 an12 od13 an13 od14 an14 od15 an15 od16 an16 od17 an17 : Option Addr} {sl0 sl1 sl2 sl3 sl4 sl5 sl6 sl7 sl8 sl9 sl10 sl11 sl12 sl13 sl14 sl15 sl16 sl17 : Array (Option Value)} {oc0 kv0 dc0 pm0 cd0 ct0 oc1 kv1 dc1 pm1 cd1 ct1 oc2 kv2 dc2 pm2 cd2 ct2 oc3 kv3 dc3 pm3 cd3 ct3 oc4 kv4 dc4 pm4 cd4 ct4 oc5 kv5 dc5 pm5 cd5 ct5 oc6 kv6 dc6 pm6 cd6 ct6 oc7 kv7 dc7 pm7 cd7 ct7 oc8 kv8 dc8 pm8 cd8 ct8 oc9 kv9 dc9 pm9 cd9 ct9 oc10 kv10 dc10 pm10 cd10 ct10 oc11 kv11 dc11 pm11 cd11 ct11 oc12 kv12 dc12 pm12 cd12 ct12 oc13 kv13 dc13 pm13 cd13 ct13 oc14 kv14 dc14 pm14 cd14 ct14 oc15 kv15 dc15 pm15 cd15 ct15 oc16 kv16 dc16 pm16 cd16 ct16 oc17 kv17 dc17 pm17 cd17 ct17 : Value}
    (a0 : PySem.W.nsIn K mainGlobals "sources" = some (some (.ref f0))) (l0 : K.lookup f0 = some ⟨oc0, od0, .func (PySem.W.fnOf "sources" "sources" (defArgs s_sources) (defBody s_sources) (defScope s_sources) .none kv0 dc0 pm0 an0 cd0 ct0), sl0⟩) (c0 : PySem.W.codeIn K cd0 "sources" = true) (k0 : PySem.W.keepIn K (.ref f0) = true)
    (a1 : PySem.W.nsIn K mainGlobals "readers" = some (some (.ref f1))) (l1 : K.lookup f1 = some ⟨oc1, od1, .func (PySem.W.fnOf "readers" "readers" (defArgs s_readers) (defBody s_readers) (defScope s_readers) .none kv1 dc1 pm1 an1 cd1 ct1), sl1⟩) (c1 : PySem.W.codeIn K cd1 "readers" = true) (k1 : PySem.W.keepIn K (.ref f1) = true)
    (a2 : PySem.W.nsIn K mainGlobals "cone" = some (some (.ref f2))) (l2 : K.lookup f2 = some ⟨oc2, od2, .func (PySem.W.fnOf "cone" "cone" (defArgs s_cone) (defBody s_cone) (defScope s_cone) .none kv2 dc2 pm2 an2 cd2 ct2), sl2⟩) (c2 : PySem.W.codeIn K cd2 "cone" = true) (k2 : PySem.W.keepIn K (.ref f2) = true)
    (a3 : PySem.W.nsIn K mainGlobals "check_nets" = some (some (.ref f3))) (l3 : K.lookup f3 = some ⟨oc3, od3, .func (PySem.W.fnOf "check_nets" "check_nets" (defArgs s_check_nets) (defBody s_check_nets) (defScope s_check_nets) .none kv3 dc3 pm3 an3 cd3 ct3), sl3⟩) (c3 : PySem.W.codeIn K cd3 "check_nets" = true) (k3 : PySem.W.keepIn K (.ref f3) = true)
    (a4 : PySem.W.nsIn K mainGlobals "_all_names" = some (some (.ref f4))) (l4 : K.lookup f4 = some ⟨oc4, od4, .func (PySem.W.fnOf "_all_names" "_all_names" (defArgs s_all_names) (defBody s_all_names) (defScope s_all_names) .none kv4 dc4 pm4 an4 cd4 ct4), sl4⟩) (c4 : PySem.W.codeIn K cd4 "_all_names" = true) (k4 : PySem.W.keepIn K (.ref f4) = true)
    (a5 : PySem.W.nsIn K mainGlobals "_gates_by_net" = some (some (.ref f5))) (l5 : K.lookup f5 = some ⟨oc5, od5, .func (PySem.W.fnOf "_gates_by_net" "_gates_by_net" (defArgs s_gates_by_net) (defBody s_gates_by_net) (defScope s_gates_by_net) .none kv5 dc5 pm5 an5 cd5 ct5), sl5⟩) (c5 : PySem.W.codeIn K cd5 "_gates_by_net" = true) (k5 : PySem.W.keepIn K (.ref f5) = true)
    (a6 : PySem.W.nsIn K mainGlobals "_law_pool" = some (some (.ref f6))) (l6 : K.lookup f6 = some ⟨oc6, od6, .func (PySem.W.fnOf "_law_pool" "_law_pool" (defArgs s_law_pool) (defBody s_law_pool) (defScope s_law_pool) .none kv6 dc6 pm6 an6 cd6 ct6), sl6⟩) (c6 : PySem.W.codeIn K cd6 "_law_pool" = true) (k6 : PySem.W.keepIn K (.ref f6) = true)
    (a7 : PySem.W.nsIn K mainGlobals "_law_spread" = some (some (.ref f7))) (l7 : K.lookup f7 = some ⟨oc7, od7, .func (PySem.W.fnOf "_law_spread" "_law_spread" (defArgs s_law_spread) (defBody s_law_spread) (defScope s_law_spread) .none kv7 dc7 pm7 an7 cd7 ct7), sl7⟩) (c7 : PySem.W.codeIn K cd7 "_law_spread" = true) (k7 : PySem.W.keepIn K (.ref f7) = true)
    (a8 : PySem.W.nsIn K mainGlobals "_law_draw" = some (some (.ref f8))) (l8 : K.lookup f8 = some ⟨oc8, od8, .func (PySem.W.fnOf "_law_draw" "_law_draw" (defArgs s_law_draw) (defBody s_law_draw) (defScope s_law_draw) .none kv8 dc8 pm8 an8 cd8 ct8), sl8⟩) (c8 : PySem.W.codeIn K cd8 "_law_draw" = true) (k8 : PySem.W.keepIn K (.ref f8) = true)
    (a9 : PySem.W.nsIn K mainGlobals "_law_same" = some (some (.ref f9))) (l9 : K.lookup f9 = some ⟨oc9, od9, .func (PySem.W.fnOf "_law_same" "_law_same" (defArgs s_law_same) (defBody s_law_same) (defScope s_law_same) .none kv9 dc9 pm9 an9 cd9 ct9), sl9⟩) (c9 : PySem.W.codeIn K cd9 "_law_same" = true) (k9 : PySem.W.keepIn K (.ref f9) = true)
    (a10 : PySem.W.nsIn K mainGlobals "_law_bits" = some (some (.ref f10))) (l10 : K.lookup f10 = some ⟨oc10, od10, .func (PySem.W.fnOf "_law_bits" "_law_bits" (defArgs s_law_bits) (defBody s_law_bits) (defScope s_law_bits) .none kv10 dc10 pm10 an10 cd10 ct10), sl10⟩) (c10 : PySem.W.codeIn K cd10 "_law_bits" = true) (k10 : PySem.W.keepIn K (.ref f10) = true)
    (a11 : PySem.W.nsIn K mainGlobals "_law_table" = some (some (.ref f11))) (l11 : K.lookup f11 = some ⟨oc11, od11, .func (PySem.W.fnOf "_law_table" "_law_table" (defArgs s_law_table) (defBody s_law_table) (defScope s_law_table) .none kv11 dc11 pm11 an11 cd11 ct11), sl11⟩) (c11 : PySem.W.codeIn K cd11 "_law_table" = true) (k11 : PySem.W.keepIn K (.ref f11) = true)
    (a12 : PySem.W.nsIn K mainGlobals "_law_register" = some (some (.ref f12))) (l12 : K.lookup f12 = some ⟨oc12, od12, .func (PySem.W.fnOf "_law_register" "_law_register" (defArgs s_law_register) (defBody s_law_register) (defScope s_law_register) .none kv12 dc12 pm12 an12 cd12 ct12), sl12⟩) (c12 : PySem.W.codeIn K cd12 "_law_register" = true) (k12 : PySem.W.keepIn K (.ref f12) = true)
    (a13 : PySem.W.nsIn K mainGlobals "_law_shuffled" = some (some (.ref f13))) (l13 : K.lookup f13 = some ⟨oc13, od13, .func (PySem.W.fnOf "_law_shuffled" "_law_shuffled" (defArgs s_law_shuffled) (defBody s_law_shuffled) (defScope s_law_shuffled) .none kv13 dc13 pm13 an13 cd13 ct13), sl13⟩) (c13 : PySem.W.codeIn K cd13 "_law_shuffled" = true) (k13 : PySem.W.keepIn K (.ref f13) = true)
    (a14 : PySem.W.nsIn K mainGlobals "_law_circuit" = some (some (.ref f14))) (l14 : K.lookup f14 = some ⟨oc14, od14, .func (PySem.W.fnOf "_law_circuit" "_law_circuit" (defArgs s_law_circuit) (defBody s_law_circuit) (defScope s_law_circuit) .none kv14 dc14 pm14 an14 cd14 ct14), sl14⟩) (c14 : PySem.W.codeIn K cd14 "_law_circuit" = true) (k14 : PySem.W.keepIn K (.ref f14) = true)
    (a15 : PySem.W.nsIn K mainGlobals "_law_unknown" = some (some (.ref f15))) (l15 : K.lookup f15 = some ⟨oc15, od15, .func (PySem.W.fnOf "_law_unknown" "_law_unknown" (defArgs s_law_unknown) (defBody s_law_unknown) (defScope s_law_unknown) .none kv15 dc15 pm15 an15 cd15 ct15), sl15⟩) (c15 : PySem.W.codeIn K cd15 "_law_unknown" = true) (k15 : PySem.W.keepIn K (.ref f15) = true)
    (a16 : PySem.W.nsIn K mainGlobals "_law_reached" = some (some (.ref f16))) (l16 : K.lookup f16 = some ⟨oc16, od16, .func (PySem.W.fnOf "_law_reached" "_law_reached" (defArgs s_law_reached) (defBody s_law_reached) (defScope s_law_reached) .none kv16 dc16 pm16 an16 cd16 ct16), sl16⟩) (c16 : PySem.W.codeIn K cd16 "_law_reached" = true) (k16 : PySem.W.keepIn K (.ref f16) = true)
    (a17 : PySem.W.nsIn K mainGlobals "law" = some (some (.ref f17))) (l17 : K.lookup f17 = some ⟨oc17, od17, .func (PySem.W.fnOf "law" "law" (defArgs s_law) (defBody s_law) (defScope s_law) .none kv17 dc17 pm17 an17 cd17 ct17), sl17⟩) (c17 : PySem.W.codeIn K cd17 "law" = true) (k17 : PySem.W.keepIn K (.ref f17) = true)
    {xC0 xD0 : Addr} (u0_0 : PySem.W.nsIn K mainGlobals "UnknownName" = some (some (.ref xC0))) (u0_1 : PySem.W.excIn K xC0 [.type "ValueError", .type "Exception", .type "BaseException", .type "object"] "ValueError.__new__" = true) (u0_2 : PySem.W.keepIn K (.ref xC0) = true) (u0_3 : PySem.W.subIn K (.ref xC0) (.type "BaseException") = some true) (u0_4 : PySem.W.typeIn K (.ref xC0) = some (.type "type")) (u0_5 : PySem.W.nsIn K mainGlobals "DeckError" = some (some (.ref xD0))) (u0_6 : PySem.W.hasDictIn K xC0 = true) (u0_7 : PySem.W.subIn K (.ref xC0) (.ref xC0) = some true) (u0_8 : PySem.W.findIn K (.ref xC0) "__getattribute__" = some (some (.builtin "BaseException.__getattribute__"))) (u0_9 : PySem.W.findIn K (.ref xC0) "__getattr__" = some none) (u0_10 : PySem.W.findIn K (.ref xC0) "__class__" = some (some (.builtin "object.__class__"))) (u0_11 : PySem.W.specialIn K (.builtin "object.__class__") "__get__" = some (some (.builtin "getset_descriptor.__get__"))) (u0_12 : PySem.W.takesIn K (.builtin "object.__class__") = some true) (u0_13 : PySem.W.mroIn K xC0 (.type "object") = some true) (u0_14 : PySem.W.kitOne K (.ref xC0) (.ref xD0) = some true)
    (z0 : PySem.W.nsIn K mainGlobals "list" = some none) (z1 : PySem.W.nsIn K mainGlobals "enumerate" = some none) (z2 : PySem.W.nsIn K mainGlobals "set" = some none) (z3 : PySem.W.nsIn K mainGlobals "sorted" = some none) (z4 : PySem.W.nsIn K mainGlobals "int" = some none) (z5 : PySem.W.nsIn K mainGlobals "range" = some none) (z6 : PySem.W.nsIn K mainGlobals "len" = some none) (z7 : PySem.W.nsIn K mainGlobals "isinstance" = some none) (z8 : PySem.W.nsIn K mainGlobals "tuple" = some none) (z9 : PySem.W.nsIn K mainGlobals "bool" = some none) (z10 : PySem.W.nsIn K mainGlobals "str" = some none) (z11 : PySem.W.nsIn K mainGlobals "ValueError" = some none) :
    ∃ fd : FuncData, (∀ (s : Shared) (v : Value), BindsTo s fd ⟨[v], []⟩ [("script", v)]) ∧ ∀ base : Heap, K.In base → base.Ns mainGlobals mg → FnOk l.prog w K mg base CX0 5 fa fd ["script"] (spLaw K) := by
  have e := hfa.symm.trans (PySem.W.mg_of X G a17)
  cases e
  have F0 := fun_mk (st := s_sources) l0 c0 k0
  have F1 := fun_mk (st := s_readers) l1 c1 k1
  have F2 := fun_mk (st := s_cone) l2 c2 k2
  have F3 := fun_mk (st := s_check_nets) l3 c3 k3
  have F4 := fun_mk (st := s_all_names) l4 c4 k4
  have F5 := fun_mk (st := s_gates_by_net) l5 c5 k5
  have F6 := fun_mk (st := s_law_pool) l6 c6 k6
  have F7 := fun_mk (st := s_law_spread) l7 c7 k7
  have F8 := fun_mk (st := s_law_draw) l8 c8 k8
  have F9 := fun_mk (st := s_law_same) l9 c9 k9
  have F10 := fun_mk (st := s_law_bits) l10 c10 k10
  have F11 := fun_mk (st := s_law_table) l11 c11 k11
  have F12 := fun_mk (st := s_law_register) l12 c12 k12
  have F13 := fun_mk (st := s_law_shuffled) l13 c13 k13
  have F14 := fun_mk (st := s_law_circuit) l14 c14 k14
  have F15 := fun_mk (st := s_law_unknown) l15 c15 k15
  have F16 := fun_mk (st := s_law_reached) l16 c16 k16
  have F17 := fun_mk (st := s_law) l17 c17 k17
  have A : All K mg := ⟨⟨f0, _, F0, PySem.W.mg_of X G a0, F0.binds (ps := ["circuit"]) fun _ _ _ _ _ _ us hl => match us, hl with | [_], _ => rfl⟩,
    ⟨f1, _, F1, PySem.W.mg_of X G a1, F1.binds (ps := ["circuit", "net"]) fun _ _ _ _ _ _ us hl => match us, hl with | [_, _], _ => rfl⟩,
    ⟨f2, _, F2, PySem.W.mg_of X G a2, F2.binds (ps := ["circuit", "names"]) fun _ _ _ _ _ _ us hl => match us, hl with | [_, _], _ => rfl⟩,
    ⟨f3, _, F3, PySem.W.mg_of X G a3, F3.binds (ps := ["circuit", "names"]) fun _ _ _ _ _ _ us hl => match us, hl with | [_, _], _ => rfl⟩,
    ⟨f4, _, F4, PySem.W.mg_of X G a4, F4.binds (ps := ["circuit"]) fun _ _ _ _ _ _ us hl => match us, hl with | [_], _ => rfl⟩,
    ⟨f5, _, F5, PySem.W.mg_of X G a5, F5.binds (ps := ["gates"]) fun _ _ _ _ _ _ us hl => match us, hl with | [_], _ => rfl⟩,
    ⟨f6, _, F6, PySem.W.mg_of X G a6, F6.binds (ps := ["script"]) fun _ _ _ _ _ _ us hl => match us, hl with | [_], _ => rfl⟩,
    ⟨f7, _, F7, PySem.W.mg_of X G a7, F7.binds (ps := ["cell"]) fun _ _ _ _ _ _ us hl => match us, hl with | [_], _ => rfl⟩,
    ⟨f8, _, F8, PySem.W.mg_of X G a8, F8.binds (ps := ["pool", "many"]) fun _ _ _ _ _ _ us hl => match us, hl with | [_, _], _ => rfl⟩,
    ⟨f9, _, F9, PySem.W.mg_of X G a9, F9.binds (ps := ["actual", "due"]) fun _ _ _ _ _ _ us hl => match us, hl with | [_, _], _ => rfl⟩,
    ⟨f10, _, F10, PySem.W.mg_of X G a10, F10.binds (ps := ["index", "many"]) fun _ _ _ _ _ _ us hl => match us, hl with | [_, _], _ => rfl⟩,
    ⟨f11, _, F11, PySem.W.mg_of X G a11, F11.binds (ps := ["pool", "many"]) fun _ _ _ _ _ _ us hl => match us, hl with | [_, _], _ => rfl⟩,
    ⟨f12, _, F12, PySem.W.mg_of X G a12, F12.binds (ps := ["pool", "name", "net"]) fun _ _ _ _ _ _ us hl => match us, hl with | [_, _, _], _ => rfl⟩,
    ⟨f13, _, F13, PySem.W.mg_of X G a13, F13.binds (ps := ["pool", "rows"]) fun _ _ _ _ _ _ us hl => match us, hl with | [_, _], _ => rfl⟩,
    ⟨f14, _, F14, PySem.W.mg_of X G a14, F14.binds (ps := ["pool", "most"]) fun _ _ _ _ _ _ us hl => match us, hl with | [_, _], _ => rfl⟩,
    ⟨f15, _, F15, PySem.W.mg_of X G a15, F15.binds (ps := ["circuit", "names"]) fun _ _ _ _ _ _ us hl => match us, hl with | [_, _], _ => rfl⟩,
    ⟨f16, _, F16, PySem.W.mg_of X G a16, F16.binds (ps := ["circuit", "names"]) fun _ _ _ _ _ _ us hl => match us, hl with | [_, _], _ => rfl⟩,
    PySem.W.mg_none_of X G z0,
    PySem.W.mg_none_of X G z1,
    PySem.W.mg_none_of X G z2,
    PySem.W.mg_none_of X G z3,
    PySem.W.mg_none_of X G z4,
    PySem.W.mg_none_of X G z5,
    PySem.W.mg_none_of X G z6,
    PySem.W.mg_none_of X G z7,
    PySem.W.mg_none_of X G z8,
    PySem.W.mg_none_of X G z9,
    PySem.W.mg_none_of X G z10,
    PySem.W.mg_none_of X G z11,
    ⟨xC0, xD0, ⟨⟨PySem.W.mg_of X G u0_0, u0_1, u0_2, u0_3, u0_4⟩, PySem.W.mg_of X G u0_5, u0_6, u0_7, ⟨u0_8, u0_9, u0_3, u0_6, u0_10, u0_11, u0_12, u0_13⟩, u0_14⟩⟩⟩
  exact ⟨_, fun s v => .of_eq rfl, fun base _ _ => glue A F17⟩
end G
open PySem PySem.W PyProof.Rows
set_option maxRecDepth 100000 in
set_option maxHeartbeats 0 in
theorem PySem.Challenge.cw_signoff_k22_readers_and_cones_holds : PySem.Challenge.rw_signoff_k22_readers_and_cones.Holds := by
  w_on; o_law; k_head; (case hw => w_witness2)
  k_fill
  refine L2.walk_of (l := PySem.Challenge.rw_signoff_k22_readers_and_cones) (n := 63) (k := 5) (x := "script") (CX := fun _ => L2.CX0) (sp := fun w => G.spLaw _) rfl (by decide) rfl ⟨rfl, by decide, by decide⟩ (fun w h Y => PySem.W.kIn_of Y) ?F (fun _ _ a ns hl _ hS => ⟨a, ns, rfl, hS, hl, fun _ => rfl⟩) (fun _ _ _ _ _ h => h)
  case F =>
    intro w mg fa h KX GN hmg
    refine' G.all_mk KX GN hmg ?a0 ?l0 ?c0 ?k0 ?a1 ?l1 ?c1 ?k1 ?a2 ?l2 ?c2 ?k2 ?a3 ?l3 ?c3 ?k3 ?a4 ?l4 ?c4 ?k4 ?a5 ?l5 ?c5 ?k5 ?a6 ?l6 ?c6 ?k6 ?a7 ?l7 ?c7 ?k7 ?a8 ?l8 ?c8 ?k8 ?a9 ?l9 ?c9 ?k9 ?a10 ?l10 ?c10 ?k10 ?a11 ?l11 ?c11 ?k11 ?a12 ?l12 ?c12 ?k12 ?a13 ?l13 ?c13 ?k13 ?a14 ?l14 ?c14 ?k14 ?a15 ?l15 ?c15 ?k15 ?a16 ?l16 ?c16 ?k16 ?a17 ?l17 ?c17 ?k17 ?xu0_0 ?xu0_1 ?xu0_2 ?xu0_3 ?xu0_4 ?xu0_5 ?xu0_6 ?xu0_7 ?xu0_8 ?xu0_9 ?xu0_10 ?xu0_11 ?xu0_12 ?xu0_13 ?xu0_14 ?z0 ?z1 ?z2 ?z3 ?z4 ?z5 ?z6 ?z7 ?z8 ?z9 ?z10 ?z11
    (case a0 => k_is)
    (case l0 => k_is)
    (case c0 => k_is)
    (case k0 => k_is)
    (case a1 => k_is)
    (case l1 => k_is)
    (case c1 => k_is)
    (case k1 => k_is)
    (case a2 => k_is)
    (case l2 => k_is)
    (case c2 => k_is)
    (case k2 => k_is)
    (case a3 => k_is)
    (case l3 => k_is)
    (case c3 => k_is)
    (case k3 => k_is)
    (case a4 => k_is)
    (case l4 => k_is)
    (case c4 => k_is)
    (case k4 => k_is)
    (case a5 => k_is)
    (case l5 => k_is)
    (case c5 => k_is)
    (case k5 => k_is)
    (case a6 => k_is)
    (case l6 => k_is)
    (case c6 => k_is)
    (case k6 => k_is)
    (case a7 => k_is)
    (case l7 => k_is)
    (case c7 => k_is)
    (case k7 => k_is)
    (case a8 => k_is)
    (case l8 => k_is)
    (case c8 => k_is)
    (case k8 => k_is)
    (case a9 => k_is)
    (case l9 => k_is)
    (case c9 => k_is)
    (case k9 => k_is)
    (case a10 => k_is)
    (case l10 => k_is)
    (case c10 => k_is)
    (case k10 => k_is)
    (case a11 => k_is)
    (case l11 => k_is)
    (case c11 => k_is)
    (case k11 => k_is)
    (case a12 => k_is)
    (case l12 => k_is)
    (case c12 => k_is)
    (case k12 => k_is)
    (case a13 => k_is)
    (case l13 => k_is)
    (case c13 => k_is)
    (case k13 => k_is)
    (case a14 => k_is)
    (case l14 => k_is)
    (case c14 => k_is)
    (case k14 => k_is)
    (case a15 => k_is)
    (case l15 => k_is)
    (case c15 => k_is)
    (case k15 => k_is)
    (case a16 => k_is)
    (case l16 => k_is)
    (case c16 => k_is)
    (case k16 => k_is)
    (case a17 => k_is)
    (case l17 => k_is)
    (case c17 => k_is)
    (case k17 => k_is)
    (case xu0_0 => first | k_exc | k_is | rfl)
    (case xu0_1 => first | k_exc | k_is | rfl)
    (case xu0_2 => first | k_exc | k_is | rfl)
    (case xu0_3 => first | k_exc | k_is | rfl)
    (case xu0_4 => first | k_exc | k_is | rfl)
    (case xu0_5 => first | k_exc | k_is | rfl)
    (case xu0_6 => first | k_exc | k_is | rfl)
    (case xu0_7 => first | k_exc | k_is | rfl)
    (case xu0_8 => first | k_exc | k_is | rfl)
    (case xu0_9 => first | k_exc | k_is | rfl)
    (case xu0_10 => first | k_exc | k_is | rfl)
    (case xu0_11 => first | k_exc | k_is | rfl)
    (case xu0_12 => first | k_exc | k_is | rfl)
    (case xu0_13 => first | k_exc | k_is | rfl)
    (case xu0_14 => first | k_exc | k_is | rfl)
    (case z0 => k_is)
    (case z1 => k_is)
    (case z2 => k_is)
    (case z3 => k_is)
    (case z4 => k_is)
    (case z5 => k_is)
    (case z6 => k_is)
    (case z7 => k_is)
    (case z8 => k_is)
    (case z9 => k_is)
    (case z10 => k_is)
    (case z11 => k_is)
#print axioms PySem.Challenge.cw_signoff_k22_readers_and_cones_holds
