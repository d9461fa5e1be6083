import PyProof.Rows.All
import Wide.All
import OpenK.AllK
import Wide.FinOn
import HandS.Base
import HandS.Call
import HandS.List
import HandS.Comp
import HandS.Ends
import HandS.Iter
import HandS.Words
import HandS.ForMost
import HandS.IsInst
import HandS.Zip
import HandS.TupAny
import HandS.Codes
import KE.KTupSum
import HandS.TupSets
import HandS.Conv
import HandS.Style
import HandS.TupMul
import PyProof.ReprRoads
import PyProof.ReprBulk
import HandS.Sort
import HandS.SortInts
import HandS.SetFor
import KE.GoesMore
import PyProof.EnumMake
import HandS.Strs
import HandS.SortOrd
import HandS.NamedTupSort
import KE.DataMinMax
import HandS.Wide
import KE.DataFind
import PyProof.SumAnyB
import HandS.TupLe
import PySem.Challenge.RW_rootparts_k27_standings_and_moves
set_option Elab.async false
set_option linter.all false
set_option maxRecDepth 100000
set_option maxHeartbeats 4000000
namespace My
open PySem PySem.Spec PyProof.Rows L2

/-! ### a def of the text, ready to be called -/
structure Own (P : Program) (w : World) (K : PySem.W.Frag) (mg : Str → Option Value) (base : Heap) (x : Str) (k : Nat) (ps : List Str) (sp : Sp) : Prop where
  ex : ∃ (f : Addr) (fd : FuncData), FnOk P w K mg base CX0 k f fd ps sp ∧ mg x = some (.ref f) ∧ PySem.W.keepIn K (.ref f) = true ∧ Binds K fd ps []
theorem pe_own {X : Cx} {x : Str} {k : Nat} {ps : List Str} {sp : Sp} {p pos : Pos} {e : Expr} {es : List Expr} {t : TA} (D : Own X.prog X.w X.K X.mg X.base x k ps sp) (hr : Room k X.A) (hg : Gl X x) (ha : PA X (e :: es) t)
    (hdb : (x == ("__debug__" : Str)) = false := by decide) (he : starEach (e :: es) X.env = (false, eval e X.env) :: starEach es X.env := by rfl) (hpl : (backTo pos (starEach es X.env)).any (·.1) = false := by rfl) :
    PE X (.Call (.Name x p) (e :: es) [] pos) (tCall sp [] E0 t) := by
  obtain ⟨f, fd, F, m, kp, b⟩ := D.ex
  exact pe_call F hr hg m kp b .nil pass0 ha hdb he hpl
theorem Own.imp {P : Program} {w : World} {K : PySem.W.Frag} {mg : Str → Option Value} {base : Heap} {x : Str} {j k : Nat} {ps : List Str} {sp sp' : Sp} (D : Own P w K mg base x j ps sp) (h : j ≤ k)
    (hi : ∀ vs H Q E, sp' vs H Q E → sp vs H Q E) : Own P w K mg base x k ps sp' := by
  obtain ⟨f, fd, F, m, kp, b⟩ := D.ex
  exact ⟨f, fd, (F.mono h).imp hi, m, kp, b⟩
/-- where a def of the text stands -/
structure At (K : PySem.W.Frag) (mg : Str → Option Value) (x : Str) (st : Stmt) (ps : List Str) : Prop where
  ex : ∃ (f : Addr) (fd : FuncData), Fun K x x st f fd ∧ mg x = some (.ref f) ∧ Binds K fd ps []
theorem At.own {P : Program} {w : World} {K : PySem.W.Frag} {mg : Str → Option Value} {base : Heap} {x : Str} {st : Stmt} {ps : List Str} {k : Nat} {sp : Sp} (D : At K mg x st ps)
    (h : ∀ f fd, Fun K x x st f fd → FnOk P w K mg base CX0 k f fd ps sp) : Own P w K mg base x k ps sp := by
  obtain ⟨f, fd, F, m, b⟩ := D.ex
  exact ⟨f, fd, h f fd F, m, F.kp, b⟩

/-! ### the built-ins that no name of the text hides -/
structure Bn (mg : Str → Option Value) : Prop where
  len : mg "len" = none
  int_ : mg "int" = none
  list_ : mg "list" = none
  tuple_ : mg "tuple" = none
  bool_ : mg "bool" = none
  str_ : mg "str" = none
  range : mg "range" = none
  enumerate : mg "enumerate" = none
  zip : mg "zip" = none
  isinstance : mg "isinstance" = none
  sum : mg "sum" = none
  all : mg "all" = none
  min : mg "min" = none
  max : mg "max" = none
  repr : mg "repr" = none
  sorted : mg "sorted" = none
  set : mg "set" = none

/-! ### a heap without one address -/
def wo (p : Addr) (H : Hp) : Hp := fun b => if b = p then none else H b
theorem wo_ne {p b : Addr} {H : Hp} (h : b ≠ p) : wo p H b = H b := by unfold wo; rw [if_neg h]
theorem wo_some {p b : Addr} {H : Hp} {o : HO} (h : wo p H b = some o) : b ≠ p ∧ H b = some o := by
  unfold wo at h
  by_cases e : b = p
  · rw [if_pos e] at h; cases h
  · rw [if_neg e] at h; exact ⟨e, h⟩
theorem wo_le {p : Addr} {H : Hp} : Same (wo p H) H := fun b o h => (wo_some h).2
theorem Same.wo {p : Addr} {H H' : Hp} (s : Same H H') : Same (wo p H) (wo p H') := fun b o h => by
  obtain ⟨n, e⟩ := wo_some h
  rw [wo_ne n]
  exact s _ _ e
theorem Same.new {H : Hp} {p : Addr} {o : HO} (h : H p = none) : Same H (upd H p o) := fun b x e => by
  rw [upd_ne (ne_of_none e h)]
  exact e
theorem Same.sqt {K : PySem.W.Frag} {H H' : Hp} {a : Addr} {xs : List V} (e : Same H H') (h : SqT K H a xs) : SqT K H' a xs := by
  rcases h with (h | ⟨o, h⟩) | h
  · exact .inl (.inl (e _ _ h))
  · exact .inl (.inr ⟨o, e _ _ h⟩)
  · exact .inr h
/-- the object at p is changed -/
theorem Same.put {p : Addr} {H : Hp} {o : HO} : Same (My.wo p H) (My.wo p (upd H p o)) := fun b x h => by
  obtain ⟨n, e⟩ := wo_some h
  rw [wo_ne n, upd_ne n]
  exact e

/-! ### the pen -/
def Pen (H : Hp) (p c : Addr) (n : Nat) : Prop := ∃ (cs : List Int) (k left : Int), H p = some (.lst [.ref c, .int k, .int left]) ∧ H c = some (.lst (cs.map V.int)) ∧ cs.length ≤ 12 ∧ 0 ≤ k ∧ k ≤ n ∧ 0 ≤ left
section
variable {H H' : Hp} {p c q : Addr} {n m : Nat}
theorem Pen.same (s : Same H H') (h : Pen H p c n) : Pen H' p c n := by
  obtain ⟨cs, k, left, h1, h2, h3⟩ := h
  exact ⟨cs, k, left, s _ _ h1, s _ _ h2, h3⟩
theorem Pen.mono (h : Pen H p c n) (l : n ≤ m) : Pen H p c m := by
  obtain ⟨cs, k, left, h1, h2, h3, h4, h5, h6⟩ := h
  exact ⟨cs, k, left, h1, h2, h3, h4, by omega, h6⟩
theorem Pen.at (h : Pen H p c n) : ∃ o, H p = some o := by
  obtain ⟨cs, k, l, e, _⟩ := h
  exact ⟨_, e⟩
theorem Pen.ne (h : Pen H p c n) (hq : H q = none) : q ≠ p ∧ q ≠ c := by
  obtain ⟨cs, k, l, e, e2, _⟩ := h
  exact ⟨(ne_of_none e hq).symm, (ne_of_none e2 hq).symm⟩
/-- the pen stays where another object is changed -/
theorem Pen.upd {o : HO} (h : Pen H p c n) (hq : q ≠ p ∧ q ≠ c) : Pen (L2.upd H q o) p c n := by
  obtain ⟨cs, k, l, h1, h2, h3⟩ := h
  exact ⟨cs, k, l, (upd_ne hq.1.symm).trans h1, (upd_ne hq.2.symm).trans h2, h3⟩
end
theorem mul_bd {a b A B : Int} (h1 : 0 ≤ a) (h2 : a ≤ A) (h3 : 0 ≤ b) (h4 : b ≤ B) : 0 ≤ a * b ∧ a * b ≤ A * B :=
  ⟨Int.mul_nonneg h1 h3, Int.mul_le_mul h2 h4 h3 (Int.le_trans h1 h2)⟩
theorem small {n : Nat} (h : n ≤ 100000) : n ≤ sizeLine := Nat.le_trans h (by decide)
theorem smallT {n : Nat} (h : n ≤ 100000) : n < sizeLine := Nat.lt_of_le_of_lt h (by decide)
theorem dT {p : Prop} [Decidable p] (h : decide p = true) : p := of_decide_eq_true h
theorem dF {p : Prop} [Decidable p] (h : ¬ decide p = true) : ¬ p := fun q => h (decide_eq_true q)

theorem at_get {xs : List V} {i : Int} (h0 : 0 ≤ i) (h1 : i < xs.length) : ∃ v, xs[i.toNat]? = some v ∧ atI xs i = some v := by
  refine ⟨xs[i.toNat]'(by omega), List.getElem?_eq_getElem (by omega), ?_⟩
  have e : ((i.toNat : Nat) : Int) = i := by omega
  have h := atI_nat (xs := xs) (j := i.toNat) (List.getElem?_eq_getElem (by omega))
  rw [e] at h
  exact h
theorem at_int {cs : List Int} {i : Int} (h0 : 0 ≤ i) (h1 : i < cs.length) : ∃ z, cs[i.toNat]? = some z ∧ atI (cs.map V.int) i = some (.int z) := by
  obtain ⟨v, e, h⟩ := at_get (xs := cs.map V.int) h0 (by rw [List.length_map]; exact h1)
  rw [List.getElem?_map] at e
  cases q : cs[i.toNat]? with
  | none => rw [q] at e; cases e
  | some z =>
    rw [q] at e
    cases e
    exact ⟨z, rfl, h⟩

/-! ### promises of the law's own helpers -/
def spOpen (K : PySem.W.Frag) : Sp := fun vs H Q _ => ∃ (a : Addr) (ns : List Int), vs = [.ref a] ∧ SqL K H a (ns.map V.int) ∧ ns.length ≤ 63 ∧
  ∀ H' p c, Same H H' → H p = none → Pen H' p c 0 → Q (.ref p) H'
def spSpread : Sp := fun vs H Q _ => ∃ (cell k : Int), vs = [.int cell, .int k] ∧ 0 ≤ k ∧ k ≤ 1000000 ∧ ∀ H' r, Same H H' → 0 ≤ r → Q (.int r) H'
def spTake : Sp := fun vs H Q _ => ∃ (p c : Addr) (m : Int) (n : Nat), vs = [.ref p, .int m] ∧ Pen H p c n ∧ n ≤ 1000000 ∧ 1 ≤ m ∧ m ≤ 1000000 ∧
  ∀ r H', 0 ≤ r → r < m → Pen H' p c (n + 1) → Same (wo p H) (wo p H') → Q (.int r) H'
/-- the thirteen primes -/
def primes : List Int := [2147483629, 2147483587, 2147483579, 2147483563, 2147483549, 2147483543, 2147483497, 2147483489, 2147483477, 2147483423, 2147483399, 2147483353, 2147483323]
theorem prime_at {i : Int} (h0 : 0 ≤ i) (h1 : i < 13) : ∃ q : Int, atI (primes.map V.int) i = some (.int q) ∧ 0 < q ∧ q < 2147483648 := by
  have c : i = 0 ∨ i = 1 ∨ i = 2 ∨ i = 3 ∨ i = 4 ∨ i = 5 ∨ i = 6 ∨ i = 7 ∨ i = 8 ∨ i = 9 ∨ i = 10 ∨ i = 11 ∨ i = 12 := by omega
  rcases c with e | e | e | e | e | e | e | e | e | e | e | e | e <;> subst e <;> exact ⟨_, rfl, by decide, by decide⟩

/-! ### loops over enumerate, by a word -/
theorem for_enumL {K : PySem.W.Frag} {a : Addr} {xs : List V} {g : TG} {tb : TS} {D : Ends} {σ : L2.St} {H : Hp} (Pv : Nat → L2.St → Hp → Prop) (h0 : Pv 0 σ H) (hq : ∀ i σ H, i ≤ xs.length → Pv i σ H → SqL K H a xs)
    (hs : ∀ (i : Nat) (x : V) (T : Addr) (σ : L2.St) (H : Hp), xs[i]? = some x → Pv i σ H → H T = none → g (.ref T) σ (upd H T (.tup [.int (i : Nat), x])) fun σ2 H2 => tb { D with nx := Pv (i + 1), ct := Pv (i + 1), bk := D.nx } σ2 H2) (hd : ∀ σ H, Pv xs.length σ H → D.nx σ H) :
    ∃ W : Nat → Nat → L2.St → Hp → Prop, (∃ m, W 0 m σ H) ∧ ∀ i m σ H, W i m σ H →
      ((Ite K a).stop i H ∧ D.nx σ H) ∨ ((Ite K a).go i H ∧ ∃ N : L2.St → Hp → Prop, (∀ σ' H', N σ' H' → ∃ m', m' < m ∧ W (i + 1) m' σ' H') ∧ ∀ v H', (Ite K a).yld i H v H' → g v σ H' fun σ2 H2 => tb { D with nx := N, ct := N, bk := D.nx } σ2 H2) := by
  refine ⟨fun i m σ H => m = xs.length - i ∧ i ≤ xs.length ∧ Pv i σ H, ⟨xs.length, rfl, Nat.zero_le _, h0⟩, ?_⟩
  rintro i m σ H ⟨rfl, hi, p⟩
  have qx := hq i σ H hi p
  by_cases hlt : i < xs.length
  · have hx : xs[i]? = some xs[i] := List.getElem?_eq_getElem hlt
    refine .inr ⟨⟨xs, _, qx, hx⟩, Pv (i + 1), fun σ' H' p' => ⟨xs.length - (i + 1), by omega, rfl, hlt, p'⟩, fun v H' y => ?_⟩
    obtain ⟨T, x', rfl, hT, rfl, f1⟩ := y
    exact hs i x' T σ H (f1 xs qx) p hT
  · have e : i = xs.length := by omega
    subst e
    exact .inl ⟨⟨xs, qx, Nat.le_refl _⟩, hd σ H p⟩
/-- an item changed by place -/
theorem set_mapI {cs : List Int} {j : Nat} {z : Int} : (cs.map V.int).set j (.int z) = (cs.set j z).map V.int := by
  rw [List.map_set]

/-! ### sum of a tuple -/
def rSumT (K : PySem.W.Frag) : List V → Hp → VK → Prop := fun vs H Q => ∃ (a : Addr) (ns : List Int), vs = [V.ref a] ∧ SqT K H a (ns.map V.int) ∧ Q (.int ns.sum) H
theorem cr_sumT {X : Cx} (hc : X.calm = true) : CallR X (.builtin "sum") (rSumT X.K) := by
  intro pins s σ H vs us Q I r h
  obtain ⟨a, ns, rfl, hs, q⟩ := h
  obtain ⟨its, rv, hl, _⟩ := I.tuple hs
  rw [Vals.ref1 r]
  obtain ⟨xs, e⟩ := rv.ints.allInts.items
  have hn : numsOf (intItems xs).toList = ns := by rw [← e]; exact rv.ints.numsOf
  rw [nums_intItems] at hn
  have hl2 : s.heap.IsTuple a its.toArray := hl
  rw [e] at hl2
  refine PySem.W.ktm_sumG (I.ok.hd hc) hl2 fun h' tk t' hk => ?_
  rw [preSum_eq, List.take_of_length_le (by simp), hn]
  exact ⟨.int _, H, I.kept hk, ⟨_, rfl⟩, q⟩
end My

set_option Elab.async false
set_option linter.all false
set_option maxRecDepth 100000
set_option maxHeartbeats 4000000
namespace My
open PySem PySem.Spec PyProof.Rows L2

/-! ### comprehensions over zip and enumerate, by a word -/
theorem lc_zipL {K : PySem.W.Frag} {a b : Addr} {xs ys : List V} {g : TG} {tt : TT} {te : TE} {vs : List Nat} {σ : L2.St} {H1 : Hp} {D : Addr} {Qd : Hp → Prop} (hl : xs.length = ys.length) (Pv : Nat → Hp → Prop) (h0 : Pv 0 (upd H1 D (.lst [])))
    (hq : ∀ i H, Pv i H → SqL K H a xs ∧ SqL K H b ys)
    (hs : ∀ (i : Nat) (x y : V) (T : Addr) (H : Hp), xs[i]? = some x → ys[i]? = some y → Pv i H → H T = none → g (.ref T) (wipe σ vs) (upd H T (.tup [x, y])) fun σ2 H2 => wipe σ2 vs = wipe σ vs ∧ tt σ2 H2 fun b H3 =>
      if b = true then te σ2 H3 fun z H4 => ∃ acc, H4 D = some (.lst acc) ∧ acc.length < sizeLine ∧ Pv (i + 1) (upd H4 D (.lst (acc ++ [z]))) else Pv (i + 1) H3) (hd : ∀ H, Pv xs.length H → Qd H) :
    ∃ W : Nat → Nat → Hp → Prop, (∃ m, W 0 m (upd H1 D (.lst []))) ∧ ∀ i m H, W i m H →
      ((Itz K a b).stop i H ∧ Qd H) ∨ ((Itz K a b).go i H ∧ ∃ Nx : Hp → Prop, (∀ H', Nx H' → ∃ m', m' < m ∧ W (i + 1) m' H') ∧ ∀ x H', (Itz K a b).yld i H x H' → g x (wipe σ vs) H' fun σ2 H2 => wipe σ2 vs = wipe σ vs ∧ tt σ2 H2 fun b H3 =>
        if b = true then te σ2 H3 fun y H4 => ∃ acc, H4 D = some (.lst acc) ∧ acc.length < sizeLine ∧ Nx (upd H4 D (.lst (acc ++ [y]))) else Nx H3) := by
  refine ⟨fun i m H => m = xs.length - i ∧ i ≤ xs.length ∧ Pv i H, ⟨xs.length, rfl, Nat.zero_le _, h0⟩, ?_⟩
  rintro i m H ⟨rfl, hi, p⟩
  obtain ⟨qx, qy⟩ := hq i H p
  by_cases hlt : i < xs.length
  · have hx : xs[i]? = some xs[i] := List.getElem?_eq_getElem hlt
    have hlt2 : i < ys.length := by omega
    have hy : ys[i]? = some ys[i] := List.getElem?_eq_getElem hlt2
    refine .inr ⟨⟨xs, ys, _, _, qx, qy, hx, hy⟩, Pv (i + 1), fun H' p' => ⟨xs.length - (i + 1), by omega, rfl, hlt, p'⟩, fun v H' y => ?_⟩
    obtain ⟨T, x', y', rfl, hT, rfl, f1, f2⟩ := y
    exact hs i x' y' T H (f1 xs qx) (f2 ys qy) p hT
  · have e : i = xs.length := by omega
    subst e
    exact .inl ⟨⟨xs, ys, qx, qy, Or.inl (Nat.le_refl _)⟩, hd H p⟩
theorem lc_zipT {K : PySem.W.Frag} {a b : Addr} {xs ys : List V} {g : TG} {tt : TT} {te : TE} {vs : List Nat} {σ : L2.St} {H1 : Hp} {D : Addr} {Qd : Hp → Prop} (n : Nat) (hl : n = min xs.length ys.length) (Pv : Nat → Hp → Prop) (h0 : Pv 0 (upd H1 D (.lst [])))
    (hq : ∀ i H, Pv i H → SqT K H a xs ∧ SqT K H b ys)
    (hs : ∀ (i : Nat) (x y : V) (T : Addr) (H : Hp), xs[i]? = some x → ys[i]? = some y → Pv i H → H T = none → g (.ref T) (wipe σ vs) (upd H T (.tup [x, y])) fun σ2 H2 => wipe σ2 vs = wipe σ vs ∧ tt σ2 H2 fun b H3 =>
      if b = true then te σ2 H3 fun z H4 => ∃ acc, H4 D = some (.lst acc) ∧ acc.length < sizeLine ∧ Pv (i + 1) (upd H4 D (.lst (acc ++ [z]))) else Pv (i + 1) H3) (hd : ∀ H, Pv n H → Qd H) :
    ∃ W : Nat → Nat → Hp → Prop, (∃ m, W 0 m (upd H1 D (.lst []))) ∧ ∀ i m H, W i m H →
      ((RZ.ItzT K a b).stop i H ∧ Qd H) ∨ ((RZ.ItzT K a b).go i H ∧ ∃ Nx : Hp → Prop, (∀ H', Nx H' → ∃ m', m' < m ∧ W (i + 1) m' H') ∧ ∀ x H', (RZ.ItzT K a b).yld i H x H' → g x (wipe σ vs) H' fun σ2 H2 => wipe σ2 vs = wipe σ vs ∧ tt σ2 H2 fun b H3 =>
        if b = true then te σ2 H3 fun y H4 => ∃ acc, H4 D = some (.lst acc) ∧ acc.length < sizeLine ∧ Nx (upd H4 D (.lst (acc ++ [y]))) else Nx H3) := by
  refine ⟨fun i m H => m = n - i ∧ i ≤ n ∧ Pv i H, ⟨n, rfl, Nat.zero_le _, h0⟩, ?_⟩
  rintro i m H ⟨rfl, hi, p⟩
  obtain ⟨qx, qy⟩ := hq i H p
  by_cases hlt : i < n
  · have hlt1 : i < xs.length := by omega
    have hx : xs[i]? = some xs[i] := List.getElem?_eq_getElem hlt1
    have hlt2 : i < ys.length := by omega
    have hy : ys[i]? = some ys[i] := List.getElem?_eq_getElem hlt2
    refine .inr ⟨⟨xs, ys, _, _, qx, qy, hx, hy⟩, Pv (i + 1), fun H' p' => ⟨n - (i + 1), by omega, rfl, hlt, p'⟩, fun v H' y => ?_⟩
    obtain ⟨T, x', y', rfl, hT, rfl, f1, f2⟩ := y
    exact hs i x' y' T H (f1 xs qx) (f2 ys qy) p hT
  · have e : i = n := by omega
    subst e
    exact .inl ⟨⟨xs, ys, qx, qy, by omega⟩, hd H p⟩

/-! ### kinds -/
inductive Kd where
  | non | bl | int | str | lst | tup | dct
  deriving DecidableEq
def Kd.nm : Kd → String
  | .non => "NoneType" | .bl => "bool" | .int => "int" | .str => "str" | .lst => "list" | .tup => "tuple" | .dct => "dict"
/-- is a value of kind a an instance of the class of kind b -/
def Kd.is : Kd → Kd → Bool
  | .bl, .int => true
  | .non, .non => true | .bl, .bl => true | .int, .int => true | .str, .str => true | .lst, .lst => true | .tup, .tup => true | .dct, .dct => true
  | _, _ => false
def kd : PyData → Kd
  | .none => .non | .bool _ => .bl | .int _ => .int | .str _ => .str | .list _ => .lst | .tuple _ => .tup | .dict _ => .dct
section
variable {K : PySem.W.Frag} {H H' : Hp} {v : V}
abbrev Knd (K : PySem.W.Frag) (H : Hp) (v : V) (k : Kd) : Prop := TyX K H v (.type k.nm)
theorem kNon : Knd K H .non .non := .base .non
theorem kBl (b : Bool) : Knd K H (.bl b) .bl := .base (.bl b)
theorem kInt (i : Int) : Knd K H (.int i) .int := .base (.int i)
theorem kStr (x : Str) : Knd K H (.str x) .str := .base (.str x)
theorem kit_k (k c : Kd) : PySem.W.kitOne K (.type k.nm) (.type c.nm) = some (k.is c) := by
  cases k <;> cases c <;> exact kit_ty (by decide +kernel)
theorem isi_k {k : Kd} (c : Kd) {Q : VK} (h : Knd K H v k) (q : Q (.bl (k.is c)) H) : rIsi K [v, .ty c.nm] H Q :=
  ⟨v, .ty c.nm, .type k.nm, .type c.nm, k.is c, rfl, .ty _, h, kit_k k c, q⟩
theorem isi_k2 {k : Kd} (c d : Kd) {tp : Addr} {Q : VK} (ht : H tp = some (.tup [.ty c.nm, .ty d.nm])) (h : Knd K H v k) (q : Q (.bl (k.is c || k.is d)) H) : rIsiT K [v, .ref tp] H Q := by
  refine ⟨v, tp, _, .type k.nm, [.type c.nm, .type d.nm], k.is c || k.is d, rfl, ht, .cons (.ty _) (.cons (.ty _) .nil), h, ?_, q⟩
  refine kitAny_cons (kit_k k c) (fun e => ?_) (fun e => by rw [e]; rfl)
  rw [e]
  refine kitAny_cons (kit_k k d) (fun e => ?_) (fun e => by rw [e]; rfl)
  rw [e]
  rfl
theorem isiV {k : Kd} (c : Kd) {σ : L2.St} {i : Nat} {Q : VK} (hv : σ[i]? = some (some v)) (h : Knd K H v k) (q : Q (.bl (k.is c)) H) : tCB (rIsi K) (tCons (tVar i) (tCons (tC (.ty c.nm)) tNil)) σ H Q :=
  ⟨v, hv, isi_k c h q⟩
theorem sql_knd {a : Addr} {xs : List V} (h : SqL K H a xs) : Knd K H (.ref a) .lst := by
  rcases h with (h | ⟨o, h⟩) | ⟨o, its, n, hk, hc, _⟩
  · exact .base (.lst h)
  · exact .base (.frz h)
  · exact .kList hk hc
theorem sqt_knd {a : Addr} {xs : List V} (h : SqT K H a xs) : Knd K H (.ref a) .tup := by
  rcases h with (h | ⟨o, h⟩) | ⟨o, its, n, hk, hc, _⟩
  · exact .base (.tup h)
  · exact .fTuple h
  · exact .kTuple hk hc
theorem Dp.knd {d : PyData} (h : Dp K H v d) : Knd K H v (kd d) := by
  cases h with
  | non => exact .base .non
  | bl b => exact .base (.bl b)
  | int i => exact .base (.int i)
  | str x => exact .base (.str x)
  | lst h _ => exact sql_knd h
  | tup h _ => exact sqt_knd h
theorem tyx_same {t : Value} (s : Same H H') (h : TyX K H v t) : TyX K H' v t := by
  cases h with
  | base b =>
    cases b with
    | non => exact .base .non
    | bl b => exact .base (.bl b)
    | int i => exact .base (.int i)
    | str x => exact .base (.str x)
    | flt x => exact .base (.flt x)
    | lst e => exact .base (.lst (s _ _ e))
    | frz e => exact .base (.frz (s _ _ e))
    | tup e => exact .base (.tup (s _ _ e))
    | dK e => exact .base (.dK (s _ _ e))
    | dT e => exact .base (.dT (s _ _ e))
    | ins e c1 c2 c3 c4 c5 => exact .base (.ins (s _ _ e) c1 c2 c3 c4 c5)
  | byt b => exact .byt b
  | set e => exact .set (s _ _ e)
  | kList e c => exact .kList e c
  | kTuple e c => exact .kTuple e c
  | kDict e c => exact .kDict e c
  | fTuple e => exact .fTuple (s _ _ e)
  | fDict e => exact .fDict (s _ _ e)
theorem isiV2 {k : Kd} (c d : Kd) {σ : L2.St} {i : Nat} {Q : VK} (hv : σ[i]? = some (some v)) (h : Knd K H v k) (q : ∀ H', Same H H' → Q (.bl (k.is c || k.is d)) H') :
    tCB (rIsiT K) (tCons (tVar i) (tCons (tTup (tCons (tC (.ty c.nm)) (tCons (tC (.ty d.nm)) tNil))) tNil)) σ H Q :=
  ⟨v, hv, by show 2 ≤ sizeLine; decide, fun t n => isi_k2 c d upd_same (tyx_same (Same.new n) h) (q _ (Same.new n))⟩
mutual
theorem Dp.same (s : Same H H') : ∀ {d : PyData} {v : V}, Dp K H v d → Dp K H' v d
  | _, _, .non => .non
  | _, _, .bl b => .bl b
  | _, _, .int i => .int i
  | _, _, .str x => .str x
  | _, _, .lst h a => .lst (s.seq h) (DpAll.same s a)
  | _, _, .tup h a => .tup (My.Same.sqt s h) (DpAll.same s a)
theorem DpAll.same (s : Same H H') : ∀ {ds : List PyData} {vs : List V}, DpAll K H vs ds → DpAll K H' vs ds
  | _, _, .nil => .nil
  | _, _, .cons h t => .cons (Dp.same s h) (DpAll.same s t)
end
theorem DpAll.len : ∀ {ds : List PyData} {vs : List V}, DpAll K H vs ds → vs.length = ds.length
  | _, _, .nil => rfl
  | _, _, .cons _ t => congrArg (· + 1) (DpAll.len t)
theorem DpAll.get : ∀ {ds : List PyData} {vs : List V} {i : Nat} {v : V}, DpAll K H vs ds → vs[i]? = some v → ∃ d, ds[i]? = some d ∧ Dp K H v d
  | _, _, i, v, .nil, e => by simp at e
  | d :: ds, _, 0, v, .cons h t, e => by
    simp at e
    subst e
    exact ⟨d, rfl, h⟩
  | _ :: ds, _, i + 1, v, .cons h t, e => by
    obtain ⟨d, e1, e2⟩ := DpAll.get (i := i) t (by simpa using e)
    exact ⟨d, by simpa using e1, e2⟩
theorem DpAll.mk : ∀ {ds : List PyData} {vs : List V}, vs.length = ds.length → (∀ (i : Nat) (v : V) (d : PyData), vs[i]? = some v → ds[i]? = some d → Dp K H v d) → DpAll K H vs ds
  | [], [], _, _ => DpAll.nil
  | d :: ds, v :: vs, l, h => .cons (h 0 v d rfl rfl) (DpAll.mk (by simpa using l) fun i v d e1 e2 => h (i + 1) v d (by simpa using e1) (by simpa using e2))
  | [], _ :: _, l, _ => by simp at l
  | _ :: _, [], l, _ => by simp at l
theorem DpAll.ints (ns : List Int) : DpAll K H (ns.map V.int) (ns.map PyData.int) := by
  induction ns with
  | nil => exact .nil
  | cons n ns ih => exact .cons (.int n) ih
end
/-- data of fewer than n levels, no dicts -/
def Fit : Nat → PyData → Prop
  | 0, _ => False
  | n + 1, d => match d with
    | .list ds => ds.length ≤ 100000 ∧ ∀ e ∈ ds, Fit n e
    | .tuple ds => ds.length ≤ 100000 ∧ ∀ e ∈ ds, Fit n e
    | .dict _ => False
    | _ => True
theorem Fit.mono : ∀ {n m : Nat} {d : PyData}, Fit n d → n ≤ m → Fit m d
  | 0, _, _, h, _ => h.elim
  | n + 1, 0, _, _, l => by omega
  | n + 1, m + 1, d, h, l => by
    cases d with
    | list ds => exact ⟨h.1, fun e he => (h.2 e he).mono (by omega)⟩
    | tuple ds => exact ⟨h.1, fun e he => (h.2 e he).mono (by omega)⟩
    | dict _ => exact h.elim
    | _ => trivial
/-- _law_same of equal data -/
def spSame (K : PySem.W.Frag) (n : Nat) : Sp := fun vs H Q _ => ∃ (x y : V) (d : PyData), vs = [x, y] ∧ Dp K H x d ∧ Dp K H y d ∧ Fit n d ∧ ∀ H', Same H H' → Q (.bl true) H'
theorem iteTT {A B : Prop} {c : Bool} (e : c = true) (h : A) : if c = true then A else B := by rw [if_pos e]; exact h
theorem iteFF {A B : Prop} {c : Bool} (e : c = false) (h : B) : if c = true then A else B := by
  rw [e]
  exact iteF h
theorem notIn_all (n : Nat) : ∀ bs : List V, (∀ b ∈ bs, b = V.bl true) → inV (.bl false) bs = false ∧ bs.all flatV = true
  | [], _ => ⟨rfl, rfl⟩
  | b :: r, h => by
    obtain ⟨e1, e2⟩ := notIn_all n r fun c hc => h c (List.mem_cons_of_mem _ hc)
    have e := h b List.mem_cons_self
    subst e
    unfold inV at e1 ⊢
    rw [List.any_cons, e1, List.all_cons, e2]
    exact ⟨rfl, rfl⟩
/-! ### the rules with the written part named: within a comprehension's block too -/
section
variable {X : Cx} (K : PySem.W.Frag)
def rLenQ (K : PySem.W.Frag) : List V → Hp → VK → Prop := fun xs H Q => ∃ p ys, xs = [.ref p] ∧ (SqL K H p ys ∨ SqT K H p ys) ∧ Q (.int ys.length) H
def rListOf (K : PySem.W.Frag) : List V → Hp → VK → Prop := fun xs H Q => ∃ p ys, xs = [.ref p] ∧ (SqL K H p ys ∨ SqT K H p ys) ∧ ∀ l, H l = none → Q (.ref l) (upd H l (.lst ys))
def rTupleOf (K : PySem.W.Frag) : List V → Hp → VK → Prop := fun xs H Q => ∃ p ys, xs = [.ref p] ∧ ((SqL K H p ys ∧ ∀ l, H l = none → Q (.ref l) (upd H l (.tup ys))) ∨ (SqT K H p ys ∧ Q (.ref p) H))
theorem ixL (h : X.K = K := by rfl) : IxR X (rIxL K) := by subst h; exact ix_list
theorem ixT (h : X.K = K := by rfl) : IxR X (rIxT K) := by subst h; exact ix_tup
theorem slL (h : X.K = K := by rfl) : SlR X (rSlL K) := by subst h; exact sl_list
theorem slT (h : X.K = K := by rfl) : SlR X (rSlA K) := by subst h; exact sl_tupA
theorem catA (h : X.K = K := by rfl) : OpR X (binaryOp .Add) (rCatA K) := by subst h; exact op_catA
theorem eqD (hu : X.A.units + 64 < cLine) (h : X.K = K := by rfl) : OpR X (compareOp .Eq) (rEqD K) := by subst h; exact op_eqD hu
theorem neD (hu : X.A.units + 64 < cLine) (h : X.K = K := by rfl) : OpR X (compareOp .NotEq) (rNeD K) := by subst h; exact op_neD hu
theorem ltT (hu : X.A.units < cLine) (h : X.K = K := by rfl) : OpR X (compareOp .Lt) (rLtT K) := by subst h; exact op_ltT hu
theorem inQ (h : X.K = K := by rfl) : OpR X (compareOp .In) (rIn K false) := by subst h; exact op_in_seq
theorem notInQ (h : X.K = K := by rfl) : OpR X (compareOp .NotIn) (rIn K true) := by subst h; exact op_notIn_seq
theorem lenQ (h : X.K = K := by rfl) : CallR X (.builtin "len") (rLenQ K) := by subst h; exact call_len_seq
theorem listOf (h : X.K = K := by rfl) : CallR X (.type "list") (rListOf K) := by subst h; exact call_list_of
theorem tupleOf (h : X.K = K := by rfl) : CallR X (.type "tuple") (rTupleOf K) := by subst h; exact call_tuple_of
theorem isi (h : X.K = K := by rfl) : CallR X (.builtin "isinstance") (rIsi K) := by subst h; exact call_isi
theorem isiT (h : X.K = K := by rfl) : CallR X (.builtin "isinstance") (rIsiT K) := by subst h; exact call_isiT
theorem sumL (hc : X.calm = true) (h : X.K = K := by rfl) : CallR X (.builtin "sum") (rSum K) := by subst h; exact cr_sum hc
theorem sumT (hc : X.calm = true) (h : X.K = K := by rfl) : CallR X (.builtin "sum") (rSumT K) := by subst h; exact cr_sumT hc
theorem allL (hc : X.calm = true) (h : X.K = K := by rfl) : CallR X (.builtin "all") (rAll K) := by subst h; exact cr_all hc
theorem pi_listK {tg l : Expr} {tl : TE} (hl : PE X l tl) (h : X.K = K := by rfl) : PI X tg l (iList K tl) := by subst h; exact pi_list hl
theorem pi_tupK {tg l : Expr} {tl : TE} (hl : PE X l tl) (h : X.K = K := by rfl) : PI X tg l (iTup K tl) := by subst h; exact pi_tup hl
theorem pi_zipK {e e2 : Expr} {ta : TA} {p pos tpos : Pos} {elts : List Expr} {kk : Nat} (hg : Gl X "zip") (hm : X.mg "zip" = none) (ha : PA X [e, e2] ta) (h : X.K = K := by rfl)
    (hs : starEach [e, e2] X.env = (false, eval e X.env) :: starEach [e2] X.env := by rfl) (hpl : (backTo pos (starEach [e2] X.env)).any (·.1) = false := by rfl) :
    PI X (.Tuple elts kk tpos) (.Call (.Name "zip" p) [e, e2] [] pos) (RZ.iZipA K ta) := by subst h; exact RZ.pi_zipA hg hm ha hs hpl
theorem pi_enumK {e : Expr} {ta : TA} {p pos tpos : Pos} {elts : List Expr} {kk : Nat} (hg : Gl X "enumerate") (hm : X.mg "enumerate" = none) (ha : PA X [e] ta) (h : X.K = K := by rfl) (hs : starEach [e] X.env = [(false, eval e X.env)] := by rfl) :
    PI X (.Tuple elts kk tpos) (.Call (.Name "enumerate" p) [e] [] pos) (iEnum K ta) := by subst h; exact pi_enum hg hm ha hs
theorem pg_tupK (n : Nat) {es : List Expr} {k : Nat} {t : TGs} {pos : Pos} (hc : X.calm = true) (h : PGs X es t) (hK : X.K = K := by rfl)
    (hn : (assignEach es X.env).length = n := by rfl) (hst : (assignEach es X.env).findIdx? (·.1) = none := by rfl) : PG X (.Tuple es k pos) (gTup K n t) := by subst hK; exact pg_tup hc h hn hst
theorem pe_bmK {o e : Expr} {es : List Expr} {to : TE} {t : TA} {name : Str} {apos cpos : Pos} {T id : String} {r : V → List V → Hp → VK → Prop}
    (pa : PlainAttrs T) (slot : Slot T name id) (hty : typeOf (.builtin id) = pure (.type "method_descriptor")) (hm : MtR X id r) (ho : PE X o to) (ha : PA X (e :: es) t) (hK : X.K = K := by rfl)
    (hbase : attributeBase o name X.env (eval o X.env) = eval o X.env := by rfl)
    (hfew : ((backTo cpos (starEach (e :: es) X.env)).all (fun x => !x.1) && (backToKw cpos (keywordEach [] X.env)).all (fun x => x.1.isSome)
      && decide ((e :: es).length + ([] : List Keyword).length + (if ([] : List Keyword).isEmpty then 0 else 1) < 30)) = true := by rfl)
    (hline : (apos.endLine == cpos.line) = true := by rfl) (hs : starEach (e :: es) X.env = (false, eval e X.env) :: starEach es X.env := by rfl) (hplain : (backTo cpos (starEach es X.env)).any (·.1) = false := by rfl) :
    PE X (.Call (.Attribute o name apos) (e :: es) [] cpos) (tBM K T r to t) := by subst hK; exact pe_bm pa slot hty hm ho ha hbase hfew hline hs hplain
end
end My

set_option Elab.async false
set_option linter.all false
set_option maxRecDepth 100000
set_option maxHeartbeats 4000000
namespace My
open PySem PySem.Spec PyProof.Rows L2

/-! ### comprehensions with two clauses -/
theorem lc2_range {lo : Int} {n : Nat} {D : Addr} {H1 : Hp} {Qd : Hp → Prop} {T : (Hp → Prop) → V → Hp → Prop} (Pv : Nat → Hp → Prop) (h0 : Pv 0 (upd H1 D (.lst [])))
    (hs : ∀ i H, i < n → Pv i H → T (Pv (i + 1)) (.int (lo + i)) H) (hd : ∀ H, Pv n H → Qd H) :
    ∃ W : Nat → Nat → Hp → Prop, (∃ m, W 0 m (upd H1 D (.lst []))) ∧ ∀ i m H, W i m H →
      ((Itr lo n).stop i H ∧ Qd H) ∨ ((Itr lo n).go i H ∧ ∃ Nx : Hp → Prop, (∀ H', Nx H' → ∃ m', m' < m ∧ W (i + 1) m' H') ∧ ∀ x H', (Itr lo n).yld i H x H' → T Nx x H') := by
  refine ⟨fun i m H => m = n - i ∧ i ≤ n ∧ Pv i H, ⟨n, by simp, Nat.zero_le _, h0⟩, ?_⟩
  rintro i m H ⟨rfl, hi, p⟩
  by_cases hlt : i < n
  · refine .inr ⟨hlt, Pv (i + 1), fun H' p' => ⟨n - (i + 1), by omega, rfl, hlt, p'⟩, fun x H' y => ?_⟩
    obtain ⟨e, y⟩ := y
    subst e y
    exact hs i _ hlt p
  · have e : i = n := by omega
    subst e
    exact .inl ⟨Nat.le_refl _, hd H p⟩
theorem in_list {K : PySem.W.Frag} {a : Addr} {xs : List V} {H4 : Hp} {Qd : Hp → Prop} {T : (Hp → Prop) → V → Hp → Prop} (Pv : Nat → Hp → Prop) (h0 : Pv 0 H4) (hl : ∀ i H, i ≤ xs.length → Pv i H → SqL K H a xs)
    (hs : ∀ (i : Nat) (x : V) H, xs[i]? = some x → Pv i H → T (Pv (i + 1)) x H) (hd : ∀ H, Pv xs.length H → Qd H) :
    ∃ W : Nat → Nat → Hp → Prop, (∃ m, W 0 m H4) ∧ ∀ i m H, W i m H →
      ((Itl K a).stop i H ∧ Qd H) ∨ ((Itl K a).go i H ∧ ∃ Nx : Hp → Prop, (∀ H', Nx H' → ∃ m', m' < m ∧ W (i + 1) m' H') ∧ ∀ x H', (Itl K a).yld i H x H' → T Nx x H') := by
  refine ⟨fun i m H => m = xs.length - i ∧ i ≤ xs.length ∧ Pv i H, ⟨xs.length, by simp, Nat.zero_le _, h0⟩, ?_⟩
  rintro i m H ⟨rfl, hi, p⟩
  have q := hl i H hi p
  by_cases hlt : i < xs.length
  · refine .inr ⟨⟨xs, xs[i], q, by simp [hlt]⟩, Pv (i + 1), fun H' p' => ⟨xs.length - (i + 1), by omega, rfl, hlt, p'⟩, fun x H' y => ?_⟩
    obtain ⟨e, y⟩ := y
    subst e
    exact hs i x _ (y xs q) p
  · have e : i = xs.length := by omega
    subst e
    exact .inl ⟨⟨xs, q, Nat.le_refl _⟩, hd H p⟩
theorem in_range {lo : Int} {n : Nat} {H4 : Hp} {Qd : Hp → Prop} {T : (Hp → Prop) → V → Hp → Prop} (Pv : Nat → Hp → Prop) (h0 : Pv 0 H4)
    (hs : ∀ i H, i < n → Pv i H → T (Pv (i + 1)) (.int (lo + i)) H) (hd : ∀ H, Pv n H → Qd H) :
    ∃ W : Nat → Nat → Hp → Prop, (∃ m, W 0 m H4) ∧ ∀ i m H, W i m H →
      ((Itr lo n).stop i H ∧ Qd H) ∨ ((Itr lo n).go i H ∧ ∃ Nx : Hp → Prop, (∀ H', Nx H' → ∃ m', m' < m ∧ W (i + 1) m' H') ∧ ∀ x H', (Itr lo n).yld i H x H' → T Nx x H') := by
  refine ⟨fun i m H => m = n - i ∧ i ≤ n ∧ Pv i H, ⟨n, by simp, Nat.zero_le _, h0⟩, ?_⟩
  rintro i m H ⟨rfl, hi, p⟩
  by_cases hlt : i < n
  · refine .inr ⟨hlt, Pv (i + 1), fun H' p' => ⟨n - (i + 1), by omega, rfl, hlt, p'⟩, fun x H' y => ?_⟩
    obtain ⟨e, y⟩ := y
    subst e y
    exact hs i _ hlt p
  · have e : i = n := by omega
    subst e
    exact .inl ⟨Nat.le_refl _, hd H p⟩

/-! ### data -/
section
variable {K : PySem.W.Frag} {H H' : Hp}
theorem DpAll.append : ∀ {ds es : List PyData} {vs us : List V}, DpAll K H vs ds → DpAll K H us es → DpAll K H (vs ++ us) (ds ++ es)
  | _, _, _, _, .nil, h => h
  | _, _, _, _, .cons h t, g => .cons h (DpAll.append t g)
theorem DpAll.snoc {ds : List PyData} {d : PyData} {vs : List V} {v : V} (h : DpAll K H vs ds) (g : Dp K H v d) : DpAll K H (vs ++ [v]) (ds ++ [d]) := DpAll.append h (.cons g .nil)
/-- an open place of a heap without D -/
theorem wo_none {D : Addr} {p : Addr} (h : H p = none) : wo D H p = none := by
  unfold wo
  by_cases e : p = D
  · rw [if_pos e]
  · rw [if_neg e]; exact h
theorem wo_new {D : Addr} {o : HO} (h : H D = none) : Same H (wo D (upd H D o)) := fun b x e => by
  have hb := ne_of_none e h
  rw [wo_ne hb, upd_ne hb]
  exact e
/-- a new tuple, seen without D -/
theorem tup_wo {D p : Addr} {xs : List V} {ds : List PyData} {o : HO} (hD : H D = some o) (hp : H p = none) (h : DpAll K (wo D H) xs ds) : Dp K (wo D (upd H p (.tup xs))) (.ref p) (.tuple ds) := by
  have hne : p ≠ D := (ne_of_none hD hp).symm
  refine .tup (SqT.of ((wo_ne hne).trans upd_same)) (DpAll.same ?_ h)
  exact Same.wo (Same.new hp)
theorem tup_new {p : Addr} {xs : List V} {ds : List PyData} (hp : H p = none) (h : DpAll K H xs ds) : Dp K (upd H p (.tup xs)) (.ref p) (.tuple ds) := .tup (SqT.of upd_same) (DpAll.same (Same.new hp) h)
theorem DpAll.int_vals : ∀ {ns : List Int} {vs : List V}, DpAll K H vs (ns.map PyData.int) → vs = ns.map V.int
  | [], _, .nil => rfl
  | n :: ns, _, .cons h t => by
    cases h
    rw [DpAll.int_vals t]
    rfl
/-- a tuple of ints as a datum -/
def tI (ns : List Int) : PyData := .tuple (ns.map PyData.int)
theorem Dp.tI {v : V} {ns : List Int} (h : Dp K H v (tI ns)) : ∃ a, v = .ref a ∧ SqT K H a (ns.map V.int) := by
  cases h with
  | tup q l =>
    rw [DpAll.int_vals l] at q
    exact ⟨_, rfl, q⟩
theorem Dp.ofTI {a : Addr} {ns : List Int} (h : SqT K H a (ns.map V.int)) : Dp K H (.ref a) (My.tI ns) := .tup h (DpAll.ints ns)
theorem sqt_wo {a D : Addr} {xs us : List V} (h : SqT K H a xs) (hD : H D = some (.lst us)) : SqT K (wo D H) a xs := by
  rcases h with (h | ⟨o, h⟩) | h
  · have hne : a ≠ D := ne_of h hD (by intro z; cases z)
    exact .inl (.inl ((wo_ne hne).trans h))
  · have hne : a ≠ D := ne_of h hD (by intro z; cases z)
    exact .inl (.inr ⟨o, (wo_ne hne).trans h⟩)
  · exact .inr h
theorem tI_wo {D : Addr} {us : List V} (hD : H D = some (.lst us)) : ∀ {L : List (List Int)} {vs : List V}, DpAll K H vs (L.map tI) → DpAll K (wo D H) vs (L.map tI)
  | [], _, .nil => .nil
  | s :: L, _, .cons h t => by
    obtain ⟨a, rfl, q⟩ := Dp.tI h
    exact .cons (Dp.ofTI (sqt_wo q hD)) (tI_wo hD t)
theorem Same.updD {D : Addr} {o : HO} (s : Same H H') (n : H D = none) : Same H (upd H' D o) := fun b x e => by
  rw [upd_ne (ne_of_none e n)]
  exact s _ _ e
theorem push {D : Addr} {us : List V} {y : V} {ds : List PyData} {d : PyData} (hus : DpAll K (wo D H) us ds) (hy : Dp K (wo D H) y d) :
    upd H D (.lst (us ++ [y])) D = some (.lst (us ++ [y])) ∧ DpAll K (wo D (upd H D (.lst (us ++ [y])))) (us ++ [y]) (ds ++ [d]) :=
  ⟨upd_same, DpAll.snoc (DpAll.same Same.put hus) (Dp.same Same.put hy)⟩
theorem DpAll.getD {ds : List PyData} {vs : List V} {i : Nat} {v : V} (h : DpAll K H vs ds) (e : vs[i]? = some v) : ∃ d, ds[i]? = some d ∧ Dp K H v d := DpAll.get h e
theorem tI_get {L : List (List Int)} {vs : List V} {i : Nat} {v : V} (h : DpAll K H vs (L.map tI)) (e : vs[i]? = some v) : ∃ s a, L[i]? = some s ∧ v = .ref a ∧ SqT K H a (s.map V.int) := by
  obtain ⟨d, e1, e2⟩ := DpAll.get h e
  rw [List.getElem?_map] at e1
  cases q : L[i]? with
  | none => rw [q] at e1; cases e1
  | some s =>
    rw [q] at e1
    cases e1
    obtain ⟨a, r, t⟩ := Dp.tI e2
    exact ⟨s, a, rfl, r, t⟩
end

section
variable {X : Cx} (K : PySem.W.Frag) (P : Program) (w : World)
theorem setOfT (hc : X.calm = true) (hu : X.A.units + 64 < cLine) (h : X.K = K := by rfl) (hP : X.prog = P := by rfl) (hw : X.w = w := by rfl) : CallR X (.type "set") (rSetOfT K P w) := by subst h hP hw; exact cr_setOfT hc hu
theorem sortedT (hc : X.calm = true) (h : X.K = K := by rfl) (hP : X.prog = P := by rfl) (hw : X.w = w := by rfl) : CallR X (.builtin "sorted") (rSortedT K P w) := by subst h hP hw; exact cr_sortedT hc
theorem repT (h : X.K = K := by rfl) : OpR X (binaryOp .Mult) (rRepT K) := by subst h; exact op_repT
/-- a walk over a list or a tuple -/
def iSeq (K : PySem.W.Frag) (tl : TE) : TI := fun σ H R => iList K tl σ H R ∨ iTup K tl σ H R
theorem pi_seqK {tg l : Expr} {tl : TE} (hl : PE X l tl) (h : X.K = K := by rfl) : PI X tg l (iSeq K tl) := by
  subst h
  refine ⟨fun pins s σ H R I q => ?_⟩
  rcases q with q | q
  · exact (pi_list hl).run pins s σ H R I q
  · exact (pi_tup hl).run pins s σ H R I q
end
section
variable {K : PySem.W.Frag} {H H' : Hp}
theorem wo_upd {p q : Addr} {o : HO} (h : q ≠ p) : wo p (upd H q o) = upd (wo p H) q o := by
  funext b
  by_cases e : b = p
  · have hb : b ≠ q := fun z => h (z.symm.trans e)
    rw [upd_ne hb]
    show (if b = p then none else _) = (if b = p then none else _)
    rw [if_pos e, if_pos e]
  · rw [wo_ne e]
    by_cases e2 : b = q
    · subst e2
      rw [upd_same, upd_same]
    · rw [upd_ne e2, upd_ne e2, wo_ne e]
end

theorem map_erase {α β : Type} (f : α → β) : ∀ (l : List α) (i : Nat), (l.map f).eraseIdx i = (l.eraseIdx i).map f
  | [], _ => rfl
  | _ :: _, 0 => rfl
  | a :: l, i + 1 => congrArg (f a :: ·) (map_erase f l i)
theorem erase_perm {α : Type} : ∀ {l : List α} {i : Nat} {z : α}, l[i]? = some z → (z :: l.eraseIdx i).Perm l
  | [], _, _, h => by simp at h
  | a :: l, 0, z, h => by
    have e : a = z := Option.some.inj h
    subst e
    exact .refl _
  | a :: l, i + 1, z, h => (List.Perm.swap a z _).trans ((erase_perm (l := l) (i := i) h).cons a)

/-! ### promises of the draws -/
/-- 0, 1, .. k - 1 -/
def ups (k : Nat) : List Int := (List.range k).map fun (i : Nat) => (i : Int)
theorem ups_len (k : Nat) : (ups k).length = k := by unfold ups; rw [List.length_map, List.length_range]
theorem mem_ups {k : Nat} {x : Int} : x ∈ ups k ↔ 0 ≤ x ∧ x < k := by
  unfold ups
  rw [List.mem_map]
  constructor
  · rintro ⟨i, hi, rfl⟩
    have := List.mem_range.mp hi
    omega
  · rintro ⟨h0, h1⟩
    exact ⟨x.toNat, List.mem_range.mpr (by omega), by omega⟩
def spOneOf (K : PySem.W.Frag) : Sp := fun vs H Q _ => ∃ (p c : Addr) (n : Nat) (l : Addr) (xs : List V), vs = [.ref p, .ref l] ∧ Pen H p c n ∧ n ≤ 1000000 ∧ SqL K (wo p H) l xs ∧ 1 ≤ xs.length ∧ xs.length ≤ 100000 ∧
  ∀ (j : Nat) x H', xs[j]? = some x → Pen H' p c (n + 1) → Same (wo p H) (wo p H') → Q x H'
def spOrder (K : PySem.W.Frag) : Sp := fun vs H Q _ => ∃ (p c : Addr) (n k : Nat), vs = [.ref p, .int k] ∧ Pen H p c n ∧ n ≤ 900000 ∧ k ≤ 1000 ∧
  ∀ (q : Addr) (o : List Int) H', o.Perm (ups k) → Pen H' p c (n + k) → Same (wo p H) (wo p H') → wo p H q = none → SqT K (wo p H') q (o.map V.int) → Q (.ref q) H'

/-! ### webs -/
def prI (t : Int × Int) : List Int := [t.1, t.2]
def webD (n : Int) (T : List (Int × Int)) : PyData := .tuple [.int n, .tuple (T.map fun t => tI (prI t))]
def ltP (s t : Int × Int) : Prop := s.1 < t.1 ∨ (s.1 = t.1 ∧ s.2 < t.2)
def lowP (t : Int × Int) : Int × Int := (if t.2 < t.1 then t.2 else t.1, if t.2 > t.1 then t.2 else t.1)
/-- T: the pairs ps of two different places, each once, ascending, the lesser place first -/
def Canon (ps T : List (Int × Int)) : Prop := T.Pairwise ltP ∧ ∀ t, t ∈ T ↔ ∃ s ∈ ps, s.1 ≠ s.2 ∧ t = lowP s
def spWeb (K : PySem.W.Frag) : Sp := fun vs H Q _ => ∃ (n : Int) (l : Addr) (us : List V) (ps : List (Int × Int)), vs = [.int n, .ref l] ∧ (SqL K H l us ∨ SqT K H l us) ∧ DpAll K H us ((ps.map prI).map tI) ∧ ps.length < 64 ∧
  (∀ s ∈ ps, (0 ≤ s.1 ∧ s.1 < 64) ∧ 0 ≤ s.2 ∧ s.2 < 64) ∧ ∀ (q : Addr) T H', Canon ps T → Same H H' → H q = none → Dp K H' (.ref q) (webD n T) → Q (.ref q) H'
section
variable {K : PySem.W.Frag} {H H' : Hp}
theorem ks_of : ∀ {L : List (List Int)} {vs : List V}, DpAll K H vs (L.map tI) → ∃ ks : List (Addr × List Int), vs = ks.map (fun p => V.ref p.1) ∧ ks.map (·.2) = L ∧ ∀ p ∈ ks, SqT K H p.1 (p.2.map V.int)
  | [], _, .nil => ⟨[], rfl, rfl, fun _ h => nomatch h⟩
  | s :: L, _, .cons h t => by
    obtain ⟨a, rfl, q⟩ := Dp.tI h
    obtain ⟨ks, rfl, rfl, hk⟩ := ks_of t
    refine ⟨(a, s) :: ks, rfl, rfl, fun p hp => ?_⟩
    rcases List.mem_cons.mp hp with rfl | hp
    · exact q
    · exact hk p hp
theorem ks_to : ∀ {ks : List (Addr × List Int)}, (∀ p ∈ ks, SqT K H p.1 (p.2.map V.int)) → DpAll K H (ks.map fun p => V.ref p.1) ((ks.map (·.2)).map tI)
  | [], _ => .nil
  | p :: ks, h => .cons (Dp.ofTI (h p List.mem_cons_self)) (ks_to fun q hq => h q (List.mem_cons_of_mem _ hq))
/-- what sorted(set(..)) of pairs leaves -/
theorem canon_of {ps : List (Int × Int)} {ks L L' : List (Addr × List Int)} (hk : ks.map (·.2) = ((ps.filter fun s => !decide (s.1 = s.2)).map lowP).map prI) (hb : ∀ s ∈ ps, (0 ≤ s.1 ∧ s.1 < 64) ∧ 0 ≤ s.2 ∧ s.2 < 64)
    (h1 : ∀ p ∈ L, p ∈ ks) (h2 : ∀ p ∈ ks, p.2 ∈ L.map (·.2)) (pm : L'.Perm L) (nd : (L'.map (·.2)).Nodup) (pw : L'.Pairwise fun q r => TS.code 64 q.2 ≤ TS.code 64 r.2) :
    ∃ T, L'.map (·.2) = T.map prI ∧ Canon ps T := by
  have hform : ∀ q ∈ L', ∃ s ∈ ps, s.1 ≠ s.2 ∧ q.2 = prI (lowP s) := fun q hq => by
    have hm : q.2 ∈ ks.map (·.2) := List.mem_map.mpr ⟨q, h1 q (pm.mem_iff.mp hq), rfl⟩
    rw [hk] at hm
    obtain ⟨t, ht, e⟩ := List.mem_map.mp hm
    obtain ⟨s, hs, rfl⟩ := List.mem_map.mp ht
    obtain ⟨h3, h4⟩ := List.mem_filter.mp hs
    refine ⟨s, h3, fun z => ?_, e.symm⟩
    rw [decide_eq_true z] at h4
    cases h4
  let tp : List Int → Int × Int := fun l => (l.getD 0 0, l.getD 1 0)
  have hrt : ∀ t, tp (prI t) = t := fun t => rfl
  refine ⟨L'.map fun q => tp q.2, ?_, ?_, fun t => ?_⟩
  · rw [List.map_map]
    refine List.map_congr_left fun q hq => ?_
    obtain ⟨s, _, _, e⟩ := hform q hq
    show q.2 = prI (tp q.2)
    rw [e, hrt]
  · rw [List.pairwise_map]
    have pw2 := (pw.and (List.pairwise_map.mp nd))
    refine List.Pairwise.imp_of_mem (fun {q r} hq hr h => ?_) pw2
    obtain ⟨s, hs, _, e⟩ := hform q hq
    obtain ⟨s', hs', _, e'⟩ := hform r hr
    have b := hb s hs
    have b' := hb s' hs'
    have c1 : (0 ≤ (lowP s).1 ∧ (lowP s).1 < 64) ∧ 0 ≤ (lowP s).2 ∧ (lowP s).2 < 64 := by
      unfold lowP
      dsimp only
      constructor <;> split <;> omega
    have c2 : (0 ≤ (lowP s').1 ∧ (lowP s').1 < 64) ∧ 0 ≤ (lowP s').2 ∧ (lowP s').2 < 64 := by
      unfold lowP
      dsimp only
      constructor <;> split <;> omega
    rw [e, e'] at h ⊢
    rw [hrt, hrt]
    exact pair_lt h.1 h.2 c1.1 c1.2 c2.1 c2.2
  · rw [List.mem_map]
    constructor
    · rintro ⟨q, hq, rfl⟩
      obtain ⟨s, hs, hne, e⟩ := hform q hq
      exact ⟨s, hs, hne, by rw [e, hrt]⟩
    · rintro ⟨s, hs, hne, rfl⟩
      have hm : prI (lowP s) ∈ ks.map (·.2) := by
        rw [hk]
        exact List.mem_map.mpr ⟨_, List.mem_map.mpr ⟨s, List.mem_filter.mpr ⟨hs, by rw [decide_eq_false hne]; rfl⟩, rfl⟩, rfl⟩
      obtain ⟨p, hp, e⟩ := List.mem_map.mp hm
      obtain ⟨q, hq, e2⟩ := List.mem_map.mp (h2 p hp)
      exact ⟨q, pm.mem_iff.mpr hq, by rw [e2, e, hrt]⟩
end
theorem in_tup {K : PySem.W.Frag} {a : Addr} {xs : List V} {H4 : Hp} {Qd : Hp → Prop} {T : (Hp → Prop) → V → Hp → Prop} (Pv : Nat → Hp → Prop) (h0 : Pv 0 H4) (hl : ∀ i H, i ≤ xs.length → Pv i H → SqT K H a xs)
    (hs : ∀ (i : Nat) (x : V) H, xs[i]? = some x → Pv i H → T (Pv (i + 1)) x H) (hd : ∀ H, Pv xs.length H → Qd H) :
    ∃ W : Nat → Nat → Hp → Prop, (∃ m, W 0 m H4) ∧ ∀ i m H, W i m H →
      ((Itt K a).stop i H ∧ Qd H) ∨ ((Itt K a).go i H ∧ ∃ Nx : Hp → Prop, (∀ H', Nx H' → ∃ m', m' < m ∧ W (i + 1) m' H') ∧ ∀ x H', (Itt K a).yld i H x H' → T Nx x H') := by
  refine ⟨fun i m H => m = xs.length - i ∧ i ≤ xs.length ∧ Pv i H, ⟨xs.length, by simp, Nat.zero_le _, h0⟩, ?_⟩
  rintro i m H ⟨rfl, hi, p⟩
  have q := hl i H hi p
  by_cases hlt : i < xs.length
  · refine .inr ⟨⟨xs, xs[i], q, by simp [hlt]⟩, Pv (i + 1), fun H' p' => ⟨xs.length - (i + 1), by omega, rfl, hlt, p'⟩, fun x H' y => ?_⟩
    obtain ⟨e, y⟩ := y
    subst e
    exact hs i x _ (y xs q) p
  · have e : i = xs.length := by omega
    subst e
    exact .inl ⟨⟨xs, q, Nat.le_refl _⟩, hd H p⟩
/-- either walk -/
theorem in_seq {K : PySem.W.Frag} {l : Addr} {us : List V} {tl : TE} {σ : L2.St} {H : Hp} {T : Addr → (Hp → Prop) → V → Hp → Prop} {Qd : Addr → Hp → Prop} {H4 : Hp → Addr → Hp}
    (ht : ∀ R : V → Hp → Prop, R (.ref l) H → tl σ H R) (hq : SqL K H l us ∨ SqT K H l us) (Pv : Addr → Nat → Hp → Prop)
    (hsm : ∀ D i H', H D = none → Pv D i H' → Same H H') (h0 : ∀ D, H D = none → Pv D 0 (H4 H D))
    (hs : ∀ D (i : Nat) (x : V) H', H D = none → us[i]? = some x → Pv D i H' → T D (Pv D (i + 1)) x H') (hd : ∀ D H', H D = none → Pv D us.length H' → Qd D H') :
    iSeq K tl σ H fun J H1 => ∀ D, H1 D = none → ∃ W : Nat → Nat → Hp → Prop, (∃ m, W 0 m (H4 H1 D)) ∧ ∀ i m H, W i m H →
      (J.stop i H ∧ Qd D H) ∨ (J.go i H ∧ ∃ Nx : Hp → Prop, (∀ H', Nx H' → ∃ m', m' < m ∧ W (i + 1) m' H') ∧ ∀ x H', J.yld i H x H' → T D Nx x H') := by
  rcases hq with hq | hq
  · refine .inl (ht _ ⟨l, rfl, ⟨us, hq⟩, fun D hD => ?_⟩)
    exact in_list (xs := us) (T := T D) (Pv D) (h0 D hD) (fun i H' _ h => (hsm D i H' hD h).seq hq) (fun i x H' e h => hs D i x H' hD e h) fun H' h => hd D H' hD h
  · refine .inr (ht _ ⟨l, rfl, ⟨us, hq⟩, fun D hD => ?_⟩)
    exact in_tup (xs := us) (T := T D) (Pv D) (h0 D hD) (fun i H' _ h => Same.sqt (hsm D i H' hD h) hq) (fun i x H' e h => hs D i x H' hD e h) fun H' h => hd D H' hD h

/-! ### drawn webs -/
def WebOk (k : Nat) (T : List (Int × Int)) : Prop := T.Pairwise ltP ∧ ∀ t ∈ T, 0 ≤ t.1 ∧ t.1 < t.2 ∧ t.2 < k
theorem Canon.web {ps T : List (Int × Int)} {k : Nat} (h : Canon ps T) (hb : ∀ s ∈ ps, (0 ≤ s.1 ∧ s.1 < k) ∧ 0 ≤ s.2 ∧ s.2 < k) : WebOk k T := by
  refine ⟨h.1, fun t ht => ?_⟩
  obtain ⟨s, hs, hne, rfl⟩ := (h.2 t).mp ht
  have b := hb s hs
  unfold lowP
  dsimp only
  split <;> split <;> omega
def spDrawWeb (K : PySem.W.Frag) : Sp := fun vs H Q _ => ∃ (p c : Addr) (n lo hi : Nat), vs = [.ref p, .int lo, .int hi] ∧ Pen H p c n ∧ n ≤ 800000 ∧ 1 ≤ lo ∧ lo ≤ hi ∧ hi ≤ 12 ∧
  ∀ (q : Addr) (k : Nat) T H', lo ≤ k → k ≤ hi → WebOk k T → Pen H' p c (n + 200) → Same (wo p H) (wo p H') → wo p H q = none → Dp K (wo p H') (.ref q) (webD k T) → Q (.ref q) H'
section
variable {K : PySem.W.Frag} {H H' : Hp}
theorem web_wo {v : V} {n : Int} {T : List (Int × Int)} {p : Addr} {us : List V} (h : Dp K H v (webD n T)) (hp : H p = some (.lst us)) : Dp K (wo p H) v (webD n T) := by
  cases h with
  | tup q l =>
    cases l with
    | cons h1 l =>
      cases l with
      | cons h2 l =>
        cases l
        cases h1
        cases h2 with
        | tup q2 l2 =>
          refine .tup (sqt_wo q hp) (.cons (.int n) (.cons (.tup (sqt_wo q2 hp) ?_) .nil))
          have e : (T.map fun t => tI (prI t)) = (T.map prI).map tI := by rw [List.map_map]; rfl
          rw [e] at l2 ⊢
          exact tI_wo hp l2
theorem Pen.lst {p c : Addr} {n : Nat} (h : Pen H p c n) : ∃ us, H p = some (.lst us) := by
  obtain ⟨cs, k, l, e, _⟩ := h
  exact ⟨_, e⟩
theorem tYes_then {σ : L2.St} {A B : Hp → Prop} (h : A H) : tYes σ H (fun b H3 => if b = true then A H3 else B H3) := by
  show (if true = true then A H else B H)
  rw [if_pos rfl]
  exact h
/-- two draws in a new tuple -/
theorem two_takes {σ : L2.St} {Q : VK} {p c : Addr} {n k i : Nat} (h0 : σ[0]? = some (some (.ref p))) (h3 : σ[i]? = some (some (.int k))) (pen : Pen H p c n) (hn : n + 2 ≤ 1000000) (k0 : 1 ≤ k) (k1 : k ≤ 1000)
    (q : ∀ (t : Addr) (s : Int × Int) H', (0 ≤ s.1 ∧ s.1 < k) ∧ 0 ≤ s.2 ∧ s.2 < k → Pen H' p c (n + 2) → Same (wo p H) (wo p H') → wo p H t = none → SqT K (wo p H') t ((prI s).map V.int) → Q (.ref t) H') :
    tTup (tCons (tCall spTake [] E0 (tCons (tVar 0) (tCons (tVar i) tNil))) (tCons (tCall spTake [] E0 (tCons (tVar 0) (tCons (tVar i) tNil))) tNil)) σ H Q := by
  refine ⟨_, h0, _, h3, p, c, _, n, rfl, pen, by omega, by omega, by omega, fun r1 H1 r10 r11 pen1 s1 => ?_⟩
  refine ⟨_, h0, _, h3, p, c, _, n + 1, rfl, pen1, by omega, by omega, by omega, fun r2 H2 r20 r21 pen2 s2 => ?_⟩
  refine ⟨by show 2 ≤ sizeLine; decide, fun t ht => ?_⟩
  have nt := Pen.ne pen2 ht
  refine q t (r1, r2) _ ⟨⟨r10, r11⟩, r20, r21⟩ (Pen.upd pen2 nt) (s1.trans (s2.trans (Same.wo (Same.new ht)))) ((s1.trans s2).free (wo_none ht)) ?_
  exact SqT.of ((wo_ne nt.1).trans upd_same)
/-- [(draw, draw) for k in range(m)] -/
theorem draw_pairs {σ : L2.St} {D p c : Addr} {n k m a i : Nat} {Qd : Hp → Prop} (hD : H D = none) (h0 : ∀ v, ((wipe σ [a]).set a (some v))[0]? = some (some (.ref p))) (h3 : ∀ v, ((wipe σ [a]).set a (some v))[i]? = some (some (.int k)))
    (hw : ∀ v, wipe ((wipe σ [a]).set a (some v)) [a] = wipe σ [a]) (pen : Pen H p c n) (hn : n + 2 * m ≤ 900000) (hm : m ≤ 1000) (k0 : 1 ≤ k) (k1 : k ≤ 1000)
    (hq : ∀ H' us (ps : List (Int × Int)), Pen H' p c (n + 2 * m) → Same (wo p H) (wo p H') → H' D = some (.lst us) → ps.length = m → (∀ s ∈ ps, (0 ≤ s.1 ∧ s.1 < k) ∧ 0 ≤ s.2 ∧ s.2 < k) → DpAll K (wo D (wo p H')) us ((ps.map prI).map tI) → Qd H') :
    ∃ W : Nat → Nat → Hp → Prop, (∃ m, W 0 m (upd H D (.lst []))) ∧ ∀ j l H, W j l H →
      ((Itr 0 m).stop j H ∧ Qd H) ∨ ((Itr 0 m).go j H ∧ ∃ Nx : Hp → Prop, (∀ H', Nx H' → ∃ m', m' < l ∧ W (j + 1) m' H') ∧ ∀ x H', (Itr 0 m).yld j H x H' → gName a x (wipe σ [a]) H' fun σ2 H2 => wipe σ2 [a] = wipe σ [a] ∧ tYes σ2 H2 fun b H3 =>
        if b = true then tTup (tCons (tCall spTake [] E0 (tCons (tVar 0) (tCons (tVar i) tNil))) (tCons (tCall spTake [] E0 (tCons (tVar 0) (tCons (tVar i) tNil))) tNil)) σ2 H3 fun y H4 => ∃ acc, H4 D = some (.lst acc) ∧ acc.length < sizeLine ∧ Nx (upd H4 D (.lst (acc ++ [y]))) else Nx H3) := by
  have nD := Pen.ne pen hD
  refine lc_range (fun j H3 => Pen H3 p c (n + 2 * j) ∧ Same (wo p H) (wo p H3) ∧ ∃ (us : List V) (ps : List (Int × Int)), H3 D = some (.lst us) ∧ ps.length = j ∧ (∀ s ∈ ps, (0 ≤ s.1 ∧ s.1 < k) ∧ 0 ≤ s.2 ∧ s.2 < k) ∧ DpAll K (wo D (wo p H3)) us ((ps.map prI).map tI)) ?_ ?_ ?_
  · exact ⟨Pen.upd pen nD, Same.wo (Same.new hD), [], [], upd_same, rfl, (fun _ h => nomatch h), .nil⟩
  · rintro j H3 hj ⟨pen3, s3, us, ps, eD, lps, hps, hus⟩
    refine ⟨hw _, ?_⟩
    refine tYes_then (A := fun H3 => tTup _ _ H3 _) ?_
    refine two_takes (K := K) (h0 _) (h3 _) pen3 (by omega) k0 k1 fun t s H4 hs pen4 s4 nt qt => ?_
    have eD' : wo p H3 D = some (.lst us) := (wo_ne nD.1).trans eD
    have eD4 := (wo_some (s4 _ _ eD')).2
    have htD : t ≠ D := (ne_of_none eD' nt).symm
    obtain ⟨g1, g2⟩ := push (DpAll.same (Same.wo s4) hus) (Dp.ofTI (sqt_wo qt ((wo_ne nD.1).trans eD4)))
    refine ⟨us, eD4, ?_, Pen.upd pen4 nD, ?_, us ++ [.ref t], ps ++ [s], upd_same, ?_, ?_, ?_⟩
    · rw [DpAll.len hus, List.length_map, List.length_map]
      exact smallT (by omega)
    · rw [wo_upd nD.1]
      exact Same.updD (s3.trans s4) (wo_none hD)
    · rw [List.length_append, lps]
      rfl
    · intro z hz
      rcases List.mem_append.mp hz with hz | hz
      · exact hps z hz
      · rw [List.mem_singleton.mp hz]
        exact hs
    · rw [wo_upd nD.1, List.map_append, List.map_append]
      exact g2
  · rintro H3 ⟨pen3, s3, us, ps, eD, lps, hps, hus⟩
    exact hq H3 us ps pen3 s3 eD lps hps hus
end
end My

set_option Elab.async false
set_option linter.all false
set_option maxRecDepth 100000
set_option maxHeartbeats 4000000
namespace My
open PySem PySem.Spec PyProof.Rows L2
/-! ### lists of pairs of places -/
section
variable {K : PySem.W.Frag} {H H' H3 Hb : Hp} {k j i : Nat} {D t l l2 : Addr}
/-- at l a list of j pairs of places below k -/
def PL (K : PySem.W.Frag) (k : Nat) (H : Hp) (l : Addr) (j : Nat) : Prop := ∃ (us : List V) (ps : List (Int × Int)), H l = some (.lst us) ∧ ps.length = j ∧ (∀ s ∈ ps, (0 ≤ s.1 ∧ s.1 < k) ∧ 0 ≤ s.2 ∧ s.2 < k) ∧ DpAll K H us ((ps.map prI).map tI)
/-- at D such a list grows -/
def PairsAt (K : PySem.W.Frag) (k : Nat) (Hb : Hp) (D : Addr) (j : Nat) (H : Hp) : Prop := Same Hb H ∧ ∃ (us : List V) (ps : List (Int × Int)), H D = some (.lst us) ∧ ps.length = j ∧ (∀ s ∈ ps, (0 ≤ s.1 ∧ s.1 < k) ∧ 0 ≤ s.2 ∧ s.2 < k) ∧ DpAll K (wo D H) us ((ps.map prI).map tI)
theorem PL.same (s : Same H H') (h : PL K k H l j) : PL K k H' l j := by
  obtain ⟨us, ps, e, h1, h2, h3⟩ := h
  exact ⟨us, ps, s _ _ e, h1, h2, DpAll.same s h3⟩
theorem PairsAt.start (hD : Hb D = none) : PairsAt K k Hb D 0 (upd Hb D (.lst [])) := ⟨Same.new hD, [], [], upd_same, rfl, (fun _ h => nomatch h), .nil⟩
theorem PairsAt.pl (h : PairsAt K k Hb D j H) : PL K k H D j := by
  obtain ⟨_, us, ps, e, h1, h2, h3⟩ := h
  exact ⟨us, ps, e, h1, h2, DpAll.same wo_le h3⟩
theorem PairsAt.push (h : PairsAt K k Hb D j H3) (hD : Hb D = none) (ht : H3 t = none) {x y : Int} (hx : 0 ≤ x ∧ x < k) (hy : 0 ≤ y ∧ y < k) (hj : j ≤ 1000) :
    ∃ acc, upd H3 t (.tup [.int x, .int y]) D = some (.lst acc) ∧ acc.length < sizeLine ∧ PairsAt K k Hb D (j + 1) (upd (upd H3 t (.tup [.int x, .int y])) D (.lst (acc ++ [.ref t]))) := by
  obtain ⟨s3, us, ps, eD, h1, h2, hus⟩ := h
  have htD : t ≠ D := (ne_of_none eD ht).symm
  have sT := Same.new (o := HO.tup [V.int x, V.int y]) ht
  obtain ⟨g1, g2⟩ := My.push (DpAll.same (Same.wo sT) hus) (Dp.ofTI (K := K) (a := t) (ns := prI (x, y)) (SqT.of ((wo_ne htD).trans upd_same)))
  refine ⟨us, sT _ _ eD, ?_, Same.updD (s3.trans sT) hD, us ++ [.ref t], ps ++ [(x, y)], upd_same, ?_, ?_, ?_⟩
  · rw [DpAll.len hus, List.length_map, List.length_map]
    exact smallT (by omega)
  · rw [List.length_append, h1]
    rfl
  · intro z hz
    rcases List.mem_append.mp hz with hz | hz
    · exact h2 z hz
    · rw [List.mem_singleton.mp hz]
      exact ⟨hx, hy⟩
  · rw [List.map_append, List.map_append]
    exact g2
theorem PL.one {x y : Int} (ht : H t = none) (hl : upd H t (.tup [.int x, .int y]) l = none) (hx : 0 ≤ x ∧ x < k) (hy : 0 ≤ y ∧ y < k) : PL K k (upd (upd H t (.tup [.int x, .int y])) l (.lst [.ref t])) l 1 := by
  refine ⟨[.ref t], [(x, y)], upd_same, rfl, fun z hz => ?_, ?_⟩
  · rw [List.mem_singleton.mp hz]
    exact ⟨hx, hy⟩
  · exact .cons (Dp.same (Same.new hl) (Dp.ofTI (ns := prI (x, y)) (SqT.of upd_same))) .nil
/-- two lists put together -/
theorem PL.cat (h : PL K k H l j) (h2 : PL K k H l2 i) (hj : j + i ≤ 1000) : ∃ us vs, H l = some (.lst us) ∧ H l2 = some (.lst vs) ∧ us.length + vs.length ≤ sizeLine ∧ ∀ p, H p = none → PL K k (upd H p (.lst (us ++ vs))) p (j + i) := by
  obtain ⟨us, ps, e, a1, a2, a3⟩ := h
  obtain ⟨vs, qs, f, b1, b2, b3⟩ := h2
  refine ⟨us, vs, e, f, ?_, fun p hp => ⟨us ++ vs, ps ++ qs, upd_same, ?_, ?_, ?_⟩⟩
  · rw [DpAll.len a3, DpAll.len b3, List.length_map, List.length_map, List.length_map, List.length_map]
    exact small (by omega)
  · rw [List.length_append]
    omega
  · intro z hz
    rcases List.mem_append.mp hz with hz | hz
    · exact a2 z hz
    · exact b2 z hz
  · rw [List.map_append, List.map_append]
    exact DpAll.append (DpAll.same (Same.new hp) a3) (DpAll.same (Same.new hp) b3)
theorem in_two {x a b : Int} (h : inV (.int x) [.int a, .int b] = true) : x = a ∨ x = b := by
  have h2 : ((a == x) || ((b == x) || false)) = true := h
  simp at h2
  omega
theorem not_two {x a b : Int} (h : ¬ inV (.int x) [.int a, .int b] = true) : x ≠ a ∧ x ≠ b := by
  have h2 : ¬ ((a == x) || ((b == x) || false)) = true := h
  simp at h2
  omega
theorem dInt {x y : Int} (h : decide (V.int x = V.int y) = true) : x = y := V.int.inj (of_decide_eq_true h)
theorem dIntN {x y : Int} (h : ¬ decide (V.int x = V.int y) = true) : x ≠ y := fun z => h (decide_eq_true (congrArg V.int z))
theorem cutV_whole {xs : List V} {lo hi : Option Int} (h : HT.sIx xs.length 0 lo = 0 ∧ HT.sIx xs.length xs.length hi = xs.length) : cutV xs lo hi = xs := by
  unfold cutV
  rw [h.1, h.2, List.drop_zero, Nat.sub_zero]
  exact List.take_length
/-- a slice of a tuple, new or the tuple itself -/
theorem slT_any {a : Addr} {xs : List V} {lo hi : Option Int} {Q : VK} (h : SqT K H a xs) (q : ∀ (b : Addr) H', Same H H' → SqT K H' b (cutV xs lo hi) → Q (.ref b) H') : rSlA K (.ref a) lo hi H Q := by
  refine ⟨a, xs, rfl, h, fun hw => q a H (Same.refl H) ?_, fun _ p hp => q p _ (Same.new hp) (SqT.of upd_same)⟩
  rw [cutV_whole hw]
  exact h
theorem cutV_ints {o : List Int} {lo hi : Option Int} : ∃ r : List Int, cutV (o.map V.int) lo hi = r.map V.int ∧ (∀ x ∈ r, x ∈ o) ∧ r.length ≤ o.length := by
  unfold cutV
  refine ⟨(o.drop (HT.sIx (o.map V.int).length 0 lo)).take (HT.sIx (o.map V.int).length (o.map V.int).length hi - HT.sIx (o.map V.int).length 0 lo), ?_, fun x hx => List.mem_of_mem_drop (List.mem_of_mem_take hx), ?_⟩
  · rw [List.map_take, List.map_drop]
  · rw [List.length_take, List.length_drop]
    omega
/-- an item from behind or from ahead -/
theorem at_back {r : List Int} {i : Int} (h0 : -1 ≤ i) (h1 : i < r.length) (hne : 0 < r.length) : ∃ x ∈ r, atI (r.map V.int) i = some (.int x) := by
  by_cases h : 0 ≤ i
  · obtain ⟨x, e, hx⟩ := at_int h h1
    exact ⟨x, List.mem_of_getElem? e, hx⟩
  · have e : i = -1 := by omega
    subst e
    have hl : r.length - 1 < r.length := by omega
    refine ⟨r[r.length - 1], List.getElem_mem hl, ?_⟩
    have hi : ixN (r.map V.int).length (-1) = some (r.length - 1) := by
      unfold ixN
      rw [List.length_map, if_neg (by decide), if_pos (by omega)]
      congr 1
      omega
    unfold atI
    rw [hi]
    show (r.map V.int)[r.length - 1]? = _
    rw [List.getElem?_map, List.getElem?_eq_getElem hl]
    rfl
end
end My

set_option Elab.async false
set_option linter.all false
set_option maxRecDepth 100000
set_option maxHeartbeats 4000000
namespace My
open PySem PySem.Spec PyProof.Rows L2

/-! ### data with empty dicts among it -/
mutual
inductive Dq (K : PySem.W.Frag) (H : Hp) : V → PyData → Prop
  | non : Dq K H .non .none
  | bl (b : Bool) : Dq K H (.bl b) (.bool b)
  | int (i : Int) : Dq K H (.int i) (.int i)
  | str (x : Str) : Dq K H (.str x) (.str x)
  | lst {a : Addr} {xs : List V} {ds : List PyData} : SqL K H a xs → DqAll K H xs ds → Dq K H (.ref a) (.list ds)
  | tup {a : Addr} {xs : List V} {ds : List PyData} : SqT K H a xs → DqAll K H xs ds → Dq K H (.ref a) (.tuple ds)
  | dct {a : Addr} : H a = some (.dK []) → Dq K H (.ref a) (.dict [])
inductive DqAll (K : PySem.W.Frag) (H : Hp) : List V → List PyData → Prop
  | nil : DqAll K H [] []
  | cons {v : V} {vs : List V} {d : PyData} {ds : List PyData} : Dq K H v d → DqAll K H vs ds → DqAll K H (v :: vs) (d :: ds)
end
section
variable {K : PySem.W.Frag} {H H' : Hp}
mutual
theorem Dq.of : ∀ {d : PyData} {v : V}, Dp K H v d → Dq K H v d
  | _, _, .non => .non
  | _, _, .bl b => .bl b
  | _, _, .int i => .int i
  | _, _, .str x => .str x
  | _, _, .lst h a => .lst h (DqAll.of a)
  | _, _, .tup h a => .tup h (DqAll.of a)
theorem DqAll.of : ∀ {ds : List PyData} {vs : List V}, DpAll K H vs ds → DqAll K H vs ds
  | _, _, .nil => .nil
  | _, _, .cons h t => .cons (Dq.of h) (DqAll.of t)
end
mutual
theorem Dq.same (s : Same H H') : ∀ {d : PyData} {v : V}, Dq K H v d → Dq K H' v d
  | _, _, .non => .non
  | _, _, .bl b => .bl b
  | _, _, .int i => .int i
  | _, _, .str x => .str x
  | _, _, .lst h a => .lst (s.seq h) (DqAll.same s a)
  | _, _, .tup h a => .tup (Same.sqt s h) (DqAll.same s a)
  | _, _, .dct h => .dct (s _ _ h)
theorem DqAll.same (s : Same H H') : ∀ {ds : List PyData} {vs : List V}, DqAll K H vs ds → DqAll K H' vs ds
  | _, _, .nil => .nil
  | _, _, .cons h t => .cons (Dq.same s h) (DqAll.same s t)
end
theorem DqAll.len : ∀ {ds : List PyData} {vs : List V}, DqAll K H vs ds → vs.length = ds.length
  | _, _, .nil => rfl
  | _, _, .cons _ t => congrArg (· + 1) (DqAll.len t)
theorem DqAll.get : ∀ {ds : List PyData} {vs : List V} {i : Nat} {v : V}, DqAll K H vs ds → vs[i]? = some v → ∃ d, ds[i]? = some d ∧ Dq K H v d
  | _, _, i, v, .nil, e => by simp at e
  | d :: ds, _, 0, v, .cons h t, e => by
    simp at e
    subst e
    exact ⟨d, rfl, h⟩
  | _ :: ds, _, i + 1, v, .cons h t, e => by
    obtain ⟨d, e1, e2⟩ := DqAll.get (i := i) t (by simpa using e)
    exact ⟨d, by simpa using e1, e2⟩
theorem DqAll.append : ∀ {ds es : List PyData} {vs us : List V}, DqAll K H vs ds → DqAll K H us es → DqAll K H (vs ++ us) (ds ++ es)
  | _, _, _, _, .nil, h => h
  | _, _, _, _, .cons h t, g => .cons h (DqAll.append t g)
theorem Dq.knd {v : V} {d : PyData} (h : Dq K H v d) : Knd K H v (kd d) := by
  cases h with
  | non => exact kNon
  | bl b => exact kBl b
  | int i => exact kInt i
  | str x => exact kStr x
  | lst h _ => exact sql_knd h
  | tup h _ => exact sqt_knd h
  | dct h => exact .base (.dK h)
end

/-! ### what repr reads -/
section
variable {X : Cx} {pins : List (Addr × Obj)} {σ : L2.St} {H : Hp} {s : Shared}
theorem dict_empty {a : Addr} (I : Inv X pins σ H s) (h : H a = some (.dK [])) : ∃ o n, s.heap.get? a = some o ∧ o.cls = .type "dict" ∧ o.data = .dict #[] n ∧ (a == sysModules) = false := by
  obtain ⟨_, hs, vs, kv, o, es, ep, e1, e2, e3, _, e4, _⟩ := (show ObjOk X.prog X.w H s.heap a (.dK []) from I.hok a _ h)
  cases kv
  have hes : es = #[] := by
    obtain ⟨l⟩ := es
    have e4' : Pairs _ l [] := e4
    cases e4'
    rfl
  subst hes
  exact ⟨o, ep, e1, e2.1, e3, hs⟩
mutual
theorem Dq.reads (I : Inv X pins σ H s) : ∀ {d : PyData} {v : V} {u : Value}, Dq X.K H v d → RelV v u → ∃ as, Reads s.heap u d as
  | _, _, _, .non, r => by
    cases r
    exact ⟨_, .none⟩
  | _, _, _, .bl b, r => by
    cases r
    exact ⟨_, .bool b⟩
  | _, _, _, .int i, r => by
    obtain ⟨t, e⟩ := r
    subst e
    exact ⟨_, .int i t⟩
  | _, _, _, .str x, r => by
    obtain ⟨t, e⟩ := r
    subst e
    exact ⟨_, .str x t⟩
  | _, _, _, .lst h a, r => by
    cases r
    obtain ⟨its, rv, ⟨o, n, e1, e2, e3, e4⟩, _⟩ := I.list h
    obtain ⟨as, ra⟩ := DqAll.reads I a rv
    exact ⟨_, .list e1 e2 e4 (by simpa using ra)⟩
  | _, _, _, .tup h a, r => by
    cases r
    obtain ⟨its, rv, ⟨o, e1, e2, n, e4⟩, _⟩ := I.tuple h
    obtain ⟨as, ra⟩ := DqAll.reads I a rv
    exact ⟨_, .tuple e1 e2 e4 (by simpa using ra)⟩
  | _, _, _, .dct h, r => by
    cases r
    obtain ⟨o, n, e1, e2, e3, _⟩ := dict_empty I h
    exact ⟨_, .dict e1 e2 e3 .nil .nil⟩
theorem DqAll.reads (I : Inv X pins σ H s) : ∀ {ds : List PyData} {vs : List V} {us : List Value}, DqAll X.K H vs ds → Vals vs us → ∃ as, ReadsAll s.heap us ds as
  | _, _, _, .nil, r => by
    cases r
    exact ⟨_, .nil⟩
  | _, _, _, .cons h t, r => by
    cases r with
    | cons r1 r2 =>
      obtain ⟨as, h1⟩ := Dq.reads I h r1
      obtain ⟨bs, h2⟩ := DqAll.reads I t r2
      exact ⟨_, .cons h1 h2⟩
end
mutual
theorem Dq.repr (I : Inv X pins σ H s) : ∀ {d : PyData} {v : V} {u : Value}, Dq X.K H v d → RelV v u → d.showable = true → d.shown.length ≤ sizeLine → ∃ bs, ReadAtMost s.heap d.depth bs ∧ ReprK X.prog X.w bs s.heap d.depth u d.shown
  | _, _, _, .non, r, _, _ => by
    cases r
    exact ⟨[], (fun _ h => nomatch h), by simp only [PyData.shown]; exact .of_is ReprIs.none _ _ _⟩
  | _, _, _, .bl b, r, _, _ => by
    cases r
    exact ⟨[], (fun _ h => nomatch h), by simp only [PyData.shown]; exact .of_is (ReprIs.bool b) _ _ _⟩
  | _, _, _, .int i, r, hs, _ => by
    obtain ⟨t, e⟩ := r
    subst e
    exact ⟨[], (fun _ h => nomatch h), by simp only [PyData.shown]; exact .of_is (ReprIs.int t (by simpa [PyData.showable] using hs)) _ _ _⟩
  | _, _, _, .str x, r, _, hz => by
    obtain ⟨t, e⟩ := r
    subst e
    exact ⟨[], (fun _ h => nomatch h), by simp only [PyData.shown]; exact .of_is (ReprIs.str x t (by simpa only [PyData.shown] using hz)) _ _ _⟩
  | .list xs, _, _, .lst (a := a) h l, r, hs, hz => by
    cases r
    have hd : Dq X.K H (.ref a) (.list xs) := .lst h l
    obtain ⟨as, rd⟩ := Dq.reads I hd (show RelV (.ref a) (.ref a) from rfl)
    obtain ⟨its, rv, ⟨o, n, e1, e2, e3, e4⟩, _⟩ := I.list h
    have hz' : (listText (PyData.shownAll xs)).length ≤ sizeLine := by simpa only [PyData.shown] using hz
    obtain ⟨bs, hb, hk⟩ := DqAll.repr I l rv (by simpa [PyData.showable] using hs) fun t ht => Nat.le_trans (listText_mem_le ht) hz'
    have hna : a ∉ bs := not_mem_of_deeper rd (by simp only [PyData.depth]; omega) hb
    refine ⟨a :: bs, ReadAtMost.cons rd (by simp only [PyData.depth]; omega) hb, ?_⟩
    simp only [PyData.depth, PyData.shown]
    cases its with
    | nil =>
      cases rv
      cases l
      simp only [PyData.shownAll, listText_nil]
      exact ReprK.listEmpty e1 e2 e4
    | cons x r => exact ReprK.list e1 e2 e4 hna (by simpa using hk.length_eq) fun i y e => hk.item i y (by simpa using e)
  | .tuple xs, _, _, .tup (a := a) h l, r, hs, hz => by
    cases r
    have hd : Dq X.K H (.ref a) (.tuple xs) := .tup h l
    obtain ⟨as, rd⟩ := Dq.reads I hd (show RelV (.ref a) (.ref a) from rfl)
    obtain ⟨its, rv, ⟨o, e1, e2, n, e4⟩, _⟩ := I.tuple h
    have hz' : (tupleText (PyData.shownAll xs)).length ≤ sizeLine := by simpa only [PyData.shown] using hz
    obtain ⟨bs, hb, hk⟩ := DqAll.repr I l rv (by simpa [PyData.showable] using hs) fun t ht => Nat.le_trans (tupleText_mem_le ht) hz'
    have hna : a ∉ bs := not_mem_of_deeper rd (by simp only [PyData.depth]; omega) hb
    refine ⟨a :: bs, ReadAtMost.cons rd (by simp only [PyData.depth]; omega) hb, ?_⟩
    simp only [PyData.depth, PyData.shown]
    exact ReprK.tuple e1 e2 e4 hna (by simpa using hk)
  | _, _, _, .dct (a := a) h, r, _, _ => by
    cases r
    have hd : Dq X.K H (.ref a) (.dict []) := .dct h
    obtain ⟨as, rd⟩ := Dq.reads I hd (show RelV (.ref a) (.ref a) from rfl)
    obtain ⟨o, n, e1, e2, e3, e4⟩ := dict_empty I h
    refine ⟨[a], ReadAtMost.cons (n := 0) rd (Nat.zero_le _) (fun _ h => nomatch h), ?_⟩
    have hd0 : (PyData.dict []).depth = 0 + 1 := by simp only [PyData.depth, PyData.depthKv]
    have hs0 : (PyData.dict []).shown = dictText [] := by simp only [PyData.shown, PyData.shownKv]
    rw [hd0, hs0]
    exact ReprK.dict e1 e2 e3 e4 (fun h => nomatch h) .nil
theorem DqAll.repr (I : Inv X pins σ H s) : ∀ {ds : List PyData} {vs : List V} {us : List Value}, DqAll X.K H vs ds → Vals vs us → PyData.showableAll ds = true → (∀ t ∈ PyData.shownAll ds, t.length ≤ sizeLine) →
    ∃ bs, ReadAtMost s.heap (PyData.depthAll ds) bs ∧ ReprAllK X.prog X.w bs s.heap (PyData.depthAll ds) us (PyData.shownAll ds)
  | _, _, _, .nil, r, _, _ => by
    cases r
    exact ⟨[], (fun _ h => nomatch h), by simp only [PyData.shownAll]; exact .nil⟩
  | d :: ds, _, _, .cons h t, r, hs, hz => by
    cases r with
    | cons r1 r2 =>
      have hs' : d.showable = true ∧ PyData.showableAll ds = true := by simpa [PyData.showableAll] using hs
      obtain ⟨b1, hb1, k1⟩ := Dq.repr I h r1 hs'.1 (hz _ (by simp only [PyData.shownAll]; exact List.mem_cons_self ..))
      obtain ⟨b2, hb2, k2⟩ := DqAll.repr I t r2 hs'.2 fun t ht => hz t (by simp only [PyData.shownAll]; exact List.mem_cons_of_mem _ ht)
      have m1 : d.depth ≤ PyData.depthAll (d :: ds) := by simp only [PyData.depthAll]; exact Nat.le_max_left _ _
      have m2 : PyData.depthAll ds ≤ PyData.depthAll (d :: ds) := by simp only [PyData.depthAll]; exact Nat.le_max_right _ _
      refine ⟨b1 ++ b2, (hb1.mono m1).append (hb2.mono m2), ?_⟩
      simp only [PyData.shownAll]
      exact .cons ((k1.more fun b hb => List.mem_append_left _ hb).level_le m1) (k2.more_le (fun b hb => List.mem_append_right _ hb) m2)
end
end

section
variable {X : Cx}
def rRepr (K : PySem.W.Frag) : List V → Hp → VK → Prop := fun vs H Q => ∃ (x : V) (d : PyData), vs = [x] ∧ Dq K H x d ∧ d.showable = true ∧ d.depth ≤ 60 ∧ d.shown.length ≤ sizeLine ∧ Q (.str d.shown) H
/-- repr(x), where no repr is under way -/
theorem call_reprD (K : PySem.W.Frag) (hg : X.A.guards = some []) (hu : X.A.units + 64 < cLine) (hK : X.K = K := by rfl) : CallR X (.builtin "repr") (rRepr K) := by
  subst hK
  intro pins s σ H xs us Q I r h
  obtain ⟨x, d, rfl, hd, hs, h60, hz, q⟩ := h
  obtain ⟨u, rfl, ru⟩ := vals1 r
  have fin : ∀ (h' : Heap) (t : Tok) (tk : Nat), (∀ b o, s.heap.get? b = some o → h'.get? b = some o) → EP X pins σ Q (.str d.shown t) { s with heap := h', toks := tk } := fun h' t tk hk => ⟨.str d.shown, H, I.kept hk, ⟨_, rfl⟩, q⟩
  cases hd with
  | non =>
    cases ru
    exact PySem.P.repr_of_none (by simpa only [PyData.shown] using fin s.heap _ _ fun _ _ e => e)
  | bl b =>
    cases ru
    exact PySem.P.repr_of_bool (by simpa only [PyData.shown] using fin s.heap _ _ fun _ _ e => e)
  | int i =>
    obtain ⟨t, e⟩ := ru
    subst e
    exact PySem.P.repr_of_int (by simpa [PyData.showable] using hs) (by simpa only [PyData.shown] using fin s.heap _ _ fun _ _ e => e)
  | str z =>
    obtain ⟨t, e⟩ := ru
    subst e
    exact PySem.P.repr_of_str (by simpa only [PyData.shown] using fin s.heap _ _ fun _ _ e => e) (by simpa only [PyData.shown] using hz)
  | @lst a xs ds h l =>
    cases ru
    obtain ⟨as, rd⟩ := Dq.reads I (.lst h l) (show RelV (.ref a) (.ref a) from rfl)
    obtain ⟨its, rv, ⟨o, n, e1, e2, e3, e4⟩, _⟩ := I.list h
    have hz' : (listText (PyData.shownAll ds)).length ≤ sizeLine := by simpa only [PyData.shown] using hz
    have h60' : PyData.depthAll ds + 1 ≤ 60 := by simpa only [PyData.depth] using h60
    obtain ⟨bs, hb, hk⟩ := DqAll.repr I l rv (by simpa [PyData.showable] using hs) fun t ht => Nat.le_trans (listText_mem_le ht) hz'
    have hna : a ∉ bs := not_mem_of_deeper rd (by simp only [PyData.depth]; omega) hb
    refine call_repr_slot (by omega) ⟨o, e1, e2⟩ F.slot_list_repr.toG ?_
    simp only [PyData.shown] at fin
    cases its with
    | nil =>
      cases rv
      cases l
      simp only [PyData.shownAll, listText_nil] at fin
      exact call_list_repr_empty ⟨o, e1, e2⟩ e1 e4 ⟨_, _, rfl, fin s.heap _ _ fun _ _ e => e⟩
    | cons x r =>
      exact call_list_reprK e1 e2 e4 hna (by simpa using hk.length_eq) (fun i y e => hk.item i y (by simpa using e)) hg (fun b _ => Clear.nil b) (by show X.A.units + 1 + _ < _; omega) (fun _ _ e => e) (fun h' t tk hk => ⟨_, _, rfl, fin h' t tk hk⟩) hz'
  | @tup a xs ds h l =>
    cases ru
    obtain ⟨as, rd⟩ := Dq.reads I (.tup h l) (show RelV (.ref a) (.ref a) from rfl)
    obtain ⟨its, rv, ⟨o, e1, e2, n, e4⟩, _⟩ := I.tuple h
    have hz' : (tupleText (PyData.shownAll ds)).length ≤ sizeLine := by simpa only [PyData.shown] using hz
    have h60' : PyData.depthAll ds + 1 ≤ 60 := by simpa only [PyData.depth] using h60
    obtain ⟨bs, hb, hk⟩ := DqAll.repr I l rv (by simpa [PyData.showable] using hs) fun t ht => Nat.le_trans (tupleText_mem_le ht) hz'
    have hna : a ∉ bs := not_mem_of_deeper rd (by simp only [PyData.depth]; omega) hb
    simp only [PyData.shown] at fin
    refine call_repr_slot (by omega) ⟨o, e1, e2⟩ F.slot_tuple_repr ?_
    exact call_tuple_reprK e1 e2 e4 hna (by simpa using hk) hg (fun b _ => Clear.nil b) (by show X.A.units + 1 + _ < _; omega) (fun _ _ e => e) (fun h' t tk hk => ⟨_, _, rfl, fin h' t tk hk⟩) hz'
  | @dct a h =>
    cases ru
    obtain ⟨as, rd⟩ := Dq.reads I (.dct h) (show RelV (.ref a) (.ref a) from rfl)
    obtain ⟨o, n, e1, e2, e3, e4⟩ := dict_empty I h
    have hs0 : (PyData.dict []).shown = dictText [] := by simp only [PyData.shown, PyData.shownKv]
    rw [hs0] at fin hz
    refine call_repr_slot (by omega) ⟨o, e1, e2⟩ F.slot_dict_repr ?_
    exact call_dict_reprK (as := []) (d := 0) e1 e2 e3 e4 (fun h => nomatch h) .nil hg (fun b _ => Clear.nil b) (by show X.A.units + 1 + _ < _; omega) (fun _ _ e => e) (fun h' t tk hk => ⟨_, _, rfl, fin h' t tk hk⟩) hz
end
end My

set_option Elab.async false
set_option linter.all false
set_option maxRecDepth 100000
set_option maxHeartbeats 4000000
namespace My
open PySem PySem.Spec PyProof.Rows L2

/-! ### a def that is called where no repr is under way -/
structure FnG (P : Program) (w : World) (K : PySem.W.Frag) (mg : Str → Option Value) (base : Heap) (k : Nat) (f : Addr) (fd : FuncData) (ps : List Str) (sp : Sp) : Prop where
  len : ∀ vs H Q E, sp vs H Q E → vs.length = ps.length
  run : ∀ (A : Around) (outer : List Env) (s : Shared) (H : Hp) (args : Args) (us : List Value) (vs : List V) (Q : VK) (E : XK), A.guards = some [] → Room k A → Env0 P w K mg base A outer s H → BindsTo s fd args (ps.zip us) → Vals vs us → sp vs H Q E →
    codeAny (model P w) A (.call (.ref f) args) (CR CX0 outer P w H s Q E) s
theorem okG {P : Program} {w : World} {K : PySem.W.Frag} {mg : Str → Option Value} {base : Heap} {x qual : Str} {st : Stmt} {f : Addr} {fd : FuncData} {N ps : List Str} {k : Nat} {sp : Sp} (F : Fun K x qual st f fd) (S : FnScope N ps (defScope st))
    (len : ∀ vs H Q E, sp vs H Q E → vs.length = ps.length)
    (hbody : ∀ (cdv : Value) (A : Around) (outer : List Env) (s : Shared) (H : Hp) (vs : List V) (Q : VK) (E : XK), A.guards = some [] → Room k (A.deeper (envOfC qual (defScope st) s.heap.objs.size f cdv)) → sp vs H Q E →
      ∃ t, PSs (cxOf CX0 P w K mg base N qual (defScope st) f cdv A outer s H E).nox (defBody st) t ∧ t { nx := fun _ H' => Q .non H', rt := Q } (start N vs) H) : FnG P w K mg base (k + 1) f fd ps sp := by
  obtain ⟨oc, od, kV, doc, pm, an, cdv, ct, osl, rfl, lk, hcd⟩ := F.ex
  constructor
  · exact len
  intro A outer s H args us vs Q E gA room env bind vals prom
  have lenV := len _ _ _ _ prom
  have inK : K.In s.heap := env.mod.kin.keeps fun b o e => (env.bs b o e).1
  have noLim : s.heap.NoLimit := env.mod.nolimit.keeps fun b o e => (env.bs b o e).1
  refine codeAny_call_function room.depth (inK _ _ lk) rfl S.co S.gen rfl (PySem.W.codeRec_of inK hcd) (bind _ _ _ _ ?_)
  refine wpAny_newFunctionEnv_cells S.kind (fun y hy => ?_) fun e0 he s1 fresh => ?_
  · rcases S.par y.1 (List.of_mem_zip hy).1 with z | z
    · exact .inl z
    · exact .inr ⟨z, PySem.W.cellsFrom_some _ _ _ (.inl z)⟩
  subst he
  refine ⟨noLim.keeps fresh.toInCall.keep, codeAny_func ?_⟩
  obtain ⟨t, der, rd⟩ := hbody cdv A outer s H vs Q E gA (room.deeper _) prom
  have I := inv_start (CX := CX0) (E := E) S room.hd env lenV vals fresh
  refine wpAny_mono (der.nox.run [] s1 (start N vs) H _ I rd) (fun fl s' q => ?_) fun _ _ q => q
  have close : ∀ {σ' : L2.St} {H' : Hp} {v : V} {u : Value}, Inv (cxOf CX0 P w K mg base N qual (defScope st) f cdv A outer s H E) [] σ' H' s' → RelV v u → Q v H' → CE outer P w H s Q u s' :=
    fun {σ' H' v u} J r z => ⟨v, H', J.os, J.bare, J.base, J.hok, r, z⟩
  match fl, q with
  | .ret u, ⟨v, σ', H', J, r, z⟩ => exact close J r z
  | .next, ⟨σ', H', J, z⟩ => exact close (v := V.non) (u := Value.none) J rfl z
  | .brk, ⟨_, _, _, z⟩ => exact z.elim
  | .cont, ⟨_, _, _, z⟩ => exact z.elim

/-! ### the law's call -/
/-- the heap in which the script alone is tracked -/
def scr (K : PySem.W.Frag) (a : Addr) (o : Obj) (xs : List V) : Hp := fun b => if K.lookup a = none ∧ b = a then some (.frz o (.lst xs)) else none
theorem law_callG {P : Program} {w : World} {K : PySem.W.Frag} {mg mb : Str → Option Value} {k : Nat} {fa a : Addr} {fd : FuncData} {x : Str} {sp : Sp} {s₁ : Shared} {vs : List Value} {ns : List Int}
    (KX : K.In s₁.heap) (hns : s₁.heap.Ns mainGlobals mg) (hb : s₁.heap.Ns builtinsNs mb) (hbb : ∀ x : Str, x ≠ "__name__" → mb x = bootBuiltins x) (hlim : s₁.heap.NoLimit) (hg : s₁.gens = #[])
    (ha : s₁.heap.get? a = some { cls := .type "list", data := .seq vs.toArray }) (hi : IntsAre vs ns) (hl : ns.length ≤ sizeLine) (hr : Room k callerA)
    (F : ∀ base : Heap, K.In base → base.Ns mainGlobals mg → FnG P w K mg base k fa fd [x] sp) (hbind : ∀ (s : Shared) (u : Value), BindsTo s fd ⟨[u], []⟩ [(x, u)])
    (hsp : ∀ H : Hp, SqL K H a (ns.map V.int) → sp [.ref a] H (fun v _ => v = .bl true) fun _ _ _ => False) :
    codeAny (model P w) callerA (.call (.ref fa) ⟨[.ref a], []⟩) (fun r s' => r = .ok (.ret (.bool true)) ∧ OldK s₁.heap s'.heap ∧ s'.os = s₁.os ∧ AllBare s'.gens) s₁ := by
  have rv := vals_ints hi
  have lv := hi.length
  let o0 : Obj := { cls := .type "list", data := .seq vs.toArray }
  let H := scr K a o0 (ns.map V.int)
  have Hat : ∀ b u, H b = some u → K.lookup a = none ∧ b = a ∧ u = .frz o0 (.lst (ns.map V.int)) := fun b u e => by
    have e' : (if K.lookup a = none ∧ b = a then some (HO.frz o0 (.lst (ns.map V.int))) else none) = some u := e
    by_cases c : K.lookup a = none ∧ b = a
    · rw [if_pos c] at e'
      exact ⟨c.1, c.2, (Option.some.inj e').symm⟩
    · rw [if_neg c] at e'
      cases e'
  have Hno : ∀ b, b ≠ a → H b = none := fun b n => if_neg fun c => n c.2
  have hok : HOk P w H s₁.heap := fun b u e => by
    obtain ⟨_, rfl, rfl⟩ := Hat b u e
    exact ⟨ha, by rw [List.length_map]; exact hl, vs, _, rv, ha⟩
  have hS : SqL K H a (ns.map V.int) := by
    cases q : K.lookup a with
    | none => exact .inl (.inr ⟨o0, if_pos ⟨q, rfl⟩⟩)
    | some o =>
      have e := KX a o q
      rw [ha] at e
      cases e
      exact .inr ⟨_, vs.toArray, _, q, rfl, rfl, rfl, by rw [List.size_toArray, lv]; exact hl, by simpa using rv⟩
  -- what the law does not own stays
  have noDict : ∀ {b : Addr} {o : Obj} {es : Array DictEntry} {ep : Nat}, s₁.heap.get? b = some o → o.data = .dict es ep → H b = none := fun {b o es ep} e d => Hno b fun z => by
    subst z
    rw [ha] at e
    cases e
    exact nomatch (show Data.seq vs.toArray _ = Data.dict es ep from d)
  have nsK : ∀ {b : Addr} {m : Str → Option Value}, s₁.heap.Ns b m → (hidT s₁.heap H).Ns b m := fun {b m} ⟨o, es, ep, e, d, r⟩ => ⟨o, es, ep, hidT_get e (noDict e d), d, r⟩
  have inB : K.In (hidT s₁.heap H) := fun b o e => hidT_get (KX b o e) (by
    cases q : H b with
    | none => rfl
    | some u =>
      obtain ⟨z, rfl, _⟩ := Hat b u q
      rw [z] at e
      cases e)
  have mod : Mod K mg (hidT s₁.heap H) := ⟨inB, nsK hns, ⟨mb, nsK hb, hbb⟩, let ⟨mc, h1, h2⟩ := hlim; ⟨mc, nsK h1, h2⟩⟩
  have env : Env0 P w K mg (hidT s₁.heap H) callerA [] s₁ H := ⟨rfl, mod, fun b o e => of_hidT e, Nat.le_of_eq (hidT_size _ _), trivial, (fun b hb => nomatch hb), hok, .of_eq hg⟩
  refine codeAny_mono ((F _ inB (nsK hns)).run callerA [] s₁ H ⟨[.ref a], []⟩ [.ref a] [.ref a] _ _ rfl hr env (hbind s₁ (.ref a)) (.cons rfl .nil) (hsp H hS)) fun r s' q => ?_
  match r, q with
  | .error e, q => exact (show False from q).elim
  | .ok (.ret u), ⟨v, H', os, bare, un, hok', rel, hv⟩ =>
    obtain rfl : v = .bl true := hv
    obtain rfl : u = Value.bool true := rel
    refine ⟨rfl, OldK.of_keep fun b o e => ?_, os, bare⟩
    cases z : H b with
    | none => exact un.keep b o e z (fun h => nomatch h) (fun h => nomatch h)
    | some u =>
      obtain ⟨_, rfl, rfl⟩ := Hat b u z
      have z2 := un.frzs b _ _ z
      obtain ⟨e1, _⟩ := hok b _ z
      obtain ⟨e2, _⟩ := hok' b _ z2
      rw [e] at e1
      cases e1
      exact e2
theorem walk_ofG {l : PySem.W.OpenLaw} {n k : Nat} {q : Program} {loose : List Str} {XP : (Str → Option Value) → Heap → Prop} {YP : World → Heap → Prop} {d : DefRec} {K : Params → PySem.W.Frag} {sp : World → Sp} {x : Str}
    (hn : l.most = some n) (hn2 : n ≤ sizeLine) (hdf : d.params.defaults = []) (hr : Room k callerA)
    (hY : ∀ (w : World) (h : Heap), YP w h → (K w.params).In h)
    (F : ∀ (w : World) (mg : Str → Option Value) (fa : Addr) (h : Heap), (K w.params).In h → h.Ns mainGlobals mg → mg d.name = some (.ref fa) →
      ∃ fd : FuncData, (∀ (s : Shared) (u : Value), BindsTo s fd ⟨[u], []⟩ [(x, u)]) ∧
        ∀ base : Heap, (K w.params).In base → base.Ns mainGlobals mg → FnG l.prog w (K w.params) mg base k fa fd [x] (sp w))
    (hsp : ∀ (w : World) (H : Hp) (a : Addr) (ns : List Int), ns.length ≤ n → SqL (K w.params) H a (ns.map V.int) → sp w [.ref a] H (fun v _ => v = .bl true) fun _ _ _ => False) :
    PySem.W.WalkO q loose XP YP l.row.toRowW d [] (fun f vs => PySem.call f vs) := by
  refine Att.attach_call hn hdf fun w s₀ s₁ mg mb fa o pm cd doc a vs ns G Y ho hd hcd hmg hobj hints hlen hg => ?_
  have KX := hY w _ Y
  obtain ⟨fd, hb, hF⟩ := F w mg fa _ KX G.T.g hmg
  exact law_callG KX G.T.g G.T.b G.T.builtins G.T.nolimit hg hobj hints (Nat.le_trans hlen hn2) hr hF hb fun H hS => hsp w H a ns hlen hS
end My

set_option Elab.async false
set_option linter.all false
set_option maxRecDepth 100000
set_option maxHeartbeats 4000000
namespace My
open PySem PySem.Spec PyProof.Rows L2

/-! ### how large data is -/
def Sm (W D : Nat) (d : PyData) : Prop := d.leavesShort 60 = true ∧ d.showable = true ∧ d.bulk ≤ W ∧ d.depth ≤ D
def SmAll (W D : Nat) (ds : List PyData) : Prop := PyData.leavesShortAll 60 ds = true ∧ PyData.showableAll ds = true ∧ PyData.bulkAll ds ≤ W ∧ PyData.depthAll ds ≤ D
theorem Sm.mono {W W' D D' : Nat} {d : PyData} (h : Sm W D d) (hw : W ≤ W') (hd : D ≤ D') : Sm W' D' d := ⟨h.1, h.2.1, Nat.le_trans h.2.2.1 hw, Nat.le_trans h.2.2.2 hd⟩
theorem SmAll.mono {W W' D D' : Nat} {ds : List PyData} (h : SmAll W D ds) (hw : W ≤ W') (hd : D ≤ D') : SmAll W' D' ds := ⟨h.1, h.2.1, Nat.le_trans h.2.2.1 hw, Nat.le_trans h.2.2.2 hd⟩
theorem SmAll.list {W D : Nat} {ds : List PyData} (h : SmAll W D ds) : Sm W (D + 1) (.list ds) := by
  obtain ⟨h1, h2, h3, h4⟩ := h
  exact ⟨by simpa only [PyData.leavesShort] using h1, by simpa only [PyData.showable] using h2, by simpa only [PyData.bulk] using h3, by simp only [PyData.depth]; omega⟩
theorem SmAll.tuple {W D : Nat} {ds : List PyData} (h : SmAll W D ds) : Sm W (D + 1) (.tuple ds) := by
  obtain ⟨h1, h2, h3, h4⟩ := h
  exact ⟨by simpa only [PyData.leavesShort] using h1, by simpa only [PyData.showable] using h2, by simpa only [PyData.bulk] using h3, by simp only [PyData.depth]; omega⟩
theorem SmAll.nil {D : Nat} : SmAll 0 D [] := ⟨rfl, rfl, Nat.le_refl 0, Nat.zero_le _⟩
theorem SmAll.cons {W W' D : Nat} {d : PyData} {ds : List PyData} (h : Sm W D d) (t : SmAll W' D ds) : SmAll (W + 1 + W') D (d :: ds) := by
  obtain ⟨h1, h2, h3, h4⟩ := h
  obtain ⟨t1, t2, t3, t4⟩ := t
  refine ⟨by simp only [PyData.leavesShortAll, h1, t1, Bool.and_true], by simp only [PyData.showableAll, h2, t2, Bool.and_true], by simp only [PyData.bulkAll]; omega, ?_⟩
  simp only [PyData.depthAll]
  exact Nat.max_le.mpr ⟨h4, t4⟩
theorem SmAll.uncons {W D : Nat} {d : PyData} {ds : List PyData} (h : SmAll W D (d :: ds)) : ∃ w w', w + 1 + w' ≤ W ∧ Sm w D d ∧ SmAll w' D ds := by
  obtain ⟨h1, h2, h3, h4⟩ := h
  simp only [PyData.leavesShortAll, Bool.and_eq_true] at h1
  simp only [PyData.showableAll, Bool.and_eq_true] at h2
  simp only [PyData.bulkAll] at h3
  simp only [PyData.depthAll] at h4
  have h5 := Nat.max_le.mp h4
  exact ⟨d.bulk, PyData.bulkAll ds, h3, ⟨h1.1, h2.1, Nat.le_refl _, h5.1⟩, h1.2, h2.2, Nat.le_refl _, h5.2⟩
theorem SmAll.append : ∀ {W W' D : Nat} {ds es : List PyData}, SmAll W D ds → SmAll W' D es → SmAll (W + W') D (ds ++ es)
  | W, W', D, [], es, _, h => h.mono (by omega) (Nat.le_refl _)
  | W, W', D, d :: ds, es, h, g => by
    obtain ⟨w, w', hw, h1, h2⟩ := h.uncons
    exact (SmAll.cons h1 (SmAll.append h2 g)).mono (by omega) (Nat.le_refl _)
theorem SmAll.take : ∀ {W D : Nat} {ds : List PyData} (k : Nat), SmAll W D ds → SmAll W D (ds.take k)
  | _, _, [], k, h => by rw [List.take_nil]; exact h
  | _, _, _ :: _, 0, h => SmAll.nil.mono (Nat.zero_le _) (Nat.le_refl _)
  | W, D, d :: ds, k + 1, h => by
    obtain ⟨w, w', hw, h1, h2⟩ := h.uncons
    exact (SmAll.cons h1 (SmAll.take k h2)).mono hw (Nat.le_refl _)
theorem SmAll.drop : ∀ {W D : Nat} {ds : List PyData} (k : Nat), SmAll W D ds → SmAll W D (ds.drop k)
  | _, _, [], k, h => by rw [List.drop_nil]; exact h
  | _, _, _ :: _, 0, h => h
  | W, D, d :: ds, k + 1, h => by
    obtain ⟨w, w', hw, h1, h2⟩ := h.uncons
    exact (SmAll.drop k h2).mono (by omega) (Nat.le_refl _)
theorem SmAll.mem : ∀ {W D : Nat} {ds : List PyData} {d : PyData}, SmAll W D ds → d ∈ ds → Sm W D d
  | W, D, e :: ds, d, h, m => by
    obtain ⟨w, w', hw, h1, h2⟩ := h.uncons
    rcases List.mem_cons.mp m with rfl | m
    · exact h1.mono (by omega) (Nat.le_refl _)
    · exact (SmAll.mem h2 m).mono (by omega) (Nat.le_refl _)
theorem SmAll.reverse : ∀ {W D : Nat} {ds : List PyData}, SmAll W D ds → SmAll W D ds.reverse
  | _, _, [], h => h
  | W, D, d :: ds, h => by
    obtain ⟨w, w', hw, h1, h2⟩ := h.uncons
    rw [List.reverse_cons]
    exact (SmAll.append (SmAll.reverse h2) (SmAll.cons h1 SmAll.nil)).mono (by omega) (Nat.le_refl _)
theorem SmAll.len : ∀ {W D : Nat} {ds : List PyData}, SmAll W D ds → ds.length ≤ W
  | _, _, [], _ => Nat.zero_le _
  | W, D, d :: ds, h => by
    obtain ⟨w, w', hw, h1, h2⟩ := h.uncons
    have := SmAll.len h2
    rw [List.length_cons]
    omega
/-- one place put anew -/
theorem SmAll.set : ∀ {W W' D : Nat} {ds : List PyData} {d : PyData} (k : Nat), SmAll W D ds → Sm W' D d → SmAll (W + W') D (ds.set k d)
  | _, _, _, [], _, _, h, _ => h.mono (by omega) (Nat.le_refl _)
  | W, W', D, e :: ds, d, 0, h, g => by
    obtain ⟨w, w', hw, h1, h2⟩ := h.uncons
    exact (SmAll.cons g h2).mono (by omega) (Nat.le_refl _)
  | W, W', D, e :: ds, d, k + 1, h, g => by
    obtain ⟨w, w', hw, h1, h2⟩ := h.uncons
    exact (SmAll.cons h1 (SmAll.set k h2 g)).mono (by omega) (Nat.le_refl _)
theorem Sm.int {i : Int} (h : i.natAbs < 10 ^ 50) : Sm 0 0 (.int i) := by
  refine ⟨?_, ?_, Nat.le_refl _, Nat.le_refl _⟩
  · simp only [PyData.leavesShort, decide_eq_true_eq]
    have e := int_text_length_le10 (a := i) (k := 50) (by decide) h
    show (Str.ofString (toString i)).length ≤ 60
    rw [PySem.ofString_length]
    omega
  · simp only [PyData.showable, decide_eq_true_eq]
    rcases Nat.eq_zero_or_pos i.natAbs with z | z
    · rw [z]
      decide
    · have h2 : (10 : Nat) ^ 50 ≤ 2 ^ 200 := by decide
      have h3 := (Nat.log2_lt (n := i.natAbs) (k := 200) (by omega)).mpr (Nat.lt_of_lt_of_le h h2)
      omega
theorem Sm.bool {b : Bool} : Sm 0 0 (.bool b) := ⟨rfl, rfl, Nat.le_refl _, Nat.le_refl _⟩
theorem Sm.none : Sm 0 0 .none := ⟨rfl, rfl, Nat.le_refl _, Nat.le_refl _⟩
theorem Sm.str0 : Sm 1 0 (.str "") := ⟨by decide, rfl, by decide, Nat.le_refl _⟩
theorem Sm.strA : Sm 1 0 (.str "a") := ⟨by decide, rfl, by decide, Nat.le_refl _⟩
theorem Sm.dict0 : Sm 0 1 (.dict []) := ⟨by decide, by decide, by decide, by decide⟩
/-- the text of small data is in the line -/
theorem Sm.fits {W D : Nat} {d : PyData} (h : Sm W D d) (hw : W ≤ 100000) : d.shown.length + 64 ≤ sizeLine := by
  have h1 := PyData.shown_le_bulk 60 (by decide) d h.1
  have h2 := h.2.2.1
  rw [sizeLine_eq]
  omega
end My

set_option Elab.async false
set_option linter.all false
set_option maxRecDepth 100000
set_option maxHeartbeats 4000000
namespace My
open PySem PySem.Spec PyProof.Rows L2

/-! ### a heap without some addresses -/
def wos (av : List Addr) (H : Hp) : Hp := fun b => if b ∈ av then none else H b
theorem wos_in {av : List Addr} {H : Hp} {b : Addr} (h : b ∉ av) : wos av H b = H b := by unfold wos; rw [if_neg h]
theorem wos_some {av : List Addr} {H : Hp} {b : Addr} {o : HO} (h : wos av H b = some o) : b ∉ av ∧ H b = some o := by
  unfold wos at h
  by_cases c : b ∈ av
  · rw [if_pos c] at h
    cases h
  · rw [if_neg c] at h
    exact ⟨c, h⟩
theorem wos_le {av : List Addr} {H : Hp} : Same (wos av H) H := fun b o h => (wos_some h).2
theorem Same.wos {av : List Addr} {H H' : Hp} (s : Same H H') : Same (wos av H) (wos av H') := fun b o h => by
  obtain ⟨n, e⟩ := wos_some h
  rw [wos_in n]
  exact s _ _ e
theorem Same.wos_of {av : List Addr} {p : Addr} {H H' : Hp} (hp : p ∈ av) (s : L2.Same (My.wo p H) (My.wo p H')) : L2.Same (My.wos av H) (My.wos av H') := fun b o h => by
  obtain ⟨n, e⟩ := wos_some h
  have hb : b ≠ p := fun z => n (by rw [z]; exact hp)
  rw [wos_in n]
  exact (wo_some (s _ _ ((wo_ne hb).trans e))).2
theorem wos_wo {av : List Addr} {p : Addr} {H : Hp} (hp : p ∈ av) : Same (wos av H) (wo p H) := fun b o h => by
  obtain ⟨n, e⟩ := wos_some h
  exact (wo_ne (fun z : b = p => n (by rw [z]; exact hp))).trans e
/-- the addresses are there -/
def Avs (av : List Addr) (H : Hp) : Prop := ∀ b ∈ av, ∃ o, H b = some o
theorem Avs.same {av : List Addr} {H H' : Hp} (s : Same H H') (h : Avs av H) : Avs av H' := fun b hb => by
  obtain ⟨o, e⟩ := h b hb
  exact ⟨o, s _ _ e⟩
theorem Avs.of {av : List Addr} {p : Addr} {H H' : Hp} (s : Same (wo p H) (wo p H')) (hp : ∃ o, H' p = some o) (h : Avs av H) : Avs av H' := fun b hb => by
  by_cases c : b = p
  · rw [c]
    exact hp
  · obtain ⟨o, e⟩ := h b hb
    exact ⟨o, (wo_some (s _ _ ((wo_ne c).trans e))).2⟩
theorem Avs.fresh {av : List Addr} {H : Hp} {a : Addr} (h : Avs av H) (ha : H a = none) : a ∉ av := fun z => by
  obtain ⟨o, e⟩ := h a z
  rw [e] at ha
  cases ha

theorem wo_updD {p fa : Addr} {H H' : Hp} {o : HO} (s : Same (wo p H) (wo p H')) (hf : wo p H fa = none) : Same (wo p H) (wo p (upd H' fa o)) := fun b x h => by
  have n : b ≠ fa := fun z => by
    rw [z, hf] at h
    cases h
  have hb : b ≠ p := (wo_some h).1
  rw [wo_ne hb, upd_ne n]
  exact (wo_some (s _ _ h)).2
theorem wos_updD {av : List Addr} {fa : Addr} {H : Hp} {o : HO} : Same (wos (fa :: av) H) (wos av (upd H fa o)) := fun b x h => by
  obtain ⟨n, e⟩ := wos_some h
  rw [List.mem_cons, not_or] at n
  rw [wos_in n.2, upd_ne n.1]
  exact e
theorem wos_more {av : List Addr} {p fa : Addr} {H H' : Hp} (hp : p ∈ av) (hf : wo p H fa = none) (s : Same (wo p H) (wo p H')) : Same (wos av H) (wos (fa :: av) H') := fun b x h => by
  obtain ⟨n, e⟩ := wos_some h
  have hb : b ≠ p := fun z => n (by rw [z]; exact hp)
  have h2 : wo p H b = some x := (wo_ne hb).trans e
  have n2 : b ≠ fa := fun z => by
    rw [z, hf] at h2
    cases h2
  rw [wos_in (by rw [List.mem_cons, not_or]; exact ⟨n2, n⟩)]
  exact (wo_some (s _ _ h2)).2

/-! ### displays: what is written out is new data, and nothing else changes -/
/-- the part tells data d, from any heap that holds H0; the addresses av are not in it -/
def EvQ (K : PySem.W.Frag) (av : List Addr) (H0 : Hp) (σ : L2.St) (t : TE) (d : PyData) : Prop :=
  ∀ H, Same H0 H → ∀ Q : VK, (∀ x H', Same H H' → Dq K (wos av H') x d → Q x H') → t σ H Q
def EvA (K : PySem.W.Frag) (av : List Addr) (H0 : Hp) (σ : L2.St) (t : TA) (ds : List PyData) : Prop :=
  ∀ H, Same H0 H → ∀ Q : List V → Hp → Prop, (∀ xs H', Same H H' → DqAll K (wos av H') xs ds → Q xs H') → t σ H Q
section
variable {K : PySem.W.Frag} {av : List Addr} {H0 : Hp} {σ : L2.St} {t : TE} {ta : TA} {d : PyData} {ds : List PyData}
theorem EvQ.pure {v : V} (h : ∀ (H : Hp) (Q : VK), Q v H → t σ H Q) (hd : Dq K (wos av H0) v d) : EvQ K av H0 σ t d :=
  fun H s Q q => h H Q (q v H (fun _ _ e => e) (Dq.same (My.Same.wos s) hd))
theorem EvQ.c {v : V} (hd : Dq K (wos av H0) v d) : EvQ K av H0 σ (tC v) d := EvQ.pure (fun _ _ q => q) hd
theorem EvQ.var {i : Nat} {v : V} (e : σ[i]? = some (some v)) (hd : Dq K (wos av H0) v d) : EvQ K av H0 σ (tVar i) d := EvQ.pure (fun _ _ q => ⟨v, e, q⟩) hd
theorem EvA.nil : EvA K av H0 σ tNil [] := fun H s Q q => q [] H (fun _ _ e => e) .nil
theorem EvA.cons (h : EvQ K av H0 σ t d) (r : EvA K av H0 σ ta ds) : EvA K av H0 σ (tCons t ta) (d :: ds) :=
  fun H s Q q => h H s _ fun x H1 s1 hx => r H1 (s.trans s1) _ fun xs H2 s2 hxs => q (x :: xs) H2 (s1.trans s2) (.cons (Dq.same (My.Same.wos s2) hx) hxs)
theorem EvQ.tup (hp : Avs av H0) (r : EvA K av H0 σ ta ds) (hl : ds.length ≤ 1000) : EvQ K av H0 σ (tTup ta) (.tuple ds) := fun H s Q q => by
  refine r H s _ fun xs H1 s1 hxs => ⟨by rw [hxs.len, sizeLine_eq]; omega, fun a ha => q _ _ (s1.trans (My.Same.new ha)) ?_⟩
  have n : a ∉ av := (hp.same (s.trans s1)).fresh ha
  exact .tup (SqT.of ((wos_in n).trans upd_same)) (DqAll.same (My.Same.wos (My.Same.new ha)) hxs)
theorem EvQ.lst (hp : Avs av H0) (r : EvA K av H0 σ ta ds) (hl : ds.length ≤ 1000) : EvQ K av H0 σ (tLst ta) (.list ds) := fun H s Q q => by
  refine r H s _ fun xs H1 s1 hxs => ⟨by rw [hxs.len, sizeLine_eq]; omega, fun a ha => q _ _ (s1.trans (My.Same.new ha)) ?_⟩
  have n : a ∉ av := (hp.same (s.trans s1)).fresh ha
  exact .lst (SqL.of ((wos_in n).trans upd_same)) (DqAll.same (My.Same.wos (My.Same.new ha)) hxs)
theorem EvQ.dict (hp : Avs av H0) : EvQ K av H0 σ tDNewK (.dict []) := fun H s Q q a ha => by
  refine q _ _ (My.Same.new ha) (.dct ?_)
  have n : a ∉ av := (hp.same s).fresh ha
  exact (wos_in n).trans upd_same
end
theorem tAsg_op {r : R2} {ta tb : TE} {g : TG} {D : Ends} {σ : L2.St} {H : Hp} (h : ta σ H fun x H1 => tb σ H1 fun y H2 => r x y H2 fun z H3 => g z σ H3 D.nx) : tAsg (tOp r ta tb) g D σ H := h
/-- one of the data -/
theorem DqAll.mem {K : PySem.W.Frag} {H : Hp} {ds : List PyData} {vs : List V} {j : Nat} {v : V} (h : DqAll K H vs ds) (e : vs[j]? = some v) : ∃ d, d ∈ ds ∧ Dq K H v d := by
  obtain ⟨d, e1, e2⟩ := h.get e
  exact ⟨d, List.mem_of_getElem? e1, e2⟩

section
variable {K : PySem.W.Frag} {H : Hp}
theorem DqAll.take : ∀ {ds : List PyData} {vs : List V} (k : Nat), DqAll K H vs ds → DqAll K H (vs.take k) (ds.take k)
  | _, _, k, .nil => by rw [List.take_nil, List.take_nil]; exact .nil
  | _, _, 0, .cons _ _ => .nil
  | _, _, k + 1, .cons h t => .cons h (DqAll.take k t)
theorem DqAll.drop : ∀ {ds : List PyData} {vs : List V} (k : Nat), DqAll K H vs ds → DqAll K H (vs.drop k) (ds.drop k)
  | _, _, k, .nil => by rw [List.drop_nil, List.drop_nil]; exact .nil
  | _, _, 0, .cons h t => .cons h t
  | _, _, k + 1, .cons h t => DqAll.drop k t
theorem DqAll.set : ∀ {ds : List PyData} {vs : List V} {v : V} {d : PyData} (k : Nat), DqAll K H vs ds → Dq K H v d → DqAll K H (vs.set k v) (ds.set k d)
  | _, _, _, _, k, .nil, _ => .nil
  | _, _, _, _, 0, .cons _ t, g => .cons g t
  | _, _, _, _, k + 1, .cons h t, g => .cons h (DqAll.set k t g)
theorem DqAll.reverse : ∀ {ds : List PyData} {vs : List V}, DqAll K H vs ds → DqAll K H vs.reverse ds.reverse
  | _, _, .nil => .nil
  | _, _, .cons h t => by
    rw [List.reverse_cons, List.reverse_cons]
    exact DqAll.append (DqAll.reverse t) (.cons h .nil)
/-- a slice of data is data, no larger -/
theorem DqAll.cut {ds : List PyData} {vs : List V} {W D : Nat} (lo hi : Option Int) (h : DqAll K H vs ds) (s : SmAll W D ds) : ∃ es, DqAll K H (cutV vs lo hi) es ∧ SmAll W D es :=
  ⟨_, DqAll.take _ (DqAll.drop _ h), SmAll.take _ (SmAll.drop _ s)⟩
theorem Sm.items {W D : Nat} {ds : List PyData} (h : Sm W (D + 1) (.tuple ds)) : SmAll W D ds := by
  obtain ⟨h1, h2, h3, h4⟩ := h
  exact ⟨by simpa only [PyData.leavesShort] using h1, by simpa only [PyData.showable] using h2, by simpa only [PyData.bulk] using h3, by simp only [PyData.depth] at h4; omega⟩
end

/-- whole numbers of some size, in tuples, e deep -/
def Ti : Nat → PyData → Prop
  | 0, d => ∃ i : Int, d = .int i ∧ i.natAbs ≤ 1000000
  | e + 1, d => (∃ i : Int, d = .int i ∧ i.natAbs ≤ 1000000) ∨ ∃ ds, d = .tuple ds ∧ ∀ x ∈ ds, Ti e x
/-- any small values -/
def spOdd (K : PySem.W.Frag) : Sp := fun vs H Q _ => ∃ (p c : Addr) (n : Nat) (av : List Addr), vs = [.ref p] ∧ Pen H p c n ∧ n ≤ 900000 ∧ p ∈ av ∧ Avs av H ∧
  ∀ (x : V) (d : PyData) H', Dq K (wos av H') x d → Sm 2 3 d → Pen H' p c (n + 1) → Same (wo p H) (wo p H') → Q x H'
/-- the data bent: e levels of calls are there -/
def spBent (K : PySem.W.Frag) (m : Nat) : Sp := fun vs H Q _ => ∃ (p c : Addr) (n W e : Nat) (v : V) (d : PyData) (av : List Addr), vs = [.ref p, v] ∧ Pen H p c n ∧ n + 10 * e ≤ 800000 ∧ e + 2 ≤ m ∧ Ti e d ∧ Sm W e d ∧ Dq K (wos av H) v d ∧ W ≤ 1000 ∧ p ∈ av ∧ Avs av H ∧
  ∀ (x : V) (d' : PyData) H', Dq K (wos av H') x d' → Sm ((e + 2) * W + 2) (e + 3) d' → Pen H' p c (n + 10 * (e + 1)) → Same (wo p H) (wo p H') → Q x H'
end My

set_option Elab.async false
set_option linter.all false
set_option maxRecDepth 100000
set_option maxHeartbeats 4000000
namespace My
open PySem PySem.Spec PyProof.Rows L2 Srt

/-! ### sorted(t), t a tuple of pairs of whole numbers -/
section
variable {prog : Program} {w : World} {A : Around} {E : Value → Shared → Prop} {s : Shared}
theorem gather_tup {l : Addr} {vs : List Value} {Q : List Value → Shared → Prop} (hl : s.heap.IsTuple l vs.toArray) (hsz : vs.length ≤ sizeLine)
    (h : Q vs { s with heap := (s.heap.push (seqObj "list" #[] 0)).update s.heap.objs.size (Obj.mapSeq (· ++ vs.toArray)) }) :
    wpAny (model prog w) A (collect (.ref l)) Q E s := by
  obtain ⟨o, ho, hc, n, hd⟩ := id hl
  unfold collect
  refine wpAny_bind (wpAny_runValue (codeAny_builtin entry_proto_collect' ?_))
  show wpAny _ _ (do again (.builtin "list.__iadd__" ⟨[← newList [], .ref l], []⟩)) _ _ s
  refine wpAny_bind (wpAny_newList (wpAny_pure ⟨Code.quiet_builtin _ (by decide +kernel), codeAny_builtin entry_list_iadd' ?_⟩))
  show wpAny _ _ (Builtin.List.listExtendWith (.ref s.heap.objs.size) (.ref l) (.ref s.heap.objs.size)) _ _ { s with heap := s.heap.push (seqObj "list" #[] 0) }
  unfold Builtin.List.listExtendWith
  have ho' : (s.heap.push (seqObj "list" #[] 0)).get? l = some o := Heap.get?_push_of_some _ ho
  refine wpAny_bind (wpAny_typeOf (T := "tuple") ⟨o, ho', hc⟩ ?_)
  have ht : (Value.type "tuple" == Value.type "tuple") = true := by rfl
  rw [if_pos (by rw [ht]; simp)]
  refine wpAny_bind (listItems_at ho' hd ?_)
  refine wpAny_bind (listItems_at (xs := #[]) (n := 0) (Heap.get?_push_size _ rfl) rfl ?_)
  rw [if_neg (by simp)]
  refine wpAny_bind (listUpdate_at (xs := #[]) (n := 0) (Heap.get?_push_size _ rfl) rfl ?_ (Nat.zero_le _) (by show (#[] ++ vs.toArray).size ≤ sizeLine + 1; simp only [Array.size_append, List.size_toArray, List.length_nil]; omega))
  refine wpAny_pure ?_
  show wpAny (model prog w) A (do
      let o ← load s.heap.objs.size
      match o.data with
      | .seq xs _ => pure xs.toList
      | _ => unsupported "internal:collect") Q E { s with heap := (s.heap.push (seqObj "list" #[] 0)).update s.heap.objs.size (Obj.mapSeq (· ++ vs.toArray)) }
  refine wpAny_bind (wpAny_load (get?_update_seq (Heap.get?_push_size _ rfl) _) ?_)
  show wpAny _ _ (pure ((#[] : Array Value) ++ vs.toArray).toList) Q E _
  rw [show ((#[] : Array Value) ++ vs.toArray).toList = vs by simp]
  exact wpAny_pure h
theorem sorted_tup {l : Addr} {vs : List Value} {Q : Value → Shared → Prop} (hl : s.heap.IsTuple l vs.toArray) (hz : vs.length ≤ sizeLine)
    (hS : 2 ≤ vs.length → ∀ (h₁ : Heap) (a : Addr), h₁.get? a = some (seqObj "list" vs.toArray 0) → (∀ b o, s.heap.get? b = some o → b ≠ a ∧ h₁.get? b = some o) → Sortable prog w A.in1.in1 { s with heap := h₁ } a vs)
    (h : ∀ out : List Value, out.Perm vs → Q (.ref (s.heap.objs.size + 1)) { s with heap := sortedAll s.heap vs out.toArray }) :
    wpAny (model prog w) A (call (.builtin "sorted") [.ref l]) Q E s := by
  refine Calls.call_function_entry kind_sorted plain_sorted entry_sorted (args_sorted1 _) ?_
  unfold Builtin.«sorted»
  refine wpAny_bind (m := checkCount "sorted" 1 1 _) (wpAny_pure ?_)
  refine wpAny_bind (gather_tup hl hz ?_)
  refine wpAny_bind (wpAny_newList ?_ hz)
  have hsz : ((s.heap.push (seqObj "list" #[] 0)).update s.heap.objs.size (Obj.mapSeq (· ++ vs.toArray))).objs.size = s.heap.objs.size + 1 := by
    rw [Heap.size_update, size_push']
  have hoL : (((s.heap.push (seqObj "list" #[] 0)).update s.heap.objs.size (Obj.mapSeq (· ++ vs.toArray))).push (seqObj "list" vs.toArray 0)).get? (s.heap.objs.size + 1) = some (seqObj "list" vs.toArray 0) := by
    rw [← hsz]; exact Heap.get?_push_size _ rfl
  have keep : ∀ b o, s.heap.get? b = some o → b ≠ s.heap.objs.size + 1 ∧ (((s.heap.push (seqObj "list" #[] 0)).update s.heap.objs.size (Obj.mapSeq (· ++ vs.toArray))).push (seqObj "list" vs.toArray 0)).get? b = some o := fun b o q => by
    have hlt : b < s.heap.objs.size := Heap.lt_size q
    refine ⟨Nat.ne_of_lt (Nat.lt_succ_of_lt hlt), Heap.get?_push_of_some _ ?_⟩
    rw [Heap.get?_update_ne _ _ _ _ (Nat.ne_of_lt hlt)]
    exact Heap.get?_push_of_some _ q
  show wpAny _ _ _ _ _ { s with heap := ((s.heap.push (seqObj "list" #[] 0)).update s.heap.objs.size (Obj.mapSeq (· ++ vs.toArray))).push (seqObj "list" vs.toArray 0) }
  rw [hsz]
  refine wpAny_bind (wpAny_holding (wpAny_call_entry slot_list_sort ⟨_, hoL, rfl⟩ entry_list_sort (list_sort_any hoL hz (fun h2 => hS h2 _ _ hoL keep) fun out hp => ⟨_, rfl, ?_⟩) (args_list_sort _)))
  exact wpAny_pure ⟨_, rfl, h out hp⟩
theorem sorted_ptup {l : Addr} {vs : List Value} {Q : Value → Shared → Prop} (hl : s.heap.IsTuple l vs.toArray) (hz : vs.length ≤ sizeLine) (hp : ∀ v ∈ vs, ∃ x y, IsPair s.heap v x y)
    (h : ∀ (h' : Heap) (d : Addr) (out : List Value), out.Perm vs → (∀ b o, s.heap.get? b = some o → h'.get? b = some o) → s.heap.objs.size ≤ d → (∃ n, h'.get? d = some (seqObj "list" out.toArray n)) → Q (.ref d) { s with heap := h' }) :
    wpAny (model prog w) A (call (.builtin "sorted") [.ref l]) Q E s := by
  refine sorted_tup hl hz (fun h2 h₁ a ha k => ?_) fun out ho => ?_
  · refine pairs_sortable (s := { s with heap := h₁ }) (by omega) (fun v hm => ?_) fun o e => ?_
    · obtain ⟨x, y, p⟩ := hp v hm
      exact ⟨x, y, p.keeps fun b o e _ => (k b o e).2⟩
    · have e' : some o = some (seqObj "list" vs.toArray 0) := e.symm.trans ha
      cases e'
      intro c
      exact absurd (Value.type.inj c) (by decide)
  · exact h _ _ out ho (fun b o e => sortedAll_old e) (Nat.le_succ _) (sortedAll_at s.heap vs out.toArray)
end
def rSortTP (K : PySem.W.Frag) : List V → Hp → VK → Prop := fun vs H Q => ∃ a xs, vs = [V.ref a] ∧ SqT K H a xs ∧ (∀ x ∈ xs, ∃ t i j, x = V.ref t ∧ SqT K H t [.int i, .int j]) ∧
  ∀ ys p, ys.Perm xs → H p = none → Q (.ref p) (upd H p (.lst ys))
theorem cr_sortTP {X : Cx} : CallR X (.builtin "sorted") (rSortTP X.K) := by
  intro pins s σ H vs us Q I r h
  obtain ⟨a, xs, rfl, hs, hx, q⟩ := h
  obtain ⟨its, rv, hl, hz⟩ := I.tuple hs
  obtain ⟨u, rfl, ru⟩ := vals1 r
  obtain rfl : u = Value.ref a := ru
  obtain ⟨e1, e2⟩ := refs_back rv fun x m => by
    obtain ⟨t, _, _, e, _⟩ := hx x m
    exact ⟨t, e⟩
  refine sorted_ptup hl (by rw [← rv.length]; exact hz) (fun v hv => ?_) fun h' d out hp k hd hn => ?_
  · obtain ⟨t, rfl⟩ := e2 v hv
    have hm : V.ref t ∈ xs := by rw [e1]; exact List.mem_map.mpr ⟨_, hv, rfl⟩
    obtain ⟨t', i, j, e, ht⟩ := hx _ hm
    cases e
    obtain ⟨its2, r2, ⟨o, ho, hc, n, hd⟩, _⟩ := I.tuple ht
    obtain ⟨u1, u2, rfl, ri, rj⟩ := vals2 r2
    obtain ⟨t1, rfl⟩ := ri
    obtain ⟨t2, rfl⟩ := rj
    exact ⟨i, j, t, o, t1, t2, n, rfl, ho, hc, hd⟩
  · have h3 : ∀ u ∈ out, ∃ a, u = Value.ref a := fun u hu => e2 u (hp.mem_iff.mp hu)
    obtain ⟨n, hn⟩ := hn
    refine ⟨.ref d, upd H d (.lst (out.map backV)), I.laid (t' := s.toks) k hd ⟨?_, out, n, vals_back h3, hn⟩, rfl, q _ d ?_ (I.hok.fresh hd)⟩
    · rw [List.length_map, hp.length_eq, ← rv.length]; exact hz
    · rw [e1]; exact hp.map backV
theorem sortTP {X : Cx} (K : PySem.W.Frag) (h : X.K = K := by rfl) : CallR X (.builtin "sorted") (rSortTP K) := by subst h; exact cr_sortTP
/-- data in another order -/
theorem DqAll.perm {K : PySem.W.Frag} {H : Hp} {vs us : List V} (p : us.Perm vs) : ∀ {ds : List PyData}, DqAll K H vs ds → ∃ es, es.Perm ds ∧ DqAll K H us es := by
  induction p with
  | nil => exact fun h => ⟨_, .refl _, h⟩
  | cons x _ ih =>
    intro ds h
    cases h with
    | cons h t =>
      obtain ⟨es, e1, e2⟩ := ih t
      exact ⟨_, e1.cons _, .cons h e2⟩
  | swap x y l =>
    intro ds h
    cases h with
    | cons h t =>
      cases t with
      | cons h2 t => exact ⟨_, .swap .., .cons h2 (.cons h t)⟩
  | trans _ _ ih1 ih2 =>
    intro ds h
    obtain ⟨es, e1, e2⟩ := ih2 h
    obtain ⟨fs, f1, f2⟩ := ih1 e2
    exact ⟨fs, f1.trans e1, f2⟩
theorem SmAll.perm {W D : Nat} {ds es : List PyData} (p : es.Perm ds) : SmAll W D ds → SmAll W D es := by
  revert W
  induction p with
  | nil => exact fun h => h
  | cons x _ ih =>
    intro W h
    obtain ⟨w, w', hw, h1, h2⟩ := h.uncons
    exact (SmAll.cons h1 (ih h2)).mono hw (Nat.le_refl _)
  | swap x y l =>
    intro W h
    obtain ⟨w, w', hw, h1, h2⟩ := h.uncons
    obtain ⟨v, v', hv, g1, g2⟩ := h2.uncons
    exact (SmAll.cons g1 (SmAll.cons h1 g2)).mono (by omega) (Nat.le_refl _)
  | trans _ _ ih1 ih2 => exact fun h => ih1 (ih2 h)

/-- webs bent in the ways of webs -/
def spNear (K : PySem.W.Frag) : Sp := fun vs H Q _ => ∃ (p c : Addr) (n0 : Nat) (av : List Addr) (v : V) (n : Int) (T : List (Int × Int)), vs = [.ref p, v] ∧ Pen H p c n0 ∧ n0 ≤ 800000 ∧ Dq K (wos av H) v (webD n T) ∧ (1 ≤ n ∧ n ≤ 12) ∧ T.length ≤ 144 ∧ (∀ t ∈ T, (0 ≤ t.1 ∧ t.1 < 12) ∧ 0 ≤ t.2 ∧ t.2 < 12) ∧ p ∈ av ∧ Avs av H ∧
  ∀ (x : V) (d' : PyData) H', Dq K (wos av H') x d' → Sm 1000 6 d' → Pen H' p c (n0 + 5) → Same (wo p H) (wo p H') → Q x H'
end My

set_option Elab.async false
set_option linter.all false
set_option maxRecDepth 100000
set_option maxHeartbeats 4000000
namespace My
open PySem PySem.Spec PyProof.Rows L2 HT

/-! ### t[::-1], t a tuple -/
section
variable {prog : Program} {w : World} {A : Around} {E : Value → Shared → Prop} {s : Shared}
theorem back_places (n : Nat) : Builtin.Slice.slicePlaces ((n : Int) - 1) (-1) (-1) = n := by
  unfold Builtin.Slice.slicePlaces
  have h1 : ¬ ((-1 : Int) > 0) := by decide
  rw [if_neg h1]
  split
  · rw [show (-(-1) : Int) = 1 by decide, Int.ediv_one]
    omega
  · omega
theorem back_applied {sl : Addr} {vl vu vs : Value} {n : Nat} {Q : Int × Int × Nat → Shared → Prop} (hs : s.heap.IsSliceOf sl vl vu vs) (pl : IsPart vl none) (pu : IsPart vu none) (ps : IsPart vs (some (-1)))
    (h : Q ((n : Int) - 1, -1, n) s) : wpAny (model prog w) A (Builtin.Slice.sliceApplied (.ref sl) (pure (n : Int))) Q E s := by
  obtain ⟨os, hos, hcs, hds⟩ := id hs
  unfold Builtin.Slice.sliceApplied Builtin.Slice.sliceFields
  refine wpAny_bind (wpAny_bind (wpAny_field hos hds (x := vl) rfl (wpAny_bind (wpAny_field hos hds (x := vu) rfl (wpAny_bind (wpAny_field hos hds (x := vs) rfl (wpAny_pure ?_)))))))
  refine wpAny_bind (slicePart_ ps ?_)
  show wpAny _ _ (if ((-1 : Int) == 0) = true then _ else _) _ _ s
  rw [if_neg (by decide)]
  refine wpAny_bind (slicePart_ pl (wpAny_bind (slicePart_ pu (wpAny_bind (wpAny_pure ?_)))))
  show wpAny _ _ (pure ((n : Int) - 1, (-1 : Int), Builtin.Slice.slicePlaces ((n : Int) - 1) (-1) (-1))) _ _ s
  rw [back_places]
  exact wpAny_pure h
theorem back_pick (xs : Array Value) : ((List.range xs.size).filterMap fun (k : Nat) => xs[(((xs.size : Nat) : Int) - 1 + (k : Int) * (-1)).toNat]?).toArray = xs.toList.reverse.toArray := by
  have e : (List.range xs.size).filterMap (fun (k : Nat) => xs[(((xs.size : Nat) : Int) - 1 + (k : Int) * (-1)).toNat]?) = ((List.range xs.size).map fun k => xs.size - 1 - k).filterMap (xs[·]?) := by
    rw [List.filterMap_map]
    refine congrArg (fun f => (List.range xs.size).filterMap f) (funext fun k => ?_)
    show xs[(((xs.size : Nat) : Int) - 1 + (k : Int) * (-1)).toNat]? = xs[xs.size - 1 - k]?
    have e : (((xs.size : Nat) : Int) - 1 + (k : Int) * (-1)).toNat = xs.size - 1 - k := by omega
    rw [e]
  rw [e, PySem.W.krv_range, List.filterMap_reverse, PySem.W.krv_all]
theorem item_back {t sl : Addr} {items : Array Value} {vl vu vs : Value} {Q : Value → Shared → Prop} (ht : IsTup s.heap t items) (hs : s.heap.IsSliceOf sl vl vu vs) (pl : IsPart vl none) (pu : IsPart vu none) (ps : IsPart vs (some (-1)))
    (h : Q (.ref s.heap.objs.size) { s with heap := s.heap.push { cls := .type "tuple", data := .seq items.toList.reverse.toArray } }) (hsz : items.size ≤ sizeLine) : wpAny (model prog w) A (getItem (.ref t) (.ref sl)) Q E s := by
  have htake : sizeOk (.seq items.toList.reverse.toArray) := by
    show items.toList.reverse.toArray.size ≤ sizeLine
    rw [List.size_toArray, List.length_reverse, Array.length_toList]
    exact hsz
  obtain ⟨os, hos, hcs, hds⟩ := id hs
  have hTs : s.TypeIs (.ref sl) "slice" := ⟨os, hos, hcs⟩
  unfold getItem
  try with_reducible refine wpAny_holding ?_
  first | refine wpAny_bind (wpAny_pure ?_) | skip
  refine wpAny_bind (wpAny_sequenceKey ht.typeIs (by decide) ?_)
  refine wpAny_bind (wpAny_callSpecial?_slot (name := Str.ofString "__getitem__") ht.typeIs PyProof.Rows.slot_tuple_getitem
    (wpAny_call_entry PyProof.Rows.slot_tuple_getitem ht.typeIs entry_tuple_getitem ?_ (args_tuple_getitem _ _)))
  show wpAny _ _ (Builtin.Tuple.tupleItemsOf (.ref t) >>= _) _ _ s
  refine wpAny_bind (tupleItemsOf_ ht ?_)
  refine wpAny_bind (wpAny_typeOf hTs ?_)
  rw [if_pos (by decide)]
  refine wpAny_bind (back_applied hs pl pu ps ?_)
  have hno : ¬ ((((items.size : Int) - 1) == 0 && (-1 : Int) == 1 && items.size == items.size) = true) := by
    intro q
    rw [Bool.and_eq_true, Bool.and_eq_true] at q
    exact absurd q.1.2 (by decide)
  show wpAny _ _ (if (((items.size : Int) - 1) == 0 && (-1 : Int) == 1 && items.size == items.size) = true then _ else _) _ _ s
  rw [if_neg hno, back_pick]
  first
    | exact wpAny_bind (m := Builtin.Tuple.tupleExact _) (wpAny_newObj_type (wpAny_pure ⟨_, rfl, wpAny_pure h⟩) htake)
    | exact wpAny_bind (m := Builtin.Tuple.tupleExact _) (wpAny_newObj_type (wpAny_bind (wpAny_pure (wpAny_pure ⟨_, rfl, wpAny_pure h⟩))) htake)
    | exact wpAny_bind (wpAny_bind (m := Builtin.Tuple.tupleExact _) (wpAny_newObj_type (wpAny_pure (wpAny_pure ⟨_, rfl, wpAny_pure h⟩)) htake))
    | exact wpAny_bind (wpAny_bind (m := Builtin.Tuple.tupleExact _) (wpAny_newObj_type (wpAny_pure ⟨_, rfl, wpAny_pure h⟩) htake))
end
def tBackT (K : PySem.W.Frag) (te : TE) : TE := fun σ H Q => te σ H fun x H1 => ∃ a xs, x = .ref a ∧ SqT K H1 a xs ∧ ∀ p, H1 p = none → Q (.ref p) (upd H1 p (.tup xs.reverse))
theorem pe_backT {X : Cx} (K : PySem.W.Frag) {e : Expr} {te : TE} {k : Nat} {p1 p2 p3 pos : Pos} (he : PE X e te) (hK : X.K = K := by rfl) : PE X (.Subscript e (.Slice none none (some (.UnaryOp .USub (.Constant (.int 1) k p1) p2)) p3) pos) (tBackT K te) := by
  subst hK
  refine ⟨fun pins s σ H Q I h => ?_⟩
  refine Subscript_ (thn (he.run pins s σ H _ I h) fun v s1 ⟨x, H1, I1, r1, q1⟩ => ?_)
  obtain ⟨a, xs, ex, hx, q⟩ := q1
  subst ex
  cases r1
  have hst : PO X (some (.UnaryOp .USub (.Constant (.int 1) k p1) p2)) (tPart (tUn (rU fun i => .int (-i)) (tC (.int 1)))) := po_some (pe_un un_neg pe_int)
  refine wpAny_Slice (thn (po_none.run pins s1 σ H1 (fun o H2 => o = none ∧ H2 = H1) I1 ⟨rfl, rfl⟩) fun vl s2 ⟨l, H2, I2, pl, el, e2⟩ => ?_)
  subst el e2
  refine thn (po_none.run pins s2 σ H2 (fun o H3 => o = none ∧ H3 = H2) I2 ⟨rfl, rfl⟩) fun vu s3 ⟨u, H3, I3, pu, eu, e3⟩ => ?_
  subst eu e3
  refine thn (hst.run pins s3 σ H3 (fun o H4 => o = some (-1) ∧ H4 = H3) I3 ⟨1, rfl, -1, rfl, rfl, rfl⟩) fun vs s4 ⟨o, H4, I4, ps, eo, e4⟩ => ?_
  subst eo e4
  have I5 : Inv X pins σ H4 { s4 with heap := s4.heap.push { cls := .type "slice", data := .fields #[vl, vu, vs] } } := I4.kept (t' := s4.toks) fun b ob q => Heap.get?_push_of_some _ q
  obtain ⟨its, r, ht, hz⟩ := I5.tuple hx
  have hlen := r.length
  show wpAny (model X.prog X.w) X.A (subscriptTail e (.Slice none none (some (.UnaryOp .USub (.Constant (.int 1) k p1) p2)) p3) (.ref a) (.ref s4.heap.objs.size)) (EP X pins σ Q) X.xe { s4 with heap := s4.heap.push { cls := .type "slice", data := .fields #[vl, vu, vs] } }
  refine tail_any (ops := [.ref a, .ref s4.heap.objs.size]) ht.typeIs (PyProof.Rows.slot_tuple_getitem.lookup) ?_ (by with_unfolding_all rfl)
  refine item_back ht (Heap.IsSliceOf.new _ vl vu vs) pl pu ps ?_ (by rw [List.size_toArray]; omega)
  refine ⟨.ref _, _, I5.laid (t' := s4.toks) (o := .tup xs.reverse) (fun b ob q => Heap.get?_push_of_some _ q) (Nat.le_refl _) ?_, rfl, q _ (I5.hok.fresh (Nat.le_refl _))⟩
  exact ⟨by rw [List.length_reverse]; exact hz, _, r.reverse, IsTup.new _ _⟩
end My

set_option Elab.async false
set_option linter.all false
set_option maxRecDepth 100000
set_option maxHeartbeats 4000000
namespace My
open PySem PySem.Spec PyProof.Rows L2

/-! ### more of displays -/
/-- as EvQ, and the list told is the def's own -/
def EvL (K : PySem.W.Frag) (av : List Addr) (H0 : Hp) (σ : L2.St) (t : TE) (ds : List PyData) : Prop :=
  ∀ H, Same H0 H → ∀ Q : VK, (∀ a xs H', Same H H' → H' a = some (.lst xs) → a ∉ av → DqAll K (wos av H') xs ds → Q (.ref a) H') → t σ H Q
def cutD (ds : List PyData) (lo hi : Option Int) : List PyData := (ds.drop (HT.sIx ds.length 0 lo)).take (HT.sIx ds.length ds.length hi - HT.sIx ds.length 0 lo)
theorem smallN {n : Nat} (h : n ≤ 10000) : n ≤ sizeLine := by
  rw [sizeLine_eq]
  omega
section
variable {K : PySem.W.Frag} {av : List Addr} {H0 : Hp} {σ : L2.St} {t t1 t2 : TE} {ta : TA} {tl th : TO} {lo hi : Option Int} {d : PyData} {ds es : List PyData}
theorem DqAll.cutD {H : Hp} {vs : List V} (h : DqAll K H vs ds) : DqAll K H (cutV vs lo hi) (My.cutD ds lo hi) := by
  unfold cutV My.cutD
  rw [h.len]
  exact DqAll.take _ (DqAll.drop _ h)
theorem SmAll.cutD {W D : Nat} (h : SmAll W D ds) : SmAll W D (My.cutD ds lo hi) := SmAll.take _ (SmAll.drop _ h)
theorem Dq.un_tup {H : Hp} {v : V} (h : Dq K H v (.tuple ds)) : ∃ a xs, v = .ref a ∧ SqT K H a xs ∧ DqAll K H xs ds := by
  cases h with
  | tup h t => exact ⟨_, _, rfl, h, t⟩
theorem Dq.un_lst {H : Hp} {v : V} (h : Dq K H v (.list ds)) : ∃ a xs, v = .ref a ∧ SqL K H a xs ∧ DqAll K H xs ds := by
  cases h with
  | lst h t => exact ⟨_, _, rfl, h, t⟩
theorem EvL.lst (hp : Avs av H0) (r : EvA K av H0 σ ta ds) (hl : ds.length ≤ 1000) : EvL K av H0 σ (tLst ta) ds := fun H s Q q => by
  refine r H s _ fun xs H1 s1 hxs => ⟨by rw [hxs.len, sizeLine_eq]; omega, fun a ha => q a xs _ (s1.trans (My.Same.new ha)) upd_same ?_ (DqAll.same (My.Same.wos (My.Same.new ha)) hxs)⟩
  exact (hp.same (s.trans s1)).fresh ha
theorem EvL.q (h : EvL K av H0 σ t ds) : EvQ K av H0 σ t (.list ds) := fun H s Q q =>
  h H s _ fun a xs H' s' e n hx => q _ _ s' (.lst (SqL.of ((wos_in n).trans e)) hx)
theorem EvL.var {i : Nat} {a : Addr} {xs : List V} (e : σ[i]? = some (some (.ref a))) (h : H0 a = some (.lst xs)) (n : a ∉ av) (hx : DqAll K (wos av H0) xs ds) : EvL K av H0 σ (tVar i) ds := fun H s Q q =>
  ⟨_, e, q a xs H (fun _ _ e => e) (s _ _ h) n (DqAll.same (My.Same.wos s) hx)⟩
theorem EvL.cat (hp : Avs av H0) (h1 : EvL K av H0 σ t1 ds) (h2 : EvL K av H0 σ t2 es) (hl : ds.length + es.length ≤ 10000) : EvL K av H0 σ (tOp rCat t1 t2) (ds ++ es) := fun H s Q q => by
  refine h1 H s _ fun a xs H1 s1 e1 n1 hx => h2 H1 (s.trans s1) _ fun b ys H2 s2 e2 n2 hy => ⟨a, b, xs, ys, rfl, rfl, s2 _ _ e1, e2, ?_, fun c hc => ?_⟩
  · rw [hx.len, hy.len]
    exact smallN hl
  · have t3 := My.Same.new (o := HO.lst (xs ++ ys)) hc
    have n3 := (hp.same (s.trans (s1.trans s2))).fresh hc
    exact q c _ _ (s1.trans (s2.trans t3)) upd_same n3 (DqAll.append (DqAll.same (My.Same.wos (s2.trans t3)) hx) (DqAll.same (My.Same.wos t3) hy))
theorem EvQ.slT (hp : Avs av H0) (he : EvQ K av H0 σ t (.tuple ds)) (hl : ∀ (H : Hp) (Q : Option Int → Hp → Prop), Q lo H → tl σ H Q) (hh : ∀ (H : Hp) (Q : Option Int → Hp → Prop), Q hi H → th σ H Q) :
    EvQ K av H0 σ (tSl (rSlA K) t tl th) (.tuple (cutD ds lo hi)) := fun H s Q q => by
  refine he H s _ fun x H1 s1 hx => hl _ _ (hh _ _ ?_)
  obtain ⟨a, xs, rfl, hT, hxs⟩ := hx.un_tup
  by_cases hw : HT.sIx xs.length 0 lo = 0 ∧ HT.sIx xs.length xs.length hi = xs.length
  · refine ⟨a, xs, rfl, My.Same.sqt wos_le hT, fun _ => q _ _ s1 (.tup hT ?_), fun z => absurd hw z⟩
    have := DqAll.cutD (lo := lo) (hi := hi) hxs
    rw [cutV_whole hw] at this
    exact this
  · refine ⟨a, xs, rfl, My.Same.sqt wos_le hT, fun z => absurd z hw, fun _ b hb => ?_⟩
    have t3 := My.Same.new (o := HO.tup (cutV xs lo hi)) hb
    have n3 := (hp.same (s.trans s1)).fresh hb
    exact q _ _ (s1.trans t3) (.tup (SqT.of ((wos_in n3).trans upd_same)) (DqAll.same (My.Same.wos t3) (DqAll.cutD hxs)))
theorem EvQ.catT (hp : Avs av H0) (h1 : EvQ K av H0 σ t1 (.tuple ds)) (h2 : EvQ K av H0 σ t2 (.tuple es)) (hl : ds.length + es.length ≤ 10000) : EvQ K av H0 σ (tOp (rCatA K) t1 t2) (.tuple (ds ++ es)) := fun H s Q q => by
  refine h1 H s _ fun x H1 s1 hx => h2 H1 (s.trans s1) _ fun y H2 s2 hy => ?_
  obtain ⟨a, xs, rfl, hT, hxs⟩ := (Dq.same (My.Same.wos s2) hx).un_tup
  obtain ⟨b, ys, rfl, hT2, hys⟩ := hy.un_tup
  refine ⟨a, b, xs, ys, rfl, rfl, My.Same.sqt wos_le hT, My.Same.sqt wos_le hT2, by rw [hxs.len, hys.len]; exact smallN hl, fun z => ?_, fun z1 z2 => ?_, fun z1 z2 c hc => ?_⟩
  · subst z
    cases hxs
    exact q _ _ (s1.trans s2) (.tup hT2 hys)
  · subst z2
    cases hys
    rw [List.append_nil] at *
    exact q _ _ (s1.trans s2) (.tup hT hxs)
  · have t3 := My.Same.new (o := HO.tup (xs ++ ys)) hc
    have n3 := (hp.same (s.trans (s1.trans s2))).fresh hc
    exact q _ _ (s1.trans (s2.trans t3)) (.tup (SqT.of ((wos_in n3).trans upd_same)) (DqAll.same (My.Same.wos t3) (DqAll.append hxs hys)))
theorem EvQ.backT (hp : Avs av H0) (h : EvQ K av H0 σ t (.tuple ds)) : EvQ K av H0 σ (tBackT K t) (.tuple ds.reverse) := fun H s Q q => by
  refine h H s _ fun x H1 s1 hx => ?_
  obtain ⟨a, xs, rfl, hT, hxs⟩ := hx.un_tup
  refine ⟨a, xs, rfl, My.Same.sqt wos_le hT, fun b hb => ?_⟩
  have t3 := My.Same.new (o := HO.tup xs.reverse) hb
  have n3 := (hp.same (s.trans s1)).fresh hb
  exact q _ _ (s1.trans t3) (.tup (SqT.of ((wos_in n3).trans upd_same)) (DqAll.same (My.Same.wos t3) (DqAll.reverse hxs)))
theorem EvL.listOf (hp : Avs av H0) (h : EvQ K av H0 σ t (.tuple ds)) : EvL K av H0 σ (tCB (rListOf K) (tCons t tNil)) ds := fun H s Q q => by
  refine h H s _ fun x H1 s1 hx => ?_
  obtain ⟨a, xs, rfl, hT, hxs⟩ := hx.un_tup
  refine ⟨a, xs, rfl, .inr (My.Same.sqt wos_le hT), fun b hb => ?_⟩
  have t3 := My.Same.new (o := HO.lst xs) hb
  have n3 := (hp.same (s.trans s1)).fresh hb
  exact q b xs _ (s1.trans t3) upd_same n3 (DqAll.same (My.Same.wos t3) hxs)
theorem EvQ.tupleOf (hp : Avs av H0) (h : EvQ K av H0 σ t (.list ds)) : EvQ K av H0 σ (tCB (rTupleOf K) (tCons t tNil)) (.tuple ds) := fun H s Q q => by
  refine h H s _ fun x H1 s1 hx => ?_
  obtain ⟨a, xs, rfl, hL, hxs⟩ := hx.un_lst
  refine ⟨a, xs, rfl, .inl ⟨wos_le.seq hL, fun b hb => ?_⟩⟩
  have t3 := My.Same.new (o := HO.tup xs) hb
  have n3 := (hp.same (s.trans s1)).fresh hb
  exact q _ _ (s1.trans t3) (.tup (SqT.of ((wos_in n3).trans upd_same)) (DqAll.same (My.Same.wos t3) hxs))
/-- sorted(t): the pairs in some order -/
theorem EvQ.sortP (hp : Avs av H0) (h : EvQ K av H0 σ t (.tuple ds)) (hd : ∀ d ∈ ds, ∃ i j : Int, d = .tuple [.int i, .int j]) :
    ∀ H, Same H0 H → ∀ Q : VK, (∀ a xs fs H', fs.Perm ds → Same H H' → H' a = some (.lst xs) → a ∉ av → DqAll K (wos av H') xs fs → Q (.ref a) H') → tCB (rSortTP K) (tCons t tNil) σ H Q := fun H s Q q => by
  refine h H s _ fun x H1 s1 hx => ?_
  obtain ⟨a, xs, rfl, hT, hxs⟩ := hx.un_tup
  refine ⟨a, xs, rfl, My.Same.sqt wos_le hT, fun y hy => ?_, fun ys b hperm hb => ?_⟩
  · obtain ⟨i, hi, e⟩ := List.getElem_of_mem hy
    obtain ⟨d, hd', hq⟩ := hxs.mem (List.getElem?_eq_some_iff.mpr ⟨hi, e⟩)
    obtain ⟨i, j, rfl⟩ := hd d hd'
    obtain ⟨t, zs, rfl, hT2, hz⟩ := hq.un_tup
    cases hz with
    | cons h1 hz =>
    cases hz with
    | cons h2 hz =>
    cases hz
    cases h1
    cases h2
    exact ⟨t, i, j, rfl, My.Same.sqt wos_le hT2⟩
  · obtain ⟨fs, f1, f2⟩ := DqAll.perm hperm hxs
    have t3 := My.Same.new (o := HO.lst ys) hb
    have n3 := (hp.same (s.trans s1)).fresh hb
    exact q b ys fs _ f1 (s1.trans t3) upd_same n3 (DqAll.same (My.Same.wos t3) f2)
/-- [.. for .. in t], t a tuple: each item tells its data -/
theorem EvL.lc {g : TG} {te : TE} {vs : List Nat} {F : PyData → PyData} (hp : Avs av H0) (h : EvQ K av H0 σ t (.tuple ds)) (hl : ds.length ≤ 10000)
    (hs : ∀ d ∈ ds, ∀ (x : V) (av' : List Addr) (H1 : Hp), (∀ b ∈ av, b ∈ av') → Avs av' H1 → Dq K (wos av' H1) x d → ∀ R : V → Hp → Prop, (∀ y H', Same H1 H' → Dq K (wos av' H') y (F d) → R y H') → g x (wipe σ vs) H1 fun σ2 H2 => wipe σ2 vs = wipe σ vs ∧ tYes σ2 H2 fun b H3 => if b = true then te σ2 H3 R else False) :
    EvL K av H0 σ (tLc (iTup K t) g tYes te vs) (ds.map F) := fun H s Q q => by
  refine h H s _ fun x H1 s1 hx => ?_
  obtain ⟨a, xs, rfl, hT, hxs⟩ := hx.un_tup
  refine ⟨a, rfl, ⟨xs, My.Same.sqt wos_le hT⟩, fun D hD => ?_⟩
  have hlen := hxs.len
  have hp1 := hp.same (s.trans s1)
  have nD := hp1.fresh hD
  refine lc_tup (xs := xs) (fun j H3 => Same H1 H3 ∧ ∃ us, H3 D = some (.lst us) ∧ DqAll K (wos (D :: av) H3) us ((ds.take j).map F)) ?_ (fun j H3 _ hP => My.Same.sqt hP.1 (My.Same.sqt wos_le hT)) ?_ ?_
  · exact ⟨My.Same.new hD, [], upd_same, .nil⟩
  · rintro i x H3 ex ⟨s3, us, eD, hus⟩
    obtain ⟨d, ed, hd⟩ := hxs.get ex
    have hav3 : Avs (D :: av) H3 := fun b hb => by
      rcases List.mem_cons.mp hb with rfl | hb
      · exact ⟨_, eD⟩
      · exact hp1.same s3 b hb
    have hmore : Same (wos av H1) (wos (D :: av) H3) := fun b o e => by
      obtain ⟨n, e⟩ := wos_some e
      have nb : b ≠ D := fun z => by
        rw [z, hD] at e
        cases e
      rw [wos_in (by rw [List.mem_cons, not_or]; exact ⟨nb, n⟩)]
      exact s3 _ _ e
    have hh := hs d (List.mem_of_getElem? ed) x (D :: av) H3 (fun b hb => List.mem_cons_of_mem _ hb) hav3 (Dq.same hmore hd) (fun y H4 => ∃ acc, H4 D = some (.lst acc) ∧ acc.length < sizeLine ∧ (Same H1 (upd H4 D (.lst (acc ++ [y]))) ∧ ∃ us, (upd H4 D (.lst (acc ++ [y]))) D = some (.lst us) ∧ DqAll K (wos (D :: av) (upd H4 D (.lst (acc ++ [y])))) us ((ds.take (i + 1)).map F))) (fun y H4 s4 hy => ?_)
    · exact hh
    · have hul := hus.len
      rw [List.length_map, List.length_take] at hul
      have k3 : Same (wos (D :: av) H4) (wos (D :: av) (upd H4 D (.lst (us ++ [y])))) := fun b o e => by
        obtain ⟨n, e⟩ := wos_some e
        rw [wos_in n, upd_ne (fun z => n (by rw [z]; exact List.mem_cons_self))]
        exact e
      refine ⟨us, s4 _ _ eD, ?_, My.Same.updD (s3.trans s4) hD, us ++ [y], upd_same, ?_⟩
      · have := smallN hl
        rw [sizeLine_eq] at *
        omega
      · rw [List.take_add_one, ed, List.map_append]
        exact DqAll.append (DqAll.same ((My.Same.wos s4).trans k3) hus) (.cons (Dq.same k3 hy) .nil)
  · rintro H3 ⟨s3, us, eD, hus⟩
    rw [hlen, List.take_length] at hus
    refine q D us H3 (s1.trans s3) eD nD (DqAll.same (fun b o e => ?_) hus)
    obtain ⟨n, e⟩ := wos_some e
    rw [List.mem_cons, not_or] at n
    rw [wos_in n.2]
    exact e
end
theorem tAsg_e {te : TE} {g : TG} {D : Ends} {σ : L2.St} {H : Hp} (h : te σ H fun x H1 => g x σ H1 D.nx) : tAsg te g D σ H := h
theorem tOp_e {r : R2} {ta tb : TE} {σ : L2.St} {H : Hp} {Q : VK} (h : ta σ H fun x H1 => tb σ H1 fun y H2 => r x y H2 Q) : tOp r ta tb σ H Q := h
theorem tCons_e {ta : TE} {tr : TA} {σ : L2.St} {H : Hp} {Q : List V → Hp → Prop} (h : ta σ H fun x H1 => tr σ H1 fun xs H2 => Q (x :: xs) H2) : tCons ta tr σ H Q := h
theorem tCB1_e {r : List V → Hp → VK → Prop} {t : TE} {σ : L2.St} {H : Hp} {Q : VK} (h : t σ H fun x H1 => r [x] H1 Q) : tCB r (tCons t tNil) σ H Q := h
theorem tTup_e {ta : TA} {σ : L2.St} {H : Hp} {Q : VK} (h : ta σ H fun xs H1 => xs.length ≤ sizeLine ∧ ∀ p, H1 p = none → Q (.ref p) (upd H1 p (.tup xs))) : tTup ta σ H Q := h
section
variable {K : PySem.W.Frag} {av : List Addr} {H : Hp} {Q : VK} {x y : V} {xs : List V} {ds es : List PyData}
theorem tupV (hp : Avs av H) (hx : DqAll K (wos av H) xs ds) (hl : ds.length ≤ 10000) (q : ∀ z H', Same H H' → Dq K (wos av H') z (.tuple ds) → Q z H') : xs.length ≤ sizeLine ∧ ∀ p, H p = none → Q (.ref p) (upd H p (.tup xs)) := by
  refine ⟨by rw [hx.len]; exact smallN hl, fun b hb => ?_⟩
  have t3 := My.Same.new (o := HO.tup xs) hb
  have n3 := hp.fresh hb
  exact q _ _ t3 (.tup (SqT.of ((wos_in n3).trans upd_same)) (DqAll.same (My.Same.wos t3) hx))
theorem catV (hp : Avs av H) (hx : Dq K (wos av H) x (.tuple ds)) (hy : Dq K (wos av H) y (.tuple es)) (hl : ds.length + es.length ≤ 10000) (q : ∀ z H', Same H H' → Dq K (wos av H') z (.tuple (ds ++ es)) → Q z H') : rCatA K x y H Q :=
  (EvQ.catT (σ := []) hp (EvQ.c hx) (EvQ.c hy) hl) H (fun _ _ e => e) Q q
end
theorem smPairs : ∀ T : List (Int × Int), (∀ t ∈ T, (0 ≤ t.1 ∧ t.1 < 12) ∧ 0 ≤ t.2 ∧ t.2 < 12) → SmAll (3 * T.length) 1 (T.map fun t => tI (prI t))
  | [], _ => (SmAll.nil (D := 1)).mono (Nat.zero_le _) (Nat.le_refl _)
  | t :: T, h => by
    have h1 := h t List.mem_cons_self
    have i1 : Sm 0 0 (.int t.1) := Sm.int (by omega)
    have i2 : Sm 0 0 (.int t.2) := Sm.int (by omega)
    exact (SmAll.cons (SmAll.tuple (SmAll.cons i1 (SmAll.cons i2 SmAll.nil))) (smPairs T fun t ht => h t (List.mem_cons_of_mem _ ht))).mono (by rw [List.length_cons]; omega) (Nat.le_refl _)
/-- a pair turned about -/
def turnD : PyData → PyData
  | .tuple [a, b] => .tuple [b, a]
  | d => d
/-- a tuple as a list -/
def listD : PyData → PyData
  | .tuple ds => .list ds
  | d => d
theorem SmAll.mapF {F : PyData → PyData} {D : Nat} : ∀ {ds : List PyData} {W : Nat}, (∀ d ∈ ds, ∀ w, Sm w D d → Sm w D (F d)) → SmAll W D ds → SmAll W D (ds.map F)
  | [], _, _, h => h
  | d :: ds, W, hF, h => by
    obtain ⟨w, w', hw, h1, h2⟩ := h.uncons
    exact (SmAll.cons (hF d List.mem_cons_self w h1) (SmAll.mapF (fun e he => hF e (List.mem_cons_of_mem _ he)) h2)).mono hw (Nat.le_refl _)
theorem Sm.turn {W D : Nat} {a b : PyData} (h : Sm W (D + 1) (.tuple [a, b])) : Sm W (D + 1) (turnD (.tuple [a, b])) := SmAll.tuple (SmAll.perm (.swap ..) (Sm.items h))
theorem Sm.listD {W D : Nat} {ds : List PyData} (h : Sm W (D + 1) (.tuple ds)) : Sm W (D + 1) (listD (.tuple ds)) := SmAll.list (Sm.items h)
theorem tSeq_e {t u : TS} {D : Ends} {σ : L2.St} {H : Hp} (h : t { D with nx := u D } σ H) : tSeq t u D σ H := h
theorem tTup1 {K : PySem.W.Frag} {av : List Addr} {t : TE} {σ : L2.St} {H : Hp} {Q : VK} (h : t σ H fun x H1 => Avs av H1 ∧ ∃ d, Dq K (wos av H1) x d ∧ ∀ z H', Same H1 H' → Dq K (wos av H') z (.tuple [d]) → Q z H') (hm : ∀ (R R' : VK), (∀ x H1, R x H1 → R' x H1) → t σ H R → t σ H R') : tTup (tCons t tNil) σ H Q :=
  hm _ _ (fun x H1 ⟨hp, d, hx, q⟩ => tupV (ds := [d]) hp (.cons hx .nil) (by simp) q) h
end My

set_option Elab.async false
set_option linter.all false
set_option maxRecDepth 100000
set_option maxHeartbeats 4000000
namespace My
open PySem PySem.Spec PyProof.Rows L2

/-! ### what values are: whole numbers, places, ties, webs, lots -/
def wholeD : PyData → Bool
  | .int _ => true
  | _ => false
def placeD (n : Int) : PyData → Bool
  | .int i => decide (0 ≤ i) && decide (i < n)
  | _ => false
def ltD : PyData → PyData → Bool
  | .int a, .int b => decide (a < b)
  | .tuple [.int a, .int b], .tuple [.int c, .int d] => HT.lexLt [a, b] [c, d]
  | _, _ => false
def upsD (ds : List PyData) : List Bool := (ds.zip (ds.drop 1)).map fun p => ltD p.1 p.2
def tieD (n : Int) : PyData → Bool
  | .tuple [.int a, .int b] => placeD n (.int a) && placeD n (.int b) && decide (a < b)
  | _ => false
def lotD (n : Int) : PyData → Bool
  | .tuple ds => ds.all (placeD n) && (upsD ds).all id
  | _ => false
def isWebD : PyData → Bool
  | .tuple [.int n, .tuple ts] => decide (1 ≤ n) && decide (n ≤ 12) && ts.all (tieD n) && (upsD ts).all id
  | _ => false
theorem wholeD_kd {d : PyData} : wholeD d = ((kd d).is .int && !(kd d).is .bl) := by cases d <;> rfl
theorem wholeD_int {d : PyData} (h : wholeD d = true) : ∃ i, d = .int i := by
  cases d with
  | int i => exact ⟨i, rfl⟩
  | _ => cases h
theorem placeD_whole {n : Int} {d : PyData} (h : wholeD d = false) : placeD n d = false := by
  cases d with
  | int i => cases h
  | _ => rfl
/-- < of whole numbers and of tuples of them -/
def rLtU (K : PySem.W.Frag) : R2 := fun x y H Q => (∃ i j, x = .int i ∧ y = .int j ∧ Q (.bl (decide (i < j))) H) ∨ rLtT K x y H Q
theorem ltU {X : Cx} (K : PySem.W.Frag) (hu : X.A.units < cLine) (h : X.K = K := by rfl) : OpR X (compareOp .Lt) (rLtU K) := by
  intro pins s σ H x y v u Q I rx ry q
  rcases q with q | q
  · exact op_lt pins s σ H x y v u Q I rx ry q
  · exact ltT K hu h pins s σ H x y v u Q I rx ry q
def spWhole (K : PySem.W.Frag) : Sp := fun vs H Q _ => ∃ (v : V) (d : PyData), vs = [v] ∧ Dq K H v d ∧ ∀ H', Same H H' → Q (.bl (wholeD d)) H'
def spPlace (K : PySem.W.Frag) : Sp := fun vs H Q _ => ∃ (n : Int) (v : V) (d : PyData), vs = [.int n, v] ∧ Dq K H v d ∧ ∀ H', Same H H' → Q (.bl (placeD n d)) H'
def IntsD (ds : List PyData) : Prop := ∀ d ∈ ds, ∃ i : Int, d = .int i
def PairsD (ds : List PyData) : Prop := ∀ d ∈ ds, ∃ i j : Int, d = .tuple [.int i, .int j]
def spAsc (K : PySem.W.Frag) : Sp := fun vs H Q _ => ∃ (t : Addr) (xs : List V) (ds : List PyData), vs = [.ref t] ∧ SqT K H t xs ∧ DqAll K H xs ds ∧ ds.length ≤ 10000 ∧ (IntsD ds ∨ PairsD ds) ∧ ∀ H', Same H H' → Q (.bl ((upsD ds).all id)) H'
def spTie (K : PySem.W.Frag) : Sp := fun vs H Q _ => ∃ (n : Int) (v : V) (d : PyData), vs = [.int n, v] ∧ Dq K H v d ∧ ∀ H', Same H H' → Q (.bl (tieD n d)) H'
def spIsLot (K : PySem.W.Frag) : Sp := fun vs H Q _ => ∃ (n : Int) (v : V) (d : PyData) (W D : Nat), vs = [.int n, v] ∧ Dq K H v d ∧ Sm W D d ∧ W ≤ 10000 ∧ ∀ H', Same H H' → Q (.bl (lotD n d)) H'
def spIsWeb (K : PySem.W.Frag) : Sp := fun vs H Q _ => ∃ (v : V) (d : PyData) (W D : Nat), vs = [v] ∧ Dq K H v d ∧ Sm W D d ∧ W ≤ 10000 ∧ ∀ H', Same H H' → Q (.bl (isWebD d)) H'
theorem cut_one {xs : List V} : cutV xs (some 1) none = xs.drop 1 := by
  unfold cutV
  cases xs with
  | nil => simp
  | cons x xs =>
    have e1 : HT.sIx (x :: xs).length 0 (some 1) = 1 := by
      simp [HT.sIx]
      try omega
    have e2 : HT.sIx (x :: xs).length (x :: xs).length none = (x :: xs).length := rfl
    rw [e1, e2]
    refine List.take_of_length_le ?_
    rw [List.length_drop]
    exact Nat.le_refl _
theorem upsD_len {ds : List PyData} : (upsD ds).length = ds.length - 1 := by
  unfold upsD
  rw [List.length_map, List.length_zip, List.length_drop]
  omega
theorem upsD_get {ds : List PyData} {i : Nat} {d e : PyData} (h1 : ds[i]? = some d) (h2 : (ds.drop 1)[i]? = some e) : (upsD ds)[i]? = some (ltD d e) := by
  unfold upsD
  have z : (ds.zip (ds.drop 1))[i]? = some (d, e) := List.getElem?_zip_eq_some.mpr ⟨h1, h2⟩
  rw [List.getElem?_map, z]
  rfl
/-- what each item tells of the next one, one after another -/
def UpsAt (H1 : Hp) (D : Addr) (ds : List PyData) (i : Nat) (H3 : Hp) : Prop := Same H1 H3 ∧ H3 D = some (.lst (((upsD ds).take i).map V.bl))
theorem UpsAt.next {H1 H3 H4 : Hp} {D : Addr} {ds : List PyData} {i : Nat} {d e : PyData} (h : UpsAt H1 D ds i H3) (hD : H1 D = none) (s : Same H3 H4) (h1 : ds[i]? = some d) (h2 : (ds.drop 1)[i]? = some e) (hl : ds.length ≤ 10000) :
    ∃ acc, H4 D = some (.lst acc) ∧ acc.length < sizeLine ∧ UpsAt H1 D ds (i + 1) (upd H4 D (.lst (acc ++ [V.bl (ltD d e)]))) := by
  refine ⟨_, s _ _ h.2, ?_, My.Same.updD (h.1.trans s) hD, ?_⟩
  · rw [List.length_map, List.length_take, upsD_len, sizeLine_eq]
    omega
  · rw [upd_same, List.take_add_one, upsD_get h1 h2, List.map_append]
    rfl
theorem UpsAt.all {H1 H3 : Hp} {D : Addr} {ds : List PyData} {i : Nat} (h : UpsAt H1 D ds i H3) (hi : ds.length - 1 ≤ i) : H3 D = some (.lst ((upsD ds).map V.bl)) := by
  have := h.2
  rw [List.take_of_length_le (by rw [upsD_len]; exact hi)] at this
  exact this
theorem ltU_data {K : PySem.W.Frag} {H : Hp} {x y : V} {d e : PyData} {Q : VK} (hk : (∃ i j : Int, d = .int i ∧ e = .int j) ∨ (∃ a b c f : Int, d = .tuple [.int a, .int b] ∧ e = .tuple [.int c, .int f])) (hx : Dq K H x d) (hy : Dq K H y e) (q : Q (.bl (ltD d e)) H) : rLtU K x y H Q := by
  rcases hk with ⟨i, j, rfl, rfl⟩ | ⟨a, b, c, f, rfl, rfl⟩
  · cases hx
    cases hy
    exact .inl ⟨i, j, rfl, rfl, q⟩
  · obtain ⟨t1, zs, rfl, hT, hz⟩ := hx.un_tup
    obtain ⟨t2, zs2, rfl, hT2, hz2⟩ := hy.un_tup
    cases hz with
    | cons h1 hz =>
    cases hz with
    | cons h2 hz =>
    cases hz
    cases hz2 with
    | cons g1 hz2 =>
    cases hz2 with
    | cons g2 hz2 =>
    cases hz2
    cases h1
    cases h2
    cases g1
    cases g2
    exact .inr ⟨t1, t2, [a, b], [c, f], rfl, rfl, hT, hT2, q⟩
/-- a list of truths grows -/
def BsAt (H1 : Hp) (D : Addr) (bs : List Bool) (i : Nat) (H3 : Hp) : Prop := Same H1 H3 ∧ H3 D = some (.lst ((bs.take i).map V.bl))
theorem BsAt.start {H1 : Hp} {D : Addr} {bs : List Bool} (hD : H1 D = none) : BsAt H1 D bs 0 (upd H1 D (.lst [])) := ⟨My.Same.new hD, upd_same⟩
theorem BsAt.next {H1 H3 H4 : Hp} {D : Addr} {bs : List Bool} {i : Nat} {b : Bool} (h : BsAt H1 D bs i H3) (hD : H1 D = none) (s : Same H3 H4) (hb : bs[i]? = some b) (hl : bs.length ≤ 10000) :
    ∃ acc, H4 D = some (.lst acc) ∧ acc.length < sizeLine ∧ BsAt H1 D bs (i + 1) (upd H4 D (.lst (acc ++ [V.bl b]))) := by
  refine ⟨_, s _ _ h.2, ?_, My.Same.updD (h.1.trans s) hD, ?_⟩
  · rw [List.length_map, List.length_take, sizeLine_eq]
    omega
  · rw [upd_same, List.take_add_one, hb, List.map_append]
    rfl
theorem BsAt.all {H1 H3 : Hp} {D : Addr} {bs : List Bool} {i : Nat} (h : BsAt H1 D bs i H3) (hi : bs.length ≤ i) : H3 D = some (.lst (bs.map V.bl)) := by
  have := h.2
  rw [List.take_of_length_le hi] at this
  exact this
theorem map_get {ds : List PyData} {F : PyData → Bool} {i : Nat} {d : PyData} (h : ds[i]? = some d) : (ds.map F)[i]? = some (F d) := by
  rw [List.getElem?_map, h]
  rfl
theorem all_map {ds : List PyData} {F : PyData → Bool} : (ds.map F).all id = ds.all F := by
  rw [List.all_map]
  rfl
theorem placeD_ints {n : Int} {ds : List PyData} (h : ds.all (placeD n) = true) : IntsD ds := fun d hd => by
  have := List.all_eq_true.mp h d hd
  cases d with
  | int i => exact ⟨i, rfl⟩
  | _ => cases this
theorem tieD_pair {n : Int} {d : PyData} (h : tieD n d = true) : ∃ i j : Int, d = .tuple [.int i, .int j] := by
  unfold tieD at h
  split at h
  · exact ⟨_, _, rfl⟩
  · cases h
theorem tieD_pairs {n : Int} {ds : List PyData} (h : ds.all (tieD n) = true) : PairsD ds := fun d hd => tieD_pair (List.all_eq_true.mp h d hd)
theorem inV_false : ∀ bs : List Bool, inV (.bl false) (bs.map V.bl) = !(bs.all id) ∧ (bs.map V.bl).all flatV = true
  | [] => ⟨rfl, rfl⟩
  | b :: bs => by
    obtain ⟨h1, h2⟩ := inV_false bs
    refine ⟨?_, ?_⟩
    · have e : inV (.bl false) ((b :: bs).map V.bl) = (eqV (.bl b) (.bl false) || inV (.bl false) (bs.map V.bl)) := rfl
      rw [e, h1]
      cases b <;> rfl
    · rw [List.map_cons, List.all_cons, h2]
      rfl
theorem tieD_lot {n : Int} {ds : List PyData} : tieD n (.tuple ds) = (lotD n (.tuple ds) && decide (ds.length = 2)) := by
  match ds with
  | [] => rfl
  | [d0] => cases d0 <;> simp [tieD]
  | [d1, d2] =>
    cases d1 <;> cases d2 <;> simp [tieD, lotD, placeD, upsD, ltD]
  | d0 :: d1 :: d2 :: ds => cases d0 <;> cases d1 <;> simp [tieD]
theorem tieD_no {n : Int} {d : PyData} (h : lotD n d = false) : tieD n d = false := by
  cases d with
  | tuple ds => rw [tieD_lot, h]; rfl
  | _ => rfl
theorem ltI_data {K : PySem.W.Frag} {H : Hp} {x y : V} {d e : PyData} {Q : VK} (hk : ∃ i j : Int, d = .int i ∧ e = .int j) (hx : Dq K H x d) (hy : Dq K H y e) (q : Q (.bl (ltD d e)) H) : rI0 (fun i j => V.bl (decide (i < j))) x y H Q := by
  obtain ⟨i, j, rfl, rfl⟩ := hk
  cases hx
  cases hy
  exact ⟨i, j, rfl, rfl, q⟩
theorem ltT_data {K : PySem.W.Frag} {H : Hp} {x y : V} {d e : PyData} {Q : VK} (hk : ∃ a b c f : Int, d = .tuple [.int a, .int b] ∧ e = .tuple [.int c, .int f]) (hx : Dq K H x d) (hy : Dq K H y e) (q : Q (.bl (ltD d e)) H) : rLtT K x y H Q := by
  rcases ltU_data (.inr hk) hx hy q with ⟨i, j, rfl, rfl, _⟩ | h
  · obtain ⟨a, b, c, f, rfl, rfl⟩ := hk
    cases hx
  · exact h
theorem Sm.len {W D : Nat} {ds : List PyData} (sm : Sm W D (.tuple ds)) (hW : W ≤ 10000) : ds.length ≤ 10000 := by
  obtain ⟨_, _, h3, _⟩ := sm
  have : PyData.bulkAll ds ≤ W := by simpa only [PyData.bulk] using h3
  have l2 : ∀ ds : List PyData, ds.length ≤ PyData.bulkAll ds := fun ds => by
    induction ds with
    | nil => exact Nat.zero_le _
    | cons d ds ih =>
      simp only [PyData.bulkAll, List.length_cons]
      omega
  have := l2 ds
  omega
theorem Sm.item {W D : Nat} {ds : List PyData} {d : PyData} (sm : Sm W D (.tuple ds)) (h : d ∈ ds) : Sm W D d := by
  cases D with
  | zero =>
    have := sm.2.2.2
    simp only [PyData.depth] at this
    omega
  | succ D => exact ((Sm.items sm).mem h).mono (Nat.le_refl _) (Nat.le_succ _)
end My

set_option Elab.async false
set_option linter.all false
set_option maxRecDepth 100000
set_option maxHeartbeats 4000000
namespace My
open PySem PySem.Spec PyProof.Rows L2 SrtO

/-! ### sorted(t), t a tuple of whole numbers -/
section
variable {prog : Program} {w : World} {A : Around} {E : Value → Shared → Prop} {s : Shared}
theorem sorted_otup {l : Addr} {vs : List Value} {ltv : Value → Value → Bool} {Q : Value → Shared → Prop} (O : Swo ltv) (hl : s.heap.IsTuple l vs.toArray) (hz : vs.length ≤ sizeLine)
    (hS : 2 ≤ vs.length → ∀ (h₁ : Heap) (a : Addr), h₁.get? a = some (seqObj "list" vs.toArray 0) → (∀ b o, s.heap.get? b = some o → b ≠ a ∧ h₁.get? b = some o) → SortableO prog w A.in1.in1 { s with heap := h₁ } a vs ltv)
    (h : ∀ out : List Value, Srtd ltv out → Stb ltv out vs → Q (.ref (s.heap.objs.size + 1)) { s with heap := sortedAll s.heap vs out.toArray }) :
    wpAny (model prog w) A (call (.builtin "sorted") [.ref l]) Q E s := by
  refine Calls.call_function_entry kind_sorted plain_sorted entry_sorted (args_sorted1 _) ?_
  unfold Builtin.«sorted»
  refine wpAny_bind (m := checkCount "sorted" 1 1 _) (wpAny_pure ?_)
  refine wpAny_bind (gather_tup hl hz ?_)
  refine wpAny_bind (wpAny_newList ?_ hz)
  have hsz : ((s.heap.push (seqObj "list" #[] 0)).update s.heap.objs.size (Obj.mapSeq (· ++ vs.toArray))).objs.size = s.heap.objs.size + 1 := by
    rw [Heap.size_update, size_push']
  have hoL : (((s.heap.push (seqObj "list" #[] 0)).update s.heap.objs.size (Obj.mapSeq (· ++ vs.toArray))).push (seqObj "list" vs.toArray 0)).get? (s.heap.objs.size + 1) = some (seqObj "list" vs.toArray 0) := by
    rw [← hsz]; exact Heap.get?_push_size _ rfl
  have keep : ∀ b o, s.heap.get? b = some o → b ≠ s.heap.objs.size + 1 ∧ (((s.heap.push (seqObj "list" #[] 0)).update s.heap.objs.size (Obj.mapSeq (· ++ vs.toArray))).push (seqObj "list" vs.toArray 0)).get? b = some o := fun b o q => by
    have hlt : b < s.heap.objs.size := Heap.lt_size q
    refine ⟨Nat.ne_of_lt (Nat.lt_succ_of_lt hlt), Heap.get?_push_of_some _ ?_⟩
    rw [Heap.get?_update_ne _ _ _ _ (Nat.ne_of_lt hlt)]
    exact Heap.get?_push_of_some _ q
  show wpAny _ _ _ _ _ { s with heap := ((s.heap.push (seqObj "list" #[] 0)).update s.heap.objs.size (Obj.mapSeq (· ++ vs.toArray))).push (seqObj "list" vs.toArray 0) }
  rw [hsz]
  refine wpAny_bind (wpAny_holding (wpAny_call_entry slot_list_sort ⟨_, hoL, rfl⟩ entry_list_sort (list_sort_ord O hoL hz (fun h2 => hS h2 _ _ hoL keep) fun out hp hq => ⟨_, rfl, ?_⟩) (args_list_sort _)))
  exact wpAny_pure ⟨_, rfl, h out hp hq⟩
end
def rSortTI (K : PySem.W.Frag) : List V → Hp → VK → Prop := fun vs H Q => ∃ (a : Addr) (ns : List Int), vs = [V.ref a] ∧ SqT K H a (ns.map V.int) ∧ ∀ (ns' : List Int) (p : Addr), ns'.Perm ns → ns'.Pairwise (· ≤ ·) → H p = none → Q (.ref p) (upd H p (.lst (ns'.map V.int)))
theorem cr_sortTI {X : Cx} : CallR X (.builtin "sorted") (rSortTI X.K) := by
  intro pins s σ H vs us Q I r h
  obtain ⟨a, ns, rfl, hs, q⟩ := h
  obtain ⟨its, rv, hl, hz⟩ := I.tuple hs
  rw [Vals.ref1 r]
  have hi := rv.ints
  refine sorted_otup SrtO.swo_int hl (by rw [← rv.length]; exact hz) (fun h2 h₁ a' _ _ => SrtO.ints_sortable hi h2) fun out h1 h2 => ?_
  obtain ⟨k1, k2, k3⟩ := SrtO.ints_out hi h1 h2
  obtain ⟨ep, he'⟩ := PyProof.Rows.sortedAll_at s.heap its out.toArray
  have hlen : ((out.map SrtO.iv).map V.int).length ≤ sizeLine := by
    rw [List.length_map, k2.length_eq]
    rw [List.length_map] at hz
    exact hz
  exact ⟨.ref _, upd H (s.heap.objs.size + 1) (.lst ((out.map SrtO.iv).map V.int)), I.laid (t' := s.toks) (fun _ _ => PyProof.Rows.sortedAll_old) (Nat.le_succ _) ⟨hlen, out, ep, vals_of_ints k1, he'⟩, rfl, q _ _ k2 k3 (I.hok.fresh (Nat.le_succ _))⟩
theorem sortTI {X : Cx} (K : PySem.W.Frag) (h : X.K = K := by rfl) : CallR X (.builtin "sorted") (rSortTI K) := by subst h; exact cr_sortTI

/-! ### a list of small data -/
/-- at a an own list of at most m data, all small -/
def SmL (K : PySem.W.Frag) (av : List Addr) (H : Hp) (a : Addr) (W D m : Nat) : Prop := a ∉ av ∧ ∃ (xs : List V) (ds : List PyData), H a = some (.lst xs) ∧ DqAll K (wos av H) xs ds ∧ (∀ d ∈ ds, Sm W D d) ∧ ds.length ≤ m
theorem SmL.same {K : PySem.W.Frag} {av : List Addr} {H H' : Hp} {a p : Addr} {W D m : Nat} (hp : p ∈ av) (h : SmL K av H a W D m) (s : Same (wo p H) (wo p H')) : SmL K av H' a W D m := by
  obtain ⟨n, xs, ds, e, hx, hs, hl⟩ := h
  have hap : a ≠ p := fun z => n (by rw [z]; exact hp)
  exact ⟨n, xs, ds, (wo_some (s _ _ ((wo_ne hap).trans e))).2, DqAll.same (My.Same.wos_of hp s) hx, hs, hl⟩
theorem SmL.get {K : PySem.W.Frag} {av : List Addr} {H : Hp} {a : Addr} {W D m : Nat} (h : SmL K av H a W D m) : ∃ xs : List V, H a = some (.lst xs) ∧ xs.length ≤ m ∧ ∀ (i : Nat) (x : V), xs[i]? = some x → ∃ d, Dq K (wos av H) x d ∧ Sm W D d := by
  obtain ⟨n, xs, ds, e, hx, hs, hl⟩ := h
  refine ⟨xs, e, by rw [hx.len]; exact hl, fun i x ex => ?_⟩
  obtain ⟨d, hd, hq⟩ := hx.mem ex
  exact ⟨d, hq, hs d hd⟩
theorem SmL.cat {K : PySem.W.Frag} {av : List Addr} {H : Hp} {a b : Addr} {W D m k : Nat} {Q : VK} (hav : Avs av H) (h1 : SmL K av H a W D m) (h2 : SmL K av H b W D k) (hl : m + k ≤ 10000) (q : ∀ z H', Same H H' → SmL K av H' z W D (m + k) → Q (.ref z) H') : rCat (.ref a) (.ref b) H Q := by
  obtain ⟨n1, xs, ds, e1, hx, hs, l1⟩ := h1
  obtain ⟨n2, ys, es, e2, hy, ht, l2⟩ := h2
  refine ⟨a, b, xs, ys, rfl, rfl, e1, e2, by rw [hx.len, hy.len]; exact smallN (by omega), fun z hz => ?_⟩
  have s := My.Same.new (o := HO.lst (xs ++ ys)) hz
  refine q z _ s ⟨hav.fresh hz, xs ++ ys, ds ++ es, upd_same, DqAll.append (DqAll.same (My.Same.wos s) hx) (DqAll.same (My.Same.wos s) hy), fun d hd => ?_, by rw [List.length_append]; omega⟩
  rcases List.mem_append.mp hd with hd | hd
  · exact hs d hd
  · exact ht d hd
/-- [.. for _ in range(n)], each item told by a call that takes from the pen -/
theorem lc_pen {K : PySem.W.Frag} {p c : Addr} {av : List Addr} {te : TE} {σ : L2.St} {H : Hp} {Q : VK} {i n0 n st W D : Nat} (hpav : p ∈ av) (hav : Avs av H) (pen : Pen H p c n0) (hn : n ≤ 100)
    (hs : ∀ (k : Nat) (_ : k < n) (av' : List Addr) (H1 : Hp) (n1 : Nat), (∀ b ∈ av, b ∈ av') → Avs av' H1 → Same (wos av H) (wos av' H1) → Pen H1 p c n1 → n1 ≤ n0 + n * st → ∀ R : VK, (∀ x d H', Dq K (wos av' H') x d → Sm W D d → Pen H' p c (n1 + st) → Same (wo p H1) (wo p H') → R x H') → te ((wipe σ [i]).set i (some (.int k))) H1 R)
    (hw : ∀ k : Nat, wipe ((wipe σ [i]).set i (some (.int k))) [i] = wipe σ [i])
    (q : ∀ a H', SmL K av H' a W D n → Pen H' p c (n0 + n * st) → Same (wo p H) (wo p H') → Q (.ref a) H') : tLc (iRng1 (tCons (tC (V.int n)) tNil)) (gName i) tYes te [i] σ H Q := by
  refine ⟨n, rfl, by omega, by omega, fun D0 hD => ?_⟩
  rw [Int.toNat_natCast]
  have nD := hav.fresh hD
  have npc := Pen.ne pen hD
  have hDw : wo p H D0 = none := wo_none hD
  refine lc_range (fun k H3 => Pen H3 p c (n0 + k * st) ∧ Same (wo p H) (wo p H3) ∧ ∃ (us : List V) (ds : List PyData), H3 D0 = some (.lst us) ∧ DqAll K (wos (D0 :: av) H3) us ds ∧ (∀ d ∈ ds, Sm W D d) ∧ ds.length = k) ?_ ?_ ?_
  · refine ⟨(Pen.upd pen npc).mono (by omega), My.Same.wo (My.Same.new hD), [], [], upd_same, .nil, (fun d hd => nomatch hd), rfl⟩
  · rintro k H3 hk ⟨pen3, s3, us, ds, eD, hus, hds, hl⟩
    have hav3 : Avs (D0 :: av) H3 := fun b hb => by
      rcases List.mem_cons.mp hb with rfl | hb
      · exact ⟨_, eD⟩
      · exact hav.of s3 (Pen.at pen3) b hb
    have hmul : (k + 1) * st = k * st + st := Nat.succ_mul k st
    have hmul2 : k * st ≤ n * st := Nat.mul_le_mul_right st (by omega)
    rw [Int.zero_add]
    refine ⟨hw k, ?_⟩
    show te ((wipe σ [i]).set i (some (.int k))) H3 _
    refine hs k (by omega) (D0 :: av) H3 (n0 + k * st) (fun b hb => List.mem_cons_of_mem _ hb) hav3 (wos_more hpav hDw s3) pen3 (by omega) _ (fun y d H4 hy hd pen4 s4 => ?_)
    have k3 : Same (wos (D0 :: av) H4) (wos (D0 :: av) (upd H4 D0 (.lst (us ++ [y])))) := fun b o e => by
      obtain ⟨n, e⟩ := wos_some e
      rw [wos_in n, upd_ne (fun z => n (by rw [z]; exact List.mem_cons_self))]
      exact e
    refine ⟨us, (wo_some (s4 _ _ ((wo_ne npc.1).trans eD))).2, ?_, (Pen.upd pen4 npc).mono (by omega), wo_updD (s3.trans s4) hDw, us ++ [y], ds ++ [d], upd_same, ?_, fun e he => ?_, by rw [List.length_append, hl]; rfl⟩
    · rw [hus.len, sizeLine_eq]
      omega
    · exact DqAll.append (DqAll.same ((My.Same.wos_of (List.mem_cons_of_mem _ hpav) s4).trans k3) hus) (.cons (Dq.same k3 hy) .nil)
    · rcases List.mem_append.mp he with he | he
      · exact hds e he
      · rw [List.mem_singleton.mp he]
        exact hd
  · rintro H3 ⟨pen3, s3, us, ds, eD, hus, hds, hl⟩
    refine q D0 H3 ⟨nD, us, ds, eD, DqAll.same (fun b o e => ?_) hus, hds, by omega⟩ pen3 s3
    obtain ⟨n, e⟩ := wos_some e
    rw [List.mem_cons, not_or] at n
    rw [wos_in n.2]
    exact e
/-- [.. for _ in range(lo, hi)], each item told by a call that takes from the pen -/
theorem lc_pen2 {K : PySem.W.Frag} {p c : Addr} {av : List Addr} {te : TE} {σ : L2.St} {H : Hp} {Q : VK} {i n0 n st W D : Nat} {lo hi : Int} {ta : TA} (hta : ∀ (H : Hp) (Q : List V → Hp → Prop), Q [.int lo, .int hi] H → ta σ H Q) (hb : 0 ≤ lo ∧ lo ≤ hi ∧ hi ≤ 100) (hn0 : (hi - lo).toNat = n) (hpav : p ∈ av) (hav : Avs av H) (pen : Pen H p c n0) (hn : n ≤ 100)
    (hs : ∀ (k : Nat) (_ : k < n) (av' : List Addr) (H1 : Hp) (n1 : Nat), (∀ b ∈ av, b ∈ av') → Avs av' H1 → Same (wos av H) (wos av' H1) → Pen H1 p c n1 → n1 ≤ n0 + n * st → ∀ R : VK, (∀ x d H', Dq K (wos av' H') x d → Sm W D d → Pen H' p c (n1 + st) → Same (wo p H1) (wo p H') → R x H') → te ((wipe σ [i]).set i (some (.int (lo + k)))) H1 R)
    (hw : ∀ k : Nat, wipe ((wipe σ [i]).set i (some (.int (lo + k)))) [i] = wipe σ [i])
    (q : ∀ a H', SmL K av H' a W D n → Pen H' p c (n0 + n * st) → Same (wo p H) (wo p H') → Q (.ref a) H') : tLc (iRng2 ta) (gName i) tYes te [i] σ H Q := by
  refine hta H _ ⟨lo, hi, rfl, ⟨by omega, by omega, by omega, by omega⟩, fun D0 hD => ?_⟩
  rw [hn0]
  have nD := hav.fresh hD
  have npc := Pen.ne pen hD
  have hDw : wo p H D0 = none := wo_none hD
  refine lc_range (fun k H3 => Pen H3 p c (n0 + k * st) ∧ Same (wo p H) (wo p H3) ∧ ∃ (us : List V) (ds : List PyData), H3 D0 = some (.lst us) ∧ DqAll K (wos (D0 :: av) H3) us ds ∧ (∀ d ∈ ds, Sm W D d) ∧ ds.length = k) ?_ ?_ ?_
  · refine ⟨(Pen.upd pen npc).mono (by omega), My.Same.wo (My.Same.new hD), [], [], upd_same, .nil, (fun d hd => nomatch hd), rfl⟩
  · rintro k H3 hk ⟨pen3, s3, us, ds, eD, hus, hds, hl⟩
    have hav3 : Avs (D0 :: av) H3 := fun b hb => by
      rcases List.mem_cons.mp hb with rfl | hb
      · exact ⟨_, eD⟩
      · exact hav.of s3 (Pen.at pen3) b hb
    have hmul : (k + 1) * st = k * st + st := Nat.succ_mul k st
    have hmul2 : k * st ≤ n * st := Nat.mul_le_mul_right st (by omega)
    refine ⟨hw k, ?_⟩
    show te ((wipe σ [i]).set i (some (.int (lo + k)))) H3 _
    refine hs k (by omega) (D0 :: av) H3 (n0 + k * st) (fun b hb => List.mem_cons_of_mem _ hb) hav3 (wos_more hpav hDw s3) pen3 (by omega) _ (fun y d H4 hy hd pen4 s4 => ?_)
    have k3 : Same (wos (D0 :: av) H4) (wos (D0 :: av) (upd H4 D0 (.lst (us ++ [y])))) := fun b o e => by
      obtain ⟨n, e⟩ := wos_some e
      rw [wos_in n, upd_ne (fun z => n (by rw [z]; exact List.mem_cons_self))]
      exact e
    refine ⟨us, (wo_some (s4 _ _ ((wo_ne npc.1).trans eD))).2, ?_, (Pen.upd pen4 npc).mono (by omega), wo_updD (s3.trans s4) hDw, us ++ [y], ds ++ [d], upd_same, ?_, fun e he => ?_, by rw [List.length_append, hl]; rfl⟩
    · rw [hus.len, sizeLine_eq]
      omega
    · exact DqAll.append (DqAll.same ((My.Same.wos_of (List.mem_cons_of_mem _ hpav) s4).trans k3) hus) (.cons (Dq.same k3 hy) .nil)
    · rcases List.mem_append.mp he with he | he
      · exact hds e he
      · rw [List.mem_singleton.mp he]
        exact hd
  · rintro H3 ⟨pen3, s3, us, ds, eD, hus, hds, hl⟩
    refine q D0 H3 ⟨nD, us, ds, eD, DqAll.same (fun b o e => ?_) hus, hds, by omega⟩ pen3 s3
    obtain ⟨n, e⟩ := wos_some e
    rw [List.mem_cons, not_or] at n
    rw [wos_in n.2]
    exact e
end My

set_option Elab.async false
set_option linter.all false
set_option maxRecDepth 100000
set_option maxHeartbeats 4000000
namespace My
open PySem PySem.Spec PyProof.Rows L2

/-! ### displays in which calls take from the pen -/
def EvAP (K : PySem.W.Frag) (p c : Addr) (av : List Addr) (n0 : Nat) (H0 : Hp) (σ : L2.St) (ta : TA) (W D m st : Nat) : Prop :=
  ∀ H n, Pen H p c n → n ≤ n0 → Avs av H → Same (wo p H0) (wo p H) → ∀ Q : List V → Hp → Prop, (∀ xs ds H', DqAll K (wos av H') xs ds → (∀ d ∈ ds, Sm W D d) → ds.length = m → Pen H' p c (n + st) → Same (wo p H) (wo p H') → Q xs H') → ta σ H Q
section
variable {K : PySem.W.Frag} {p c : Addr} {av : List Addr} {n0 : Nat} {H0 : Hp} {σ : L2.St} {ta : TA} {t : TE} {W D m st : Nat}
theorem EvAP.nil : EvAP K p c av n0 H0 σ tNil W D 0 0 := fun H n pen hn hav s Q q => q [] [] H .nil (fun d hd => nomatch hd) rfl pen (fun _ _ e => e)
theorem EvAP.pure {d : PyData} (hpav : p ∈ av) (h : ∀ H, Same (wo p H0) (wo p H) → Avs av H → EvQ K av H σ t d) (hd : Sm W D d) (r : EvAP K p c av n0 H0 σ ta W D m st) : EvAP K p c av n0 H0 σ (tCons t ta) W D (m + 1) st := fun H n pen hn hav s Q q => by
  refine h H s hav H (fun _ _ e => e) _ fun x H1 s1 hx => ?_
  refine r H1 n (Pen.same s1 pen) hn (hav.same s1) (s.trans (My.Same.wo s1)) _ fun xs ds H2 hxs hds hl pen2 s2 => ?_
  refine q (x :: xs) (d :: ds) H2 (.cons (Dq.same (My.Same.wos_of hpav s2) hx) hxs) (fun e he => ?_) (by rw [List.length_cons, hl]) pen2 ((My.Same.wo s1).trans s2)
  rcases List.mem_cons.mp he with rfl | he
  · exact hd
  · exact hds e he
theorem EvAP.call {st1 : Nat} (h : ∀ H n, Pen H p c n → n ≤ n0 → Avs av H → Same (wo p H0) (wo p H) → ∀ R : VK, (∀ x d H', Dq K (wos av H') x d → Sm W D d → Pen H' p c (n + st1) → Same (wo p H) (wo p H') → R x H') → t σ H R) : EvAP K p c av n0 H0 σ (tCons t tNil) W D 1 st1 := fun H n pen hn hav s Q q =>
  h H n pen hn hav s _ fun x d H' hx hd pen' s' => q [x] [d] H' (.cons hx .nil) (fun e he => by rw [List.mem_singleton.mp he]; exact hd) rfl pen' s'
theorem EvAP.lst {n : Nat} (hpav : p ∈ av) (h : EvAP K p c av n0 H0 σ ta W D m st) (pen : Pen H0 p c n) (hn : n ≤ n0) (hav : Avs av H0) (hm : m ≤ 1000) {Q : VK} (q : ∀ a H', SmL K av H' a W D m → Pen H' p c (n + st) → Same (wo p H0) (wo p H') → Q (.ref a) H') : tLst ta σ H0 Q := by
  refine h H0 n pen hn hav (fun _ _ e => e) _ fun xs ds H1 hxs hds hl pen1 s1 => ?_
  refine ⟨by rw [hxs.len]; exact smallN (by omega), fun a ha => ?_⟩
  have s := My.Same.new (o := HO.lst xs) ha
  have n1 := (hav.of s1 (Pen.at pen1)).fresh ha
  exact q a _ ⟨n1, xs, ds, upd_same, DqAll.same (My.Same.wos s) hxs, hds, by omega⟩ (Pen.same s pen1) (s1.trans (My.Same.wo s))
end
theorem ups_len_le : ∀ (L : List Int) (lo hi : Int), L.Pairwise (· < ·) → (∀ x ∈ L, lo ≤ x ∧ x < hi) → lo ≤ hi → (L.length : Int) ≤ hi - lo
  | [], lo, hi, _, _, h => by simp; omega
  | x :: L, lo, hi, h, hb, hl => by
    rw [List.pairwise_cons] at h
    have hx := hb x List.mem_cons_self
    have := ups_len_le L (x + 1) hi h.2 (fun y hy => ⟨by have := h.1 y hy; omega, (hb y (List.mem_cons_of_mem _ hy)).2⟩) (by omega)
    rw [List.length_cons]
    omega
theorem WebOk.len {k : Nat} {T : List (Int × Int)} (h : WebOk k T) (hk : k ≤ 12) : T.length ≤ 144 := by
  have h1 : (T.map fun t => 12 * t.1 + t.2).Pairwise (· < ·) := by
    rw [List.pairwise_map]
    refine List.Pairwise.imp_of_mem (fun {s t} hs ht hlt => ?_) h.1
    have b1 := h.2 s hs
    have b2 := h.2 t ht
    rcases hlt with hlt | ⟨e, hlt⟩ <;> omega
  have := ups_len_le _ 0 144 h1 (fun x hx => by
    obtain ⟨t, ht, rfl⟩ := List.mem_map.mp hx
    have b := h.2 t ht
    omega) (by omega)
  rw [List.length_map] at this
  omega
theorem WebOk.bd {k : Nat} {T : List (Int × Int)} (h : WebOk k T) (hk : k ≤ 12) : ∀ t ∈ T, (0 ≤ t.1 ∧ t.1 < 12) ∧ 0 ≤ t.2 ∧ t.2 < 12 := fun t ht => by
  have b := h.2 t ht
  omega
theorem WebOk.sm {k : Nat} {T : List (Int × Int)} (h : WebOk k T) (hk : k ≤ 12) : Sm 434 3 (webD k T) := by
  have h1 := (smPairs T (h.bd hk)).mono (W' := 432) (by have := h.len hk; omega) (Nat.le_refl 1)
  have i0 : Sm 0 0 (.int (k : Int)) := Sm.int (by omega)
  exact SmAll.tuple (SmAll.cons (i0.mono (Nat.le_refl _) (Nat.zero_le _)) (SmAll.cons (SmAll.tuple h1) SmAll.nil))
theorem WebOk.ti {k : Nat} {T : List (Int × Int)} (h : WebOk k T) (hk : k ≤ 12) : Ti 3 (webD k T) := by
  refine .inr ⟨_, rfl, fun x hx => ?_⟩
  simp only [List.mem_cons, List.not_mem_nil, or_false] at hx
  rcases hx with rfl | rfl
  · exact .inl ⟨_, rfl, by omega⟩
  · refine .inr ⟨_, rfl, fun y hy => ?_⟩
    obtain ⟨t, ht, rfl⟩ := List.mem_map.mp hy
    have b := h.bd hk t ht
    refine .inr ⟨_, rfl, fun z hz => ?_⟩
    have hz : z = .int t.1 ∨ z = .int t.2 := by simpa [prI] using hz
    rcases hz with rfl | rfl
    · exact ⟨_, rfl, by omega⟩
    · exact ⟨_, rfl, by omega⟩
theorem SmAll.of {W D : Nat} : ∀ {ds : List PyData} {m : Nat}, (∀ d ∈ ds, Sm W D d) → ds.length ≤ m → SmAll (m * (W + 1)) D ds
  | [], m, _, _ => SmAll.nil.mono (Nat.zero_le _) (Nat.le_refl _)
  | d :: ds, 0, _, h => by
    rw [List.length_cons] at h
    omega
  | d :: ds, m + 1, hs, h => by
    have := SmAll.of (m := m) (fun e he => hs e (List.mem_cons_of_mem _ he)) (by rw [List.length_cons] at h; omega)
    exact (SmAll.cons (hs d List.mem_cons_self) this).mono (by rw [Nat.succ_mul]; omega) (Nat.le_refl _)
theorem wo_wos {p : Addr} {H : Hp} : Same (wo p H) (wos [p] H) := fun b o h => by
  obtain ⟨n, e⟩ := wo_some h
  exact (wos_in (fun z => n (List.mem_singleton.mp z))).trans e
theorem SmL.mono {K : PySem.W.Frag} {av : List Addr} {H : Hp} {a : Addr} {W W' D D' m : Nat} (h : SmL K av H a W D m) (hw : W ≤ W') (hd : D ≤ D') : SmL K av H a W' D' m := by
  obtain ⟨n, xs, ds, e, hx, hs, hl⟩ := h
  exact ⟨n, xs, ds, e, hx, fun d hd' => (hs d hd').mono hw hd, hl⟩
/-- is it 1 -/
def oneD : PyData → PyData
  | .int i => .bool (decide (V.int i = V.int 1))
  | d => d
theorem DqAll.ints {K : PySem.W.Frag} {H : Hp} : ∀ ns : List Int, DqAll K H (ns.map V.int) (ns.map PyData.int)
  | [] => .nil
  | n :: ns => .cons (.int n) (DqAll.ints ns)
theorem smInts : ∀ ns : List Int, (∀ x ∈ ns, x.natAbs ≤ 1000000) → SmAll ns.length 0 (ns.map PyData.int)
  | [], _ => SmAll.nil
  | n :: ns, h => by
    have h1 := h n List.mem_cons_self
    exact (SmAll.cons (Sm.int (i := n) (by omega)) (smInts ns fun x hx => h x (List.mem_cons_of_mem _ hx))).mono (by rw [List.length_cons]; omega) (Nat.le_refl _)
end My

set_option Elab.async false
set_option linter.all false
set_option maxRecDepth 100000
set_option maxHeartbeats 4000000
namespace My
open PySem PySem.Spec PyProof.Rows L2 PySem.SeqAt

/-! ### how many unlike whole numbers -/
theorem len_sub : ∀ {L ns : List Int}, L.Nodup → (∀ k ∈ L, k ∈ ns) → L.length ≤ ns.length
  | [], _, _, _ => Nat.zero_le _
  | x :: L, ns, nd, hs => by
    rw [List.nodup_cons] at nd
    have hx := hs x List.mem_cons_self
    have := len_sub (L := L) (ns := ns.erase x) nd.2 (fun k hk => (List.mem_erase_of_ne (fun z => nd.1 (by rw [← z]; exact hk))).mpr (hs k (List.mem_cons_of_mem _ hk)))
    rw [List.length_erase_of_mem hx] at this
    have h0 := List.length_pos_of_mem hx
    rw [List.length_cons]
    omega
theorem nodup_sub : ∀ {L ns : List Int}, L.Nodup → (∀ k ∈ L, k ∈ ns) → ns.length ≤ L.length → ns.Nodup
  | [], ns, _, _, h => by
    have : ns = [] := List.length_eq_zero_iff.mp (Nat.le_zero.mp h)
    rw [this]
    exact .nil
  | x :: L, ns, nd, hs, h => by
    have nd' := nd
    rw [List.nodup_cons] at nd'
    have hx := hs x List.mem_cons_self
    have h0 := List.length_pos_of_mem hx
    have hl := List.length_erase_of_mem hx
    rw [List.length_cons] at h
    have hsub : ∀ k ∈ L, k ∈ ns.erase x := fun k hk => (List.mem_erase_of_ne (fun z => nd'.1 (by rw [← z]; exact hk))).mpr (hs k (List.mem_cons_of_mem _ hk))
    have n1 := nodup_sub nd'.2 hsub (by omega)
    refine (List.perm_cons_erase hx).symm.nodup (List.nodup_cons.mpr ⟨fun z => ?_, n1⟩)
    have := len_sub nd (ns := ns.erase x) (fun k hk => by
      rcases List.mem_cons.mp hk with rfl | hk
      · exact z
      · exact hsub k hk)
    rw [List.length_cons] at this
    omega
def tLenSetT (K : PySem.W.Frag) (ta : TA) : TE := fun σ H Q => ta σ H fun vs H1 => ∃ (p : Addr) (ns : List Int), vs = [.ref p] ∧ SqT K H1 p (ns.map V.int) ∧ ns.length ≤ 4000 ∧ ∀ c : Nat, (c = ns.length ↔ ns.Nodup) → Q (.int c) H1
theorem pe_lenSetT {X : Cx} (K : PySem.W.Frag) {e : Expr} {ta : TA} {p p2 q pos : Pos} (hg : Gl X "len") (hm : X.mg "len" = none) (hg2 : Gl X "set") (hm2 : X.mg "set" = none) (ha : PA X [e] ta) (hK : X.K = K := by rfl) (hc : X.calm = true := by rfl)
    (na : starEach [e] X.env = [(false, eval e X.env)] := by rfl) : PE X (.Call (.Name "len" p) [.Call (.Name "set" p2) [e] [] q] [] pos) (tLenSetT K ta) := by
  subst hK
  refine ⟨fun pins s σ H Q I h => ?_⟩
  refine Call_ (ld_blt I hg hm boot_len ?_)
  refine PyProof.Rows.callWith_builtin1 (PyProof.Rows.args_cons ?_ rfl) rfl rfl
  refine Call_ (ld_blt I hg2 hm2 PyProof.Rows.boot_set (PyProof.Rows.callWith_type1 (thn (ha.run q pins s σ H _ I h) fun us s1 ⟨vs, H1, I1, r1, q1⟩ => ?_) na rfl))
  obtain ⟨p0, ns, e1, hq, hl, q⟩ := q1
  subst e1
  cases r1 with
  | cons r rr =>
    cases rr
    cases r
    obtain ⟨its, rv, pt, hz⟩ := I1.tuple hq
    have hi : IntsAre its.toArray.toList ns := ints_of_vals rv
    have hd := I1.ok.hd hc
    refine call_set_tupI ns hd (show s1.heap.IsTuple p0 its.toArray from pt) hi (by unfold scanBound; omega) fun h' tk c R1 hcn k => ?_
    obtain ⟨o, es, ep, t, ho, hex, hdt, g, nd, hm2, hb, hf, hn, hr, hl2⟩ := R1
    refine PyProof.Rows.args_nil ?_
    have I2 : Inv X pins σ H1 { s1 with heap := h', toks := tk } := I1.kept fun b o e => k b o e
    refine call_len_set ho hex hdt hf (by unfold scanBound at hb; omega) ⟨.int c, H1, I2.tok _, ⟨_, by rw [hn]⟩, q c ?_⟩
    have hmem : ∀ k, k ∈ es.toList.map keyOf ↔ k ∈ ns := fun k => by rw [← hm2 k, decide_eq_true_eq]
    have hlen : (es.toList.map keyOf).length = c := by rw [List.length_map, Array.length_toList, hn]
    constructor
    · intro z
      exact nodup_sub nd (fun k hk => (hmem k).mp hk) (by omega)
    · intro z
      have h1 := len_sub nd (ns := ns) (fun k hk => (hmem k).mp hk)
      have h2 := len_sub z (ns := es.toList.map keyOf) (fun k hk => (hmem k).mpr hk)
      omega

/-! ### a tuple, compared with the empty one -/
def rEqT0 (K : PySem.W.Frag) : R2 := fun x y H Q => ∃ (a b : Addr) (xs : List V), x = .ref a ∧ y = .ref b ∧ SqT K H a xs ∧ SqT K H b [] ∧ Q (.bl (decide (xs.length = 0))) H
theorem op_eqT0 {X : Cx} (hu : X.A.units + 64 < cLine) : OpR X (compareOp .Eq) (rEqT0 X.K) := by
  intro pins s σ H x y v u Q I rx ry h
  obtain ⟨a, b, xs, rfl, rfl, hx, hy, q⟩ := h
  cases rx
  cases ry
  obtain ⟨its, rv, hl, _⟩ := I.tuple hx
  obtain ⟨its2, rv2, hl2, _⟩ := I.tuple hy
  cases rv2
  have e : ((List.range (min its.toArray.size (([] : List Value).toArray).size)).all (fun _ => true) && its.toArray.size == (([] : List Value).toArray).size) = decide (xs.length = 0) := by
    have hl0 := rv.length
    cases its with
    | nil =>
      rw [show xs.length = 0 from hl0]
      rfl
    | cons i its =>
      rw [decide_eq_false (show ¬ xs.length = 0 by rw [hl0, List.length_cons]; omega)]
      simp
  refine RcAt.tuples (e := fun _ => true) hl hl2 (by omega) (fun j h1 h2 => absurd h2 (by simp)) _ _ _ _ ?_
  rw [e]
  exact ⟨.bl _, H, I, rfl, q⟩
theorem eqT0 {X : Cx} (K : PySem.W.Frag) (hu : X.A.units + 64 < cLine) (h : X.K = K := by rfl) : OpR X (compareOp .Eq) (rEqT0 K) := by subst h; exact op_eqT0 hu
end My
namespace My
open PySem PySem.Spec PyProof.Rows L2

/-! ### deals -/
theorem cut_take {xs : List V} {k : Nat} : cutV xs none (some (k : Int)) = xs.take k := by
  unfold cutV
  rw [HT.sIx_none, show HT.sIx xs.length xs.length (some (k : Int)) = min k xs.length from HT.sIx_nat _ _ k, List.drop_zero, Nat.sub_zero]
  by_cases h : k ≤ xs.length
  · rw [Nat.min_eq_left h]
  · rw [Nat.min_eq_right (by omega), List.take_length, List.take_of_length_le (by omega)]
theorem ups_nodup (k : Nat) : (ups k).Nodup := by
  unfold ups
  refine List.Pairwise.map _ (fun a b h => ?_) (List.nodup_range (n := k))
  intro z
  exact h (by omega)
theorem sum_set1 : ∀ {L : List Int} {i : Nat} {x : Int}, L[i]? = some x → (L.set i (x + 1)).sum = L.sum + 1
  | [], _, _, h => by simp at h
  | a :: L, 0, x, h => by
    have e : a = x := Option.some.inj h
    subst e
    simp only [List.set, List.sum_cons]
    omega
  | a :: L, i + 1, x, h => by
    have := sum_set1 (L := L) (i := i) (x := x) h
    simp only [List.set, List.sum_cons, this]
    omega
theorem sum_ones (k : Nat) : (List.replicate k (1 : Int)).sum = k := by
  induction k with
  | zero => rfl
  | succ k ih =>
    rw [List.replicate_succ, List.sum_cons, ih]
    omega
theorem rep_one {α : Type} (k : Nat) (x : α) : (List.replicate k [x]).flatten = List.replicate k x := by
  induction k with
  | zero => rfl
  | succ k ih => rw [List.replicate_succ, List.flatten_cons, ih]; rfl
/-- a drawn deal's roots -/
def spDrawRoots (K : PySem.W.Frag) : Sp := fun vs H Q _ => ∃ (p c : Addr) (n0 n k : Nat), vs = [.ref p, .int n, .int k] ∧ Pen H p c n0 ∧ n0 ≤ 800000 ∧ n ≤ 100 ∧ k ≤ n ∧
  ∀ (q : Addr) (r : List Int) H', r.Nodup → (∀ x ∈ r, 0 ≤ x ∧ x < n) → r.length = k → Pen H' p c (n0 + n) → Same (wo p H) (wo p H') → SqT K (wo p H') q (r.map V.int) → Q (.ref q) H'
def spDrawSizes (K : PySem.W.Frag) : Sp := fun vs H Q _ => ∃ (p c : Addr) (n0 n k : Nat), vs = [.ref p, .int n, .int k] ∧ Pen H p c n0 ∧ n0 ≤ 800000 ∧ n ≤ 100 ∧ k ≤ n ∧ 1 ≤ k ∧
  ∀ (q : Addr) (r : List Int) H', (∀ x ∈ r, 1 ≤ x ∧ x ≤ n) → r.sum = n → r.length = k → Pen H' p c (n0 + n) → Same (wo p H) (wo p H') → SqT K (wo p H') q (r.map V.int) → Q (.ref q) H'
/-- a deal of n places -/
def DealOk (n : Nat) (rs ss : List Int) : Prop := rs.Nodup ∧ (∀ x ∈ rs, 0 ≤ x ∧ x < n) ∧ 1 ≤ rs.length ∧ ss.length = rs.length ∧ (∀ x ∈ ss, 1 ≤ x ∧ x ≤ n) ∧ ss.sum = n
def spDrawDeal (K : PySem.W.Frag) : Sp := fun vs H Q _ => ∃ (p c : Addr) (n0 n m : Nat) (v : V) (e : PyData), vs = [.ref p, v, .int m] ∧ Pen H p c n0 ∧ n0 ≤ 700000 ∧ Dq K (wo p H) v (.tuple [.int n, e]) ∧ 1 ≤ n ∧ n ≤ 100 ∧ 1 ≤ m ∧ m ≤ 100 ∧
  ∀ (q : Addr) (rs ss : List Int) H', DealOk n rs ss → rs.length ≤ m → Pen H' p c (n0 + 1 + n + n) → Same (wo p H) (wo p H') → Dq K (wo p H') (.ref q) (.tuple [tI rs, tI ss]) → Q (.ref q) H'
theorem Dq.ofTI {K : PySem.W.Frag} {H : Hp} {a : Addr} {ns : List Int} (h : SqT K H a (ns.map V.int)) : Dq K H (.ref a) (My.tI ns) := .tup h (DqAll.ints ns)
/-- at least two items, the first read by its place -/
theorem Dq.first {K : PySem.W.Frag} {H : Hp} {v : V} {n : Int} {e : PyData} (h : Dq K H v (.tuple [.int n, e])) : ∃ a x, v = .ref a ∧ SqT K H a [.int n, x] ∧ Dq K H x e := by
  obtain ⟨a, xs, rfl, hT, hxs⟩ := h.un_tup
  cases hxs with
  | cons h1 hxs =>
  cases hxs with
  | cons h2 hxs =>
  cases hxs
  cases h1
  exact ⟨a, _, rfl, hT, h2⟩
end My

set_option Elab.async false
set_option linter.all false
set_option maxRecDepth 100000
set_option maxHeartbeats 4000000
namespace My
open PySem PySem.Spec PyProof.Rows L2

/-! ### what deals are -/
def posD : PyData → Bool
  | .int i => decide (1 ≤ i)
  | _ => false
def intsOf : List PyData → List Int
  | [] => []
  | .int i :: ds => i :: intsOf ds
  | _ :: ds => intsOf ds
def rootsD (n : Int) : PyData → Bool
  | .tuple rs => decide (rs.length ≠ 0) && (rs.all (placeD n) && decide (intsOf rs).Nodup)
  | _ => false
def sizesD (n k : Int) : PyData → Bool
  | .tuple ss => decide ((ss.length : Int) = k) && (ss.all posD && decide ((intsOf ss).sum = n))
  | _ => false
def dealD (n : Int) : PyData → Bool
  | .tuple [.tuple rs, s] => rootsD n (.tuple rs) && sizesD n rs.length s
  | _ => false
theorem posD_ints {ds : List PyData} (h : ds.all posD = true) : IntsD ds := fun d hd => by
  have := List.all_eq_true.mp h d hd
  cases d with
  | int i => exact ⟨i, rfl⟩
  | _ => cases this
theorem posD_whole {d : PyData} (h : wholeD d = false) : posD d = false := by
  cases d with
  | int i => cases h
  | _ => rfl
theorem DqAll.intsOf {K : PySem.W.Frag} {H : Hp} : ∀ {ds : List PyData} {xs : List V}, DqAll K H xs ds → IntsD ds → xs = (My.intsOf ds).map V.int
  | [], _, .nil, _ => rfl
  | d :: ds, _, .cons h t, hi => by
    obtain ⟨i, rfl⟩ := hi d List.mem_cons_self
    cases h
    rw [DqAll.intsOf t (fun e he => hi e (List.mem_cons_of_mem _ he))]
    rfl
theorem intsOf_len {ds : List PyData} (hi : IntsD ds) : (intsOf ds).length = ds.length := by
  induction ds with
  | nil => rfl
  | cons d ds ih =>
    obtain ⟨i, rfl⟩ := hi d List.mem_cons_self
    have := ih (fun e he => hi e (List.mem_cons_of_mem _ he))
    show (intsOf ds).length + 1 = _
    rw [this]
    rfl
theorem Sm.lenW {W D : Nat} {ds : List PyData} (sm : Sm W D (.tuple ds)) : ds.length ≤ W := by
  obtain ⟨_, _, h3, _⟩ := sm
  have : PyData.bulkAll ds ≤ W := by simpa only [PyData.bulk] using h3
  have l2 : ∀ ds : List PyData, ds.length ≤ PyData.bulkAll ds := fun ds => by
    induction ds with
    | nil => exact Nat.zero_le _
    | cons d ds ih =>
      simp only [PyData.bulkAll, List.length_cons]
      omega
  have := l2 ds
  omega
theorem intsOf_map : ∀ ns : List Int, intsOf (ns.map PyData.int) = ns
  | [] => rfl
  | n :: ns => congrArg (n :: ·) (intsOf_map ns)
theorem intsD_map (ns : List Int) : IntsD (ns.map PyData.int) := fun d hd => by
  obtain ⟨y, _, rfl⟩ := List.mem_map.mp hd
  exact ⟨y, rfl⟩
def spRoots (K : PySem.W.Frag) : Sp := fun vs H Q _ => ∃ (n : Int) (v : V) (d : PyData) (W D : Nat), vs = [.int n, v] ∧ Dq K H v d ∧ Sm W D d ∧ W ≤ 4000 ∧ ∀ H', Same H H' → Q (.bl (rootsD n d)) H'
def spSizes (K : PySem.W.Frag) : Sp := fun vs H Q _ => ∃ (n k : Int) (v : V) (d : PyData) (W D : Nat), vs = [.int n, .int k, v] ∧ Dq K H v d ∧ Sm W D d ∧ W ≤ 4000 ∧ ∀ H', Same H H' → Q (.bl (sizesD n k d)) H'
def spIsDeal (K : PySem.W.Frag) : Sp := fun vs H Q _ => ∃ (u v : V) (n : Int) (e d : PyData) (W D : Nat), vs = [u, v] ∧ Dq K H u (.tuple [.int n, e]) ∧ Dq K H v d ∧ Sm W D d ∧ W ≤ 4000 ∧ ∀ H', Same H H' → Q (.bl (dealD n d)) H'
theorem dInt_iff {a b : Int} {p : Prop} [Decidable p] (h : a = b ↔ p) : decide (V.int a = V.int b) = decide p := by
  rw [decide_eq_decide]
  constructor
  · intro z
    exact h.mp (V.int.inj z)
  · intro z
    rw [h.mpr z]
end My

set_option Elab.async false
set_option linter.all false
set_option maxRecDepth 100000
set_option maxHeartbeats 4000000
namespace My
open PySem PySem.Spec PyProof.Rows L2

/-! ### sorted lists of whole numbers -/
def sortI (L : List Int) : List Int := L.mergeSort fun a b => decide (a ≤ b)
theorem sortI_perm (L : List Int) : (sortI L).Perm L := List.mergeSort_perm _ _
theorem sortI_le (L : List Int) : (sortI L).Pairwise (· ≤ ·) := by
  have := List.pairwise_mergeSort (le := fun a b : Int => decide (a ≤ b)) (fun a b c h1 h2 => by
    rw [decide_eq_true_eq] at *
    omega) (fun a b => by
    rw [Bool.or_eq_true, decide_eq_true_eq, decide_eq_true_eq]
    omega) L
  exact this.imp fun h => of_decide_eq_true h
theorem sortI_eq {L r : List Int} (h : r.Perm L) (p : r.Pairwise (· ≤ ·)) : r = sortI L :=
  List.Perm.eq_of_pairwise (le := fun a b : Int => a ≤ b) (fun a b _ _ h1 h2 => Int.le_antisymm h1 h2) p (sortI_le L) (h.trans (sortI_perm L).symm)
theorem lt_nodup {r : List Int} (p : r.Pairwise (· < ·)) : r.Nodup := p.imp fun h => by omega
theorem perm_mem : ∀ {L R : List Int}, L.Nodup → R.Nodup → (∀ x, x ∈ L ↔ x ∈ R) → L.Perm R
  | [], R, _, _, h => by
    cases R with
    | nil => exact .nil
    | cons a R => exact absurd ((h a).mpr List.mem_cons_self) (by simp)
  | a :: L, R, n1, n2, h => by
    have hm : a ∈ R := (h a).mp List.mem_cons_self
    have n1' := List.nodup_cons.mp n1
    have pr := List.perm_cons_erase hm
    have n3 := pr.nodup_iff.mp n2
    have n3' := List.nodup_cons.mp n3
    refine (List.Perm.cons a (perm_mem n1'.2 n3'.2 fun x => ?_)).trans pr.symm
    constructor
    · intro hx
      have hne : x ≠ a := fun z => n1'.1 (by rw [← z]; exact hx)
      exact (List.mem_erase_of_ne hne).mpr ((h x).mp (List.mem_cons_of_mem _ hx))
    · intro hx
      have hne : x ≠ a := fun z => n3'.1 (z ▸ hx)
      rcases List.mem_cons.mp ((h x).mpr (List.mem_of_mem_erase hx)) with z | z
      · exact absurd z hne
      · exact z
theorem lt_eq {L R : List Int} (p : L.Pairwise (· < ·)) (q : R.Pairwise (· < ·)) (h : ∀ x, x ∈ L ↔ x ∈ R) : L = R :=
  List.Perm.eq_of_pairwise (le := fun a b : Int => a < b) (fun a b _ _ h1 h2 => by omega) p q (perm_mem (lt_nodup p) (lt_nodup q) h)
theorem le_lt {r : List Int} (p : r.Pairwise (· ≤ ·)) (n : r.Nodup) : r.Pairwise (· < ·) := by
  have := p.and n
  exact this.imp fun h => by omega

/-! ### neighbours -/
def nearL (T : List (Int × Int)) (x : Int) : List Int := ((T.filter fun t => decide (t.2 = x)).map (·.1)) ++ ((T.filter fun t => decide (t.1 = x)).map (·.2))
def nearS (T : List (Int × Int)) (x : Int) : List Int := sortI (nearL T x)
/-- as the law gathers them -/
def nearF (T : List (Int × Int)) (x : Int) : List Int := T.flatMap fun t => (if t.1 = x then [t.2] else []) ++ (if t.2 = x then [t.1] else [])
theorem nearF_perm (x : Int) : ∀ T : List (Int × Int), (nearF T x).Perm (nearL T x)
  | [] => .nil
  | t :: T => by
    have ih := nearF_perm x T
    unfold nearF nearL at *
    rw [List.flatMap_cons]
    refine (List.Perm.append_left _ ih).trans ?_
    by_cases h1 : t.1 = x <;> by_cases h2 : t.2 = x
    · rw [List.filter_cons_of_pos (by simpa using h2), List.filter_cons_of_pos (by simpa using h1), if_pos h1, if_pos h2]
      refine (List.perm_iff_count).mpr fun a => ?_
      simp [List.count_append, List.count_cons]
      omega
    · rw [List.filter_cons_of_neg (by simpa using h2), List.filter_cons_of_pos (by simpa using h1), if_pos h1, if_neg h2]
      refine (List.perm_iff_count).mpr fun a => ?_
      simp [List.count_append, List.count_cons]
      omega
    · rw [List.filter_cons_of_pos (by simpa using h2), List.filter_cons_of_neg (by simpa using h1), if_neg h1, if_pos h2]
      refine (List.perm_iff_count).mpr fun a => ?_
      simp [List.count_append, List.count_cons]
      try omega
    · rw [List.filter_cons_of_neg (by simpa using h2), List.filter_cons_of_neg (by simpa using h1), if_neg h1, if_neg h2]
      exact .refl _
theorem mem_nearS {T : List (Int × Int)} {x y : Int} : y ∈ nearS T x ↔ ∃ t ∈ T, (t.2 = x ∧ t.1 = y) ∨ (t.1 = x ∧ t.2 = y) := by
  unfold nearS
  rw [(sortI_perm _).mem_iff]
  unfold nearL
  rw [List.mem_append, List.mem_map, List.mem_map]
  constructor
  · rintro (⟨t, ht, e⟩ | ⟨t, ht, e⟩)
    · obtain ⟨h1, h2⟩ := List.mem_filter.mp ht
      exact ⟨t, h1, .inl ⟨of_decide_eq_true h2, e⟩⟩
    · obtain ⟨h1, h2⟩ := List.mem_filter.mp ht
      exact ⟨t, h1, .inr ⟨of_decide_eq_true h2, e⟩⟩
  · rintro ⟨t, ht, ⟨h, e⟩ | ⟨h, e⟩⟩
    · exact .inl ⟨t, List.mem_filter.mpr ⟨ht, decide_eq_true h⟩, e⟩
    · exact .inr ⟨t, List.mem_filter.mpr ⟨ht, decide_eq_true h⟩, e⟩
theorem nearF_len (x : Int) : ∀ T : List (Int × Int), (nearF T x).length ≤ 2 * T.length
  | [] => Nat.zero_le _
  | t :: T => by
    have ih := nearF_len x T
    unfold nearF at *
    rw [List.flatMap_cons, List.length_append, List.length_append, List.length_cons]
    have h1 : (if t.1 = x then [t.2] else []).length ≤ 1 := by split <;> simp
    have h2 : (if t.2 = x then [t.1] else []).length ≤ 1 := by split <;> simp
    omega
theorem nearS_len {T : List (Int × Int)} {x : Int} : (nearS T x).length ≤ 2 * T.length := by
  unfold nearS
  rw [(sortI_perm _).length_eq, ← (nearF_perm x T).length_eq]
  exact nearF_len x T
theorem nearS_bd {T : List (Int × Int)} {n : Nat} {x y : Int} (h : WebOk n T) (hy : y ∈ nearS T x) : 0 ≤ y ∧ y < n := by
  obtain ⟨t, ht, ⟨_, e⟩ | ⟨_, e⟩⟩ := mem_nearS.mp hy
  · have := h.2 t ht
    omega
  · have := h.2 t ht
    omega

/-! ### what is reached, and pieces -/
inductive Reach (T : List (Int × Int)) (lot : List Int) (s : Int) : Int → Prop
  | base : Reach T lot s s
  | step {x y : Int} : Reach T lot s x → y ∈ nearS T x → y ∈ lot → Reach T lot s y
def Closed (T : List (Int × Int)) (lot F : List Int) : Prop := ∀ x ∈ F, ∀ y ∈ nearS T x, y ∈ lot → y ∈ F
theorem reach_closed {T : List (Int × Int)} {lot F : List Int} {s : Int} (hs : s ∈ F) (hc : Closed T lot F) {x : Int} (h : Reach T lot s x) : x ∈ F := by
  induction h with
  | base => exact hs
  | step _ h1 h2 ih => exact hc _ ih _ h1 h2
def PieceIs (T : List (Int × Int)) (lot : List Int) (s : Int) (r : List Int) : Prop := r.Pairwise (· < ·) ∧ ∀ x, x ∈ r ↔ Reach T lot s x
theorem PieceIs.eq {T : List (Int × Int)} {lot r r' : List Int} {s : Int} (h : PieceIs T lot s r) (g : PieceIs T lot s r') : r = r' :=
  lt_eq h.1 g.1 fun x => (h.2 x).trans (g.2 x).symm
/-- one more round of the law's walk -/
theorem round_next {T : List (Int × Int)} {lot F G : List Int} {s : Int} {t : Nat} (hF : F.Nodup) (hi : Closed T lot F ∨ t + 1 ≤ F.length) (hR : ∀ x ∈ F, Reach T lot s x)
    (hG : G.Nodup) (h1 : ∀ x ∈ F, x ∈ G) (h2 : ∀ x ∈ F, ∀ y ∈ nearS T x, y ∈ lot → y ∈ G) (h3 : ∀ y ∈ G, y ∈ F ∨ ∃ x ∈ F, y ∈ nearS T x ∧ y ∈ lot) : Closed T lot G ∨ t + 2 ≤ G.length := by
  by_cases hc : Closed T lot F
  · left
    have e : ∀ y, y ∈ G → y ∈ F := fun y hy => by
      rcases h3 y hy with h | ⟨x, hx, hn, hl⟩
      · exact h
      · exact hc x hx y hn hl
    exact fun x hx y hy hl => h1 y (hc x (e x hx) y hy hl)
  · right
    have ⟨x, hx, y, hy, hl, hn⟩ : ∃ x, x ∈ F ∧ ∃ y, y ∈ nearS T x ∧ y ∈ lot ∧ y ∉ F := by
      apply Classical.byContradiction
      intro z
      exact hc fun x hx y hy hl => Classical.byContradiction fun w => z ⟨x, hx, y, hy, hl, w⟩
    have hlen : t + 1 ≤ F.length := by
      rcases hi with h | h
      · exact absurd h hc
      · exact h
    have := len_sub (L := y :: F) (ns := G) (List.nodup_cons.mpr ⟨hn, hF⟩) (fun k hk => by
      rcases List.mem_cons.mp hk with rfl | hk
      · exact h2 x hx _ hy hl
      · exact h1 k hk)
    rw [List.length_cons] at this
    omega
theorem round_end {T : List (Int × Int)} {lot F : List Int} {s : Int} (hF : F.Nodup) (hi : Closed T lot F ∨ lot.length + 1 ≤ F.length) (hsub : ∀ x ∈ F, x = s ∨ x ∈ lot) : Closed T lot F := by
  rcases hi with h | h
  · exact h
  · intro x hx y hy hl
    apply Classical.byContradiction
    intro hn
    have := len_sub (L := y :: F) (ns := s :: lot) (List.nodup_cons.mpr ⟨hn, hF⟩) (fun k hk => by
      rcases List.mem_cons.mp hk with rfl | hk
      · exact List.mem_cons_of_mem _ hl
      · rcases hsub k hk with rfl | h
        · exact List.mem_cons_self
        · exact List.mem_cons_of_mem _ h)
    rw [List.length_cons, List.length_cons] at this
    omega
theorem reach_sub {T : List (Int × Int)} {lot : List Int} {s x : Int} (h : Reach T lot s x) : x = s ∨ x ∈ lot := by
  cases h with
  | base => exact .inl rfl
  | step _ _ h => exact .inr h

/-! ### promises -/
def spNbr (K : PySem.W.Frag) : Sp := fun vs H Q _ => ∃ (v : V) (n : Int) (T : List (Int × Int)) (x : Int), vs = [v, .int x] ∧ Dq K H v (webD n T) ∧ T.length ≤ 1000 ∧
  ∀ (q : Addr) H', Same H H' → SqT K H' q ((nearS T x).map V.int) → Q (.ref q) H'
def spPiece (K : PySem.W.Frag) : Sp := fun vs H Q _ => ∃ (v : V) (n : Nat) (T : List (Int × Int)) (lq : Addr) (lot : List Int) (s : Int), vs = [v, .ref lq, .int s] ∧ Dq K H v (webD n T) ∧ WebOk n T ∧ 1 ≤ n ∧ n ≤ 12 ∧ SqT K H lq (lot.map V.int) ∧ lot.length ≤ 12 ∧ (∀ x ∈ lot, 0 ≤ x ∧ x < n) ∧ 0 ≤ s ∧ s < n ∧
  ∀ (q : Addr) (r : List Int) H', PieceIs T lot s r → Same H H' → SqT K H' q (r.map V.int) → Q (.ref q) H'
end My
namespace My
open PySem PySem.Spec PyProof.Rows L2
/-- a web's two parts, its ties one by one -/
theorem Dq.web {K : PySem.W.Frag} {H : Hp} {v : V} {n : Int} {T : List (Int × Int)} (h : Dq K H v (webD n T)) : ∃ (wa ta : Addr) (ts : List V), v = .ref wa ∧ SqT K H wa [.int n, .ref ta] ∧ SqT K H ta ts ∧ ts.length = T.length ∧
    ∀ (i : Nat) (x : V), ts[i]? = some x → ∃ (a b : Int) (t : Addr), T[i]? = some (a, b) ∧ x = .ref t ∧ SqT K H t [.int a, .int b] := by
  obtain ⟨wa, xs, rfl, hT, hxs⟩ := Dq.un_tup h
  cases hxs with
  | cons h1 hxs =>
  cases hxs with
  | cons h2 hxs =>
  cases hxs
  cases h1
  obtain ⟨ta, ts, rfl, hT2, hts⟩ := h2.un_tup
  refine ⟨wa, ta, ts, rfl, hT, hT2, by rw [hts.len, List.length_map], fun i x ex => ?_⟩
  obtain ⟨d, ed, hd⟩ := hts.get ex
  rw [List.getElem?_map] at ed
  cases e : T[i]? with
  | none => rw [e] at ed; cases ed
  | some t =>
    rw [e] at ed
    cases ed
    obtain ⟨tt, zs, rfl, hT3, hz⟩ := hd.un_tup
    cases hz with
    | cons g1 hz =>
    cases hz with
    | cons g2 hz =>
    cases hz
    cases g1
    cases g2
    exact ⟨t.1, t.2, tt, rfl, rfl, hT3⟩
end My
namespace My
open PySem PySem.Spec PyProof.Rows L2
theorem inV_ints : ∀ {L : List Int} {y : Int}, inV (.int y) (L.map V.int) = decide (y ∈ L)
  | [], y => by simp [inV]
  | a :: L, y => by
    have ih := inV_ints (L := L) (y := y)
    have e : inV (.int y) ((a :: L).map V.int) = (eqV (.int a) (.int y) || inV (.int y) (L.map V.int)) := rfl
    rw [e, ih]
    have e2 : eqV (.int a) (.int y) = (a == y) := rfl
    rw [e2, Bool.eq_iff_iff]
    simp only [Bool.or_eq_true, beq_iff_eq, decide_eq_true_eq, List.mem_cons]
    constructor
    · rintro (h | h)
      · exact .inl h.symm
      · exact .inr h
    · rintro (h | h)
      · exact .inl h.symm
      · exact .inr h
theorem flat_ints {L : List Int} : (L.map V.int).all flatV = true := by
  rw [List.all_map]
  exact List.all_eq_true.mpr fun _ _ => rfl
/-- at a the neighbours of each place -/
def NearAt (K : PySem.W.Frag) (H : Hp) (a : Addr) (n : Nat) (T : List (Int × Int)) : Prop := ∃ us : List V, SqL K H a us ∧ us.length = n ∧ ∀ (i : Nat) (x : V), us[i]? = some x → ∃ t, x = .ref t ∧ SqT K H t ((nearS T i).map V.int)
theorem NearAt.same {K : PySem.W.Frag} {H H' : Hp} {a : Addr} {n : Nat} {T : List (Int × Int)} (s : Same H H') (h : NearAt K H a n T) : NearAt K H' a n T := by
  obtain ⟨us, h1, h2, h3⟩ := h
  refine ⟨us, s.seq h1, h2, fun i x e => ?_⟩
  obtain ⟨t, e1, e2⟩ := h3 i x e
  exact ⟨t, e1, My.Same.sqt s e2⟩
def spEvery (K : PySem.W.Frag) : Sp := fun vs H Q _ => ∃ (v : V) (n : Nat) (T : List (Int × Int)), vs = [v] ∧ Dq K H v (webD n T) ∧ n ≤ 100 ∧ T.length ≤ 1000 ∧ ∀ (a : Addr) H', Same H H' → NearAt K H' a n T → Q (.ref a) H'
def spReached (K : PySem.W.Frag) : Sp := fun vs H Q _ => ∃ (nr lq : Addr) (n : Nat) (T : List (Int × Int)) (lot : List Int) (s : Int), vs = [.ref nr, .ref lq, .int s] ∧ NearAt K H nr n T ∧ WebOk n T ∧ n ≤ 12 ∧ SqT K H lq (lot.map V.int) ∧ 0 ≤ s ∧ s < n ∧
  ∀ (a : Addr) (rs : List Int) H', H a = none → rs.Nodup → (∀ x, x ∈ rs ↔ Reach T lot s x) → rs.length ≤ 12 → Same H H' → H' a = some (.lst (rs.map V.int)) → Q (.ref a) H'
theorem len_bd {n : Nat} {rs : List Int} (nd : rs.Nodup) (h : ∀ x ∈ rs, 0 ≤ x ∧ x < n) : rs.length ≤ n := by
  have := len_sub nd (ns := ups n) (fun k hk => mem_ups.mpr (h k hk))
  rw [ups_len] at this
  exact this
end My
namespace My
open PySem PySem.Spec PyProof.Rows L2
theorem map_snoc {L : List Int} {y : Int} : L.map V.int ++ [V.int y] = (L ++ [y]).map V.int := by
  rw [List.map_append]
  rfl
/-- how far from 13 the number in the fifth place is -/
def from13 (σ : L2.St) : Nat := match σ[4]? with
  | some (some (V.int i)) => 13 - i.toNat
  | _ => 0
end My

set_option Elab.async false
set_option linter.all false
set_option maxRecDepth 100000
set_option maxHeartbeats 4000000
namespace My
open PySem PySem.Spec PyProof.Rows L2

/-! ### enumerate(t), t a tuple -/
theorem meets_enumerate_newT (l : Addr) (items : Array Value) (n : Nat) (dct : Option Addr) (sl : Array (Option Value)) :
    Meets (Builtin.«enumerate.__new__» ⟨[.type "enumerate", .ref l], []⟩) (fun _ R s => s.heap.get? l = some { cls := .type "tuple", dict := dct, data := .seq items n, slots := sl } ∧
      R (.ok (.ret (.ref (s.heap.push { cls := .type "tuple_iterator", data := .fields #[.ref l, .int 0 0] }).objs.size)))
        { s with heap := (s.heap.push { cls := .type "tuple_iterator", data := .fields #[.ref l, .int 0 0] }).push { cls := .type "enumerate", data := .fields #[.none, .bool false, .ref s.heap.objs.size, rawInt 0, .none, .none] } }) :=
  .of_wp fun prog w A R s h => by
    obtain ⟨hp, g, d, tk, os⟩ := s; obtain ⟨hl, h⟩ := h
    have hsub := sub_enumerate
    have hL : Heap.IsTuple (Shared.heap ⟨hp, g, d, tk, os⟩) l items := ⟨_, hl, rfl, n, rfl⟩
    wp_walk using wpAny_loadPart' hl
    refine wpAny_stack_any fun st => wpAny_pure ?_
    split
    · rename_i c _ _ _ _ _
      cases (c == Value.type "enumerate")
      · wp_walk using wpAny_loadPart' hl, wpAny_pyIter_tuple hL
        exact ⟨_, rfl, h⟩
      · wp_walk using wpAny_loadPart' hl, wpAny_pyIter_tuple hL
        exact ⟨_, rfl, h⟩
    · wp_walk using wpAny_loadPart' hl, wpAny_pyIter_tuple hL
      exact ⟨_, rfl, h⟩
theorem call_enumT {prog : Program} {w : World} {A : Around} {E : Value → Shared → Prop} {s : Shared} {l : Addr} {items : Array Value} {Q : Value → Shared → Prop} (hL : s.heap.IsTuple l items)
    (h : ∀ h', IsEnum h' (s.heap.objs.size + 1) s.heap.objs.size 0 .none → h'.IsTupleIter s.heap.objs.size l 0 → h'.objs.size = s.heap.objs.size + 2 →
      (∀ b o, s.heap.get? b = some o → h'.get? b = some o) → Q (.ref (s.heap.objs.size + 1)) { s with heap := h' }) :
    wpAny (model prog w) A (call (.type "enumerate") [.ref l]) Q E s := by
  obtain ⟨⟨c, dct, dt, sl⟩, hl, hc, n, hd⟩ := hL
  replace hc : c = .type "tuple" := hc
  replace hd : dt = .seq items n := hd
  subst hc hd
  refine callType_new F.called_enumerate (by decide) (F.typeCall_enumerate_1 _) (F.newCall_enumerate_1 _) (fun obj => F.args_object_init_2 obj _) F.entry_enumerate_new
    (meets_enumerate_newT l items n dct sl) ⟨hl, ?_⟩
  have hz : (s.heap.push { cls := .type "tuple_iterator", data := .fields #[.ref l, .int 0 0] }).objs.size = s.heap.objs.size + 1 := Heap.size_push ..
  show _ ∧ _
  rw [hz]
  have he : IsEnum ((s.heap.push { cls := .type "tuple_iterator", data := .fields #[.ref l, .int 0 0] }).push
      { cls := .type "enumerate", data := .fields #[.none, .bool false, .ref s.heap.objs.size, rawInt 0, .none, .none] }) (s.heap.objs.size + 1) s.heap.objs.size 0 .none := by
    have := Heap.get?_push_size (s.heap.push { cls := .type "tuple_iterator", data := .fields #[.ref l, .int 0 0] })
      (o := { cls := .type "enumerate", data := .fields #[.none, .bool false, .ref s.heap.objs.size, rawInt 0, .none, .none] }) rfl
    rw [hz] at this; exact this
  refine ⟨⟨_, he, rfl⟩, h _ he ⟨_, Heap.get?_push_of_some _ (Heap.get?_push_size _ rfl), rfl, rfl⟩ (by rw [Heap.size_push, hz]) fun b o x => Heap.get?_push_of_some _ (Heap.get?_push_of_some _ x)⟩
/-- the tuple at a, each item in a new pair -/
def IteT (K : PySem.W.Frag) (a : Addr) : It :=
  ⟨fun i H => ∃ (xs : List V) (x : V), SqT K H a xs ∧ xs[i]? = some x, fun i H v H' => ∃ T x, v = .ref T ∧ H T = none ∧ H' = upd H T (.tup [.int (i : Nat), x]) ∧ ∀ xs, SqT K H a xs → xs[i]? = some x, fun i H => ∃ xs : List V, SqT K H a xs ∧ xs.length = i⟩
theorem turn_enumT {P : Program} {w : World} {K : PySem.W.Frag} {elts : List Expr} {kk : Nat} {tpos : Pos} (a e it : Addr) :
    Turn P w K (.Tuple elts kk tpos) (IteT K a) [e, it] e (fun i h => (∃ old, IsEnum h e it ((i : Nat) : Int) old) ∧ h.IsTupleIter it a i ∧ e ≠ it ∧ a ≠ it ∧ e ≠ a) where
  mem := by simp
  obj := fun i h st b hb => by
    obtain ⟨⟨old, he⟩, ⟨o, ho, hc, hd⟩, _⟩ := st
    have e' : b = e ∨ b = it := by simpa using hb
    rcases e' with z | z
    · rw [z]; exact ⟨_, he, fun v q => nomatch q⟩
    · rw [z]; exact ⟨o, ho, fun v q => by rw [hd] at q; cases q⟩
  keep := fun i h h' st k => let ⟨⟨old, he⟩, hi, hne⟩ := st; ⟨⟨old, k e (by simp) _ he⟩, hi.at fun o q => k it (by simp) o q, hne⟩
  item := by
    intro X hP hw hK hc i pins s σ H E I hf st hg
    subst hP hw hK
    obtain ⟨⟨old, he⟩, hit, hne, hai, hea⟩ := st
    obtain ⟨xs, x, hq, hx⟩ := hg
    obtain ⟨its, rv, p, hz⟩ := I.tuple hq
    obtain ⟨u, hu, ru⟩ := rv.get hx
    have hel : e < s.heap.objs.size := Heap.lt_size he
    have hil : it < s.heap.objs.size := by obtain ⟨_, q, _⟩ := hit; exact Heap.lt_size q
    have hlt : i < its.toArray.size := by
      have := (List.getElem?_eq_some_iff.mp hu).1
      rw [List.size_toArray]
      exact this
    have hd := I.ok.hd hc
    have D := Draws.tuple (prog := X.prog) (w := X.w) (A := X.A.in1) (by simp [hd]) it a hai its.toArray
    refine wpAny_pyNext_enum_itemD D he ⟨hit, p⟩ hlt hne (by simp; exact ⟨hne, hea⟩) fun y h' tk hP ho hs' hT hsz hk => ?_
    have ey : y = u := by
      have h1 : its.toArray[i]? = some y := hP
      rw [List.getElem?_toArray, hu] at h1
      exact (Option.some.inj h1).symm
    subst ey
    refine ⟨_, rfl, wpAny_letOwnedTupleGo_enum (s := { s with heap := h', toks := tk + 1 }) ho fun h'' he' sb => ?_⟩
    have hT2 : h''.get? s.heap.objs.size = some { cls := .type "tuple", data := .seq #[.int i tk, y] } := (sb.2 _ (Nat.ne_of_gt hel)).trans hT
    have new : ObjOk X.prog X.w (upd H s.heap.objs.size (.tup [.int (i : Nat), x])) h'' s.heap.objs.size (.tup [.int (i : Nat), x]) :=
      ⟨by show 2 ≤ sizeLine; decide, [.int i tk, y], .cons ⟨_, rfl⟩ (.cons ru .nil), ⟨_, hT2, rfl, _, rfl⟩⟩
    have I1 : Inv X pins σ (upd H s.heap.objs.size (.tup [.int (i : Nat), x])) { s with heap := h'', toks := tk + 1 } :=
      I.turnedNew (ch := [e, it]) (fun b ob hb q => (sb.2 b (fun z => hb (by simp [z]))).trans (hk b ob (fun z => hb (by simp [z])) (fun z => hb (by simp [z])) q)) hf (Nat.le_refl _) new
    refine ⟨.ref s.heap.objs.size, _, I1, rfl, ⟨_, x, rfl, I.hok.fresh (Nat.le_refl _), rfl, fun ys hy => by rw [I.tuple_inj hy hq]; exact hx⟩, ⟨⟨y, ?_⟩, hs'.1.at fun o q => (sb.2 it (Ne.symm hne)).trans q, hne, hai, hea⟩, fun b hb => ?_⟩
    · have e1 : ((i + 1 : Nat) : Int) = (i : Int) + 1 := by omega
      rw [e1]; exact he'
    · have hb' : b < s.heap.objs.size := by
        have e' : b = e ∨ b = it := by simpa using hb
        rcases e' with z | z
        · rw [z]; exact hel
        · rw [z]; exact hil
      rw [upd_ne (Nat.ne_of_lt hb')]
      exact (hf b hb).1
  done := by
    intro X hP hw hK hc i pins s σ H E I hf st hg
    subst hP hw hK
    obtain ⟨⟨old, he⟩, hit, hne, hai, hea⟩ := st
    obtain ⟨xs, hq, hx⟩ := hg
    obtain ⟨its, rv, p, hz⟩ := I.tuple hq
    obtain ⟨f0, f1, f2, f3, f4, f5⟩ := hf it (by simp)
    have hl := rv.length
    have hd := I.ok.hd hc
    have D := Draws.tuple (prog := X.prog) (w := X.w) (A := X.A.in1) (by simp [hd]) it a hai its.toArray
    have ei : its.toArray.size = i := by rw [List.size_toArray]; omega
    refine wpAny_pyNext_enum_endD D he ⟨by rw [ei]; exact hit, p⟩ fun h' eb => ⟨rfl, I.turned (t' := s.toks) (fun b o hb q => eb b o hb q) f0 f1 f3 f4 f5⟩
  self := fun A i s Q E st h => let ⟨⟨_, he⟩, _⟩ := st; wpAny_pyIter_enum he h
def iEnumT (K : PySem.W.Frag) (ta : TA) : TI := fun σ H R => ta σ H fun vs H1 => ∃ a xs, vs = [.ref a] ∧ SqT K H1 a xs ∧ R (IteT K a) H1
theorem pi_enumT {X : Cx} {e : Expr} {ta : TA} {p pos tpos : Pos} {elts : List Expr} {kk : Nat} (hg : Gl X "enumerate") (hm : X.mg "enumerate" = none) (ha : PA X [e] ta) (hs : starEach [e] X.env = [(false, eval e X.env)] := by rfl) :
    PI X (.Tuple elts kk tpos) (.Call (.Name "enumerate" p) [e] [] pos) (iEnumT X.K ta) := by
  refine ⟨fun pins s σ H R I h => ?_⟩
  refine Call_ (ld_blt I hg hm boot_enumerate (PyProof.Rows.callWith_type1 (thn (ha.run pos pins s σ H _ I h) fun us s1 ⟨vs, H1, I1, r1, q1⟩ => ?_) hs rfl))
  obtain ⟨a, xs, ex, hq, q⟩ := q1
  subst ex
  cases r1 with
  | cons r rr =>
    cases rr
    cases r
    obtain ⟨its, rv, p', hz⟩ := I1.tuple hq
    have hal : a < s1.heap.objs.size := by obtain ⟨_, ho, _⟩ := id p'; exact Heap.lt_size ho
    refine call_enumT (show s1.heap.IsTuple a its.toArray from p') fun h' he hit hsz hk => wpAny_pyIter_enum he ?_
    have I2 : Inv X pins σ H1 { s1 with heap := h' } := I1.kept (t' := s1.toks) hk
    refine ⟨s1.heap.objs.size + 1, [s1.heap.objs.size + 1, s1.heap.objs.size], _, _, H1, rfl, I2, turn_enumT a (s1.heap.objs.size + 1) s1.heap.objs.size, ⟨⟨.none, he⟩, hit, Nat.succ_ne_self _, Nat.ne_of_lt hal, Nat.ne_of_gt (Nat.lt_succ_of_lt hal)⟩, fun b hb => ?_, q⟩
    have e' : b = s1.heap.objs.size + 1 ∨ b = s1.heap.objs.size := by simpa using hb
    have hle : s1.heap.objs.size ≤ b := by
      rcases e' with z | z
      · rw [z]; exact Nat.le_add_right _ _
      · rw [z]; exact Nat.le_refl _
    exact I1.fpOk hle (I1.hok.fresh hle)
theorem pi_enumTK {X : Cx} (K : PySem.W.Frag) {e : Expr} {ta : TA} {p pos tpos : Pos} {elts : List Expr} {kk : Nat} (hg : Gl X "enumerate") (hm : X.mg "enumerate" = none) (ha : PA X [e] ta) (h : X.K = K := by rfl) (hs : starEach [e] X.env = [(false, eval e X.env)] := by rfl) :
    PI X (.Tuple elts kk tpos) (.Call (.Name "enumerate" p) [e] [] pos) (iEnumT K ta) := by subst h; exact pi_enumT hg hm ha hs
theorem lc_enumT {K : PySem.W.Frag} {a : Addr} {xs : List V} {g : TG} {tt : TT} {te : TE} {vs : List Nat} {σ : L2.St} {H1 : Hp} {D : Addr} {Qd : Hp → Prop} (Pv : Nat → Hp → Prop) (h0 : Pv 0 (upd H1 D (.lst [])))
    (hq : ∀ i H, Pv i H → SqT K H a xs)
    (hs : ∀ (i : Nat) (x : V) (T : Addr) (H : Hp), xs[i]? = some x → Pv i H → H T = none → g (.ref T) (wipe σ vs) (upd H T (.tup [.int (i : Nat), x])) fun σ2 H2 => wipe σ2 vs = wipe σ vs ∧ tt σ2 H2 fun b H3 =>
      if b = true then te σ2 H3 fun z H4 => ∃ acc, H4 D = some (.lst acc) ∧ acc.length < sizeLine ∧ Pv (i + 1) (upd H4 D (.lst (acc ++ [z]))) else Pv (i + 1) H3) (hd : ∀ H, Pv xs.length H → Qd H) :
    ∃ W : Nat → Nat → Hp → Prop, (∃ m, W 0 m (upd H1 D (.lst []))) ∧ ∀ i m H, W i m H →
      ((IteT K a).stop i H ∧ Qd H) ∨ ((IteT K a).go i H ∧ ∃ Nx : Hp → Prop, (∀ H', Nx H' → ∃ m', m' < m ∧ W (i + 1) m' H') ∧ ∀ x H', (IteT K a).yld i H x H' → g x (wipe σ vs) H' fun σ2 H2 => wipe σ2 vs = wipe σ vs ∧ tt σ2 H2 fun b H3 =>
        if b = true then te σ2 H3 fun y H4 => ∃ acc, H4 D = some (.lst acc) ∧ acc.length < sizeLine ∧ Nx (upd H4 D (.lst (acc ++ [y]))) else Nx H3) := by
  refine ⟨fun i m H => m = xs.length - i ∧ i ≤ xs.length ∧ Pv i H, ⟨xs.length, rfl, Nat.zero_le _, h0⟩, ?_⟩
  rintro i m H ⟨rfl, hi, p⟩
  have qx := hq i H p
  by_cases hlt : i < xs.length
  · have hx : xs[i]? = some xs[i] := List.getElem?_eq_getElem hlt
    refine .inr ⟨⟨xs, _, qx, hx⟩, Pv (i + 1), fun H' p' => ⟨xs.length - (i + 1), by omega, rfl, hlt, p'⟩, fun v H' y => ?_⟩
    obtain ⟨T, x', rfl, hT, rfl, f1⟩ := y
    exact hs i x' T H (f1 xs qx) p hT
  · have e : i = xs.length := by omega
    subst e
    exact .inl ⟨⟨xs, qx, rfl⟩, hd H p⟩
/-! ### tuple * int, 1 too -/
theorem tuple_mul1 (l : Addr) (items : Array Value) (n : Nat) (dd : Option Addr) (sl : Array (Option Value)) (u : Tok) :
    Meets (Builtin.«tuple.__mul__» ⟨[.ref l, .int 1 u], []⟩) (fun _ R s => s.heap.get? l = some { cls := .type "tuple", dict := dd, data := .seq items n, slots := sl } ∧ R (.ok (.ret (Value.ref l))) s) :=
  .of_wp fun prog w A R s h => by
    obtain ⟨hp, g, d, tk, os⟩ := s
    obtain ⟨hl, h⟩ := h
    have f1 := AutoSeq1.idx_int
    have c1 : (items.isEmpty || (1 : Int) == 1) = true := by simp
    wp_walk using wpAny_loadPart' hl
    repeat (first
      | (refine wpAny_ite_false (decide_eq_false (by decide)) ?_; wp_walk using wpAny_loadPart' hl)
      | (refine wpAny_ite_true (decide_eq_true (by rw [c1])) ?_; wp_walk using wpAny_loadPart' hl))
    exact ⟨_, rfl, h⟩
def rRepT1 (K : PySem.W.Frag) : R2 := fun x y H Q => rRepT K x y H Q ∨ ∃ l xs, x = .ref l ∧ y = .int 1 ∧ SqT K H l xs ∧ Q (.ref l) H
theorem op_repT1 {X : Cx} : OpR X (binaryOp .Mult) (rRepT1 X.K) := by
  intro pins s σ H x y v u Q I rx ry h
  rcases h with h | ⟨l, xs, rfl, rfl, hT, q⟩
  · exact op_repT pins s σ H x y v u Q I rx ry h
  cases rx
  obtain ⟨t, rfl⟩ := ry
  obtain ⟨its, r, ⟨⟨cls, dd, data, sl⟩, ho, hc, n, hd⟩, hs⟩ := I.tuple hT
  simp only at hc hd
  subst hc hd
  exact wpAny_binaryOp_repeat_ref (T := "tuple") (U := "int") (by decide) ⟨_, ho, rfl⟩ (fun s' => typeIs_int s' 1 t) noFill_tuple_mul F.fills_int_mul F.slot_int_rmul repeat_tuple F.slot_int_index.lookup
    (call_meets F.slot_int_rmul (typeIs_int s 1 t) F.entry_int_rmul (F.args_int_rmul_2 _ _) (int_rmul_tuple 1 t l its.toArray n dd sl)
      ⟨ho, rfl, ⟨_, ho, rfl⟩, call_meets F.slot_tuple_mul ⟨_, ho, rfl⟩ F.entry_tuple_mul (F.args_tuple_mul_2 _ _) (tuple_mul1 l its.toArray n dd sl t) ⟨ho, .ref l, H, I, rfl, q⟩⟩)
theorem repT1 {X : Cx} (K : PySem.W.Frag) (h : X.K = K := by rfl) : OpR X (binaryOp .Mult) (rRepT1 K) := by subst h; exact op_repT1
end My

set_option Elab.async false
set_option linter.all false
set_option maxRecDepth 100000
set_option maxHeartbeats 4000000
namespace My
open PySem PySem.Spec PyProof.Rows L2

/-! ### more of displays: repeated tuples, lengths, ranges -/
section
variable {K : PySem.W.Frag} {av : List Addr} {H0 : Hp} {σ : L2.St} {t t1 t2 : TE} {ta : TA} {d : PyData} {ds es : List PyData}
theorem DqAll.rep {H : Hp} {vs : List V} (h : DqAll K H vs ds) : ∀ k : Nat, DqAll K H (List.replicate k vs).flatten (List.replicate k ds).flatten
  | 0 => .nil
  | k + 1 => by
    rw [List.replicate_succ, List.replicate_succ, List.flatten_cons, List.flatten_cons]
    exact DqAll.append h (DqAll.rep h k)
theorem EvQ.repT {k : Nat} (hp : Avs av H0) (h1 : EvQ K av H0 σ t1 (.tuple ds)) (h2 : EvQ K av H0 σ t2 (.int (k : Int))) (hl : ds.length ≤ 1000) (h0 : ds ≠ []) (k1 : 1 ≤ k) (k2 : k ≤ 1000) :
    EvQ K av H0 σ (tOp (rRepT1 K) t1 t2) (.tuple (List.replicate k ds).flatten) := fun H s Q q => by
  refine h1 H s _ fun x H1 s1 hx => h2 H1 (s.trans s1) _ fun y H2 s2 hy => ?_
  cases hy
  obtain ⟨a, xs, rfl, hT, hxs⟩ := (Dq.same (My.Same.wos s2) hx).un_tup
  by_cases e : k = 1
  · subst e
    refine .inr ⟨a, xs, rfl, rfl, My.Same.sqt wos_le hT, q _ _ (s1.trans s2) ?_⟩
    rw [show (List.replicate 1 ds).flatten = ds by simp]
    exact .tup hT hxs
  · refine .inl ⟨a, (k : Int), xs, rfl, rfl, My.Same.sqt wos_le hT, fun z => ?_, by omega, by omega, by rw [hxs.len]; exact hl, fun b hb => ?_⟩
    · subst z
      cases hxs
      exact h0 rfl
    · have t3 := My.Same.new (o := HO.tup (List.replicate (k : Int).toNat xs).flatten) hb
      have n3 := (hp.same (s.trans (s1.trans s2))).fresh hb
      rw [Int.toNat_natCast] at t3 ⊢
      exact q _ _ (s1.trans (s2.trans t3)) (.tup (SqT.of ((wos_in n3).trans upd_same)) (DqAll.same (My.Same.wos t3) (DqAll.rep hxs k)))
theorem EvQ.lenT (h : EvQ K av H0 σ t (.tuple ds)) : EvQ K av H0 σ (tCB (rLenQ K) (tCons t tNil)) (.int (ds.length : Int)) := fun H s Q q => by
  refine h H s _ fun x H1 s1 hx => ?_
  obtain ⟨a, xs, rfl, hT, hxs⟩ := hx.un_tup
  refine ⟨a, xs, rfl, .inr (My.Same.sqt wos_le hT), ?_⟩
  rw [hxs.len]
  exact q _ _ s1 (.int _)
theorem EvQ.tupRg {k : Nat} (hp : Avs av H0) (h : EvQ K av H0 σ t (.int (k : Int))) (hk : k ≤ 1000) : EvQ K av H0 σ (tTupRg (tRg1 t)) (.tuple ((ups k).map PyData.int)) := fun H s Q q => by
  refine h H s _ fun x H1 s1 hx => ?_
  cases hx
  refine ⟨_, rfl, RgOk.of_le (Int.le_refl 0) (by omega) (by decide) (by omega), fun b hb => ?_⟩
  have hrg : rgV 0 (k : Int) = (ups k).map V.int := by
    unfold rgV ups
    rw [List.map_map, show ((k : Int) - 0).toNat = k by omega]
    refine List.map_congr_left fun i _ => ?_
    show V.int (0 + (i : Int)) = V.int (i : Int)
    rw [Int.zero_add]
  rw [hrg]
  have t3 := My.Same.new (o := HO.tup ((ups k).map V.int)) hb
  have n3 := (hp.same (s.trans s1)).fresh hb
  exact q _ _ (s1.trans t3) (.tup (SqT.of ((wos_in n3).trans upd_same)) (DqAll.ints _))
end
theorem SmAll.rep {W D : Nat} {ds : List PyData} (h : SmAll W D ds) : ∀ k : Nat, SmAll (k * W) D (List.replicate k ds).flatten
  | 0 => by
    rw [Nat.zero_mul]
    exact SmAll.nil.mono (Nat.le_refl _) (Nat.zero_le _)
  | k + 1 => by
    rw [List.replicate_succ, List.flatten_cons]
    exact (SmAll.append h (SmAll.rep h k)).mono (by rw [Nat.succ_mul]; omega) (Nat.le_refl _)
theorem cutD_take {ds : List PyData} {k : Nat} : cutD ds none (some (k : Int)) = ds.take k := by
  unfold cutD
  rw [HT.sIx_none, show HT.sIx ds.length ds.length (some (k : Int)) = min k ds.length from HT.sIx_nat _ _ k, List.drop_zero, Nat.sub_zero]
  by_cases h : k ≤ ds.length
  · rw [Nat.min_eq_left h]
  · rw [Nat.min_eq_right (by omega), List.take_length, List.take_of_length_le (by omega)]
theorem cutD_len {ds : List PyData} {lo hi : Option Int} : (cutD ds lo hi).length ≤ ds.length := by
  unfold cutD
  rw [List.length_take, List.length_drop]
  omega
theorem tiInts {ns : List Int} (h : ∀ x ∈ ns, x.natAbs ≤ 1000000) : Ti 1 (.tuple (ns.map PyData.int)) := .inr ⟨_, rfl, fun x hx => by
  obtain ⟨y, hy, rfl⟩ := List.mem_map.mp hx
  exact ⟨y, rfl, h y hy⟩⟩
/-- as SmL, and the list is nowhere in its data -/
def SmO (K : PySem.W.Frag) (av : List Addr) (H : Hp) (a : Addr) (W D m : Nat) : Prop := a ∉ av ∧ ∃ (xs : List V) (ds : List PyData), H a = some (.lst xs) ∧ DqAll K (wos (a :: av) H) xs ds ∧ (∀ d ∈ ds, Sm W D d) ∧ ds.length ≤ m
theorem wos_fresh {av : List Addr} {z : Addr} {H H' : Hp} (hz : H z = none) (s : Same H H') : Same (wos av H) (wos (z :: av) H') := fun b o e => by
  obtain ⟨n, e⟩ := wos_some e
  have nb : b ≠ z := fun y => by
    rw [y, hz] at e
    cases e
  rw [wos_in (by rw [List.mem_cons, not_or]; exact ⟨nb, n⟩)]
  exact s _ _ e
theorem wos_less {av : List Addr} {z : Addr} {H : Hp} : Same (wos (z :: av) H) (wos av H) := fun b o e => by
  obtain ⟨n, e⟩ := wos_some e
  rw [List.mem_cons, not_or] at n
  rw [wos_in n.2]
  exact e
theorem wos_put {av : List Addr} {z : Addr} {H : Hp} {o : HO} : Same (wos (z :: av) H) (wos (z :: av) (upd H z o)) := fun b o e => by
  obtain ⟨n, e⟩ := wos_some e
  rw [wos_in n, upd_ne (fun y => n (by rw [y]; exact List.mem_cons_self))]
  exact e
theorem SmL.catO {K : PySem.W.Frag} {av : List Addr} {H : Hp} {a b : Addr} {W D m k : Nat} {Q : VK} (hav : Avs av H) (h1 : SmL K av H a W D m) (h2 : SmL K av H b W D k) (hl : m + k ≤ 10000) (q : ∀ z H', H z = none → Same H H' → SmO K av H' z W D (m + k) → Q (.ref z) H') : rCat (.ref a) (.ref b) H Q := by
  obtain ⟨n1, xs, ds, e1, hx, hs, l1⟩ := h1
  obtain ⟨n2, ys, es, e2, hy, ht, l2⟩ := h2
  refine ⟨a, b, xs, ys, rfl, rfl, e1, e2, by rw [hx.len, hy.len]; exact smallN (by omega), fun z hz => ?_⟩
  have s := My.Same.new (o := HO.lst (xs ++ ys)) hz
  have sf := wos_fresh (av := av) hz s
  refine q z _ hz s ⟨hav.fresh hz, xs ++ ys, ds ++ es, upd_same, DqAll.append (DqAll.same sf hx) (DqAll.same sf hy), fun d hd => ?_, by rw [List.length_append]; omega⟩
  rcases List.mem_append.mp hd with hd | hd
  · exact hs d hd
  · exact ht d hd
/-- what is above 0 stays, else: is it 1 -/
def posOneD : PyData → PyData
  | .int i => if 0 < i then .int i else .bool (decide (V.int i = V.int 1))
  | d => d
theorem iteB {p : Prop} [Decidable p] : ∃ b : Int, (if decide p = true then (1 : Int) else 0) = b ∧ 0 ≤ b ∧ b ≤ 1 := by
  by_cases z : p
  · rw [decide_eq_true z]
    exact ⟨1, rfl, by decide, by decide⟩
  · rw [decide_eq_false z]
    exact ⟨0, rfl, by decide, by decide⟩
end My

set_option Elab.async false
set_option linter.all false
set_option maxRecDepth 100000
set_option maxHeartbeats 4000000
namespace My
open PySem PySem.Spec PyProof.Rows L2

/-! ### set(l), l a list of whole numbers, as a set that can be walked -/
section
variable {P : Program} {w : World} {A : Around} {E : Value → Shared → Prop} {s : Shared} {a : Addr} {S : Int → Bool} {n : Nat}
theorem call_set_lstI {l : Addr} {items : Array Value} (ns : List Int) {Q : Value → Shared → Prop} (hh : A.handled = none) (hl : s.heap.IsList l items) (hit : IntsAre items.toList ns) (hb : ns.length + 1 < scanBound)
    (h : ∀ (h' : Heap) (tk c : Nat), SetR w h' s.heap.objs.size (fun j => decide (j ∈ ns)) c → c ≤ ns.length → (∀ b o, s.heap.get? b = some o → h'.get? b = some o) → Q (.ref s.heap.objs.size) { s with heap := h', toks := tk }) :
    wpAny (model P w) A (call (.type "set") [.ref l]) Q E s := by
  have hisz : items.size = ns.length := by
    have q := IntsAre.length hit
    rw [Array.length_toList] at q
    exact q
  obtain ⟨c, tl, hmro⟩ := F.called_set.mro
  have hmade := F.called_set.made
  have hsub := F.called_set.sub
  refine wpAny_call (codeAny_of_tree ?_)
  show wpAny _ _ (callAny (.type "set") _) _ _ _
  refine wpAny_pure ⟨Code.quiet_builtin _ (by decide +kernel), codeAny_builtin F.entry_type_call ?_⟩
  rw [Around.under_plain (weight_type_call_type "set" [.ref l] []) rfl]
  have h1 := F.called_set.notType
  have h2 := F.called_set.canCreate
  have hct := F.typeCall_set_1 (.ref l)
  repeat (any_goals (first | assumption | wp_step))

  refine codeAny_mono (code_set_led1 (.ref l) (E := E) (Q₁ := fun obj s₁ => obj = .ref s.heap.objs.size ∧ s₁ = { s with heap := s.heap.push { cls := .type "set", dict := none, data := .set #[] 0 (.fresh 0 0 (!w.params.followText "set-order")) } }) ⟨rfl, rfl⟩) fun r s₁ hr => ?_
  cases r with
  | error e => exact hr
  | ok fl =>
    cases fl with
    | ret obj =>
      obtain ⟨rfl, rfl⟩ := hr
      have hS : (s.heap.push { cls := .type "set", dict := none, data := .set #[] 0 (.fresh 0 0 (!w.params.followText "set-order")) }).get? s.heap.objs.size = some { cls := .type "set", dict := none, data := .set #[] 0 (.fresh 0 0 (!w.params.followText "set-order")) } := Heap.get?_push_size _ rfl
      have hT : Shared.TypeIs { s with heap := s.heap.push { cls := .type "set", dict := none, data := .set #[] 0 (.fresh 0 0 (!w.params.followText "set-order")) } } (.ref s.heap.objs.size) "set" := ⟨_, hS, rfl⟩
      have hli := F.called_set.init.lookup
      have hbi := F.called_set.init.bind (.ref s.heap.objs.size)
      repeat (any_goals (first | assumption | wp_step))

      refine codeAny_mono (codeAny_call_builtin (R := wants (fun r s₂ => r = .none ∧ ∃ h' tk c, s₂ = { s with heap := h', toks := tk } ∧ SetR w h' s.heap.objs.size (fun j => decide (j ∈ ns)) c ∧ c ≤ ns.length ∧
          (∀ b o, s.heap.get? b = some o → h'.get? b = some o)) E) F.called_set.init.plain F.entry_set_init (check_set_init_1 hT ?_)) fun r₂ s₂ hr₂ => ?_
      · obtain ⟨ol, hol, hcl, nl, hdl⟩ := hl
        obtain ⟨ocls, odict, odata, oslots⟩ := ol
        simp only at hcl hdl
        subst hcl; subst hdl
        have hol' : (s.heap.push { cls := .type "set", dict := none, data := .set #[] 0 (.fresh 0 0 (!w.params.followText "set-order")) }).get? l = some { cls := .type "list", dict := odict, data := .seq items nl, slots := oslots } := Heap.get?_push_of_some _ hol
        have hsls := F.sub_list_set
        have hslf := F.sub_list_frozenset
        have hne : (Value.type "list" == Value.type "dict") = false := by decide
        have hl1 : (s.heap.push { cls := .type "set", dict := none, data := .set #[] 0 (.fresh 0 0 (!w.params.followText "set-order")) }).IsList l items := ⟨_, hol', rfl, nl, rfl⟩
        unfold Builtin.«set.__init__» noKeywords Builtin.Frozenset.updateFrom
        generalize hPI : pyIter = PI
        wp_walk
        subst hPI

        refine wpAny_pyIter_list hl1 ?_
        refine wpAny_bind (wpAny_runValue ?_)
        have hlS : l < s.heap.objs.size := Heap.lt_size hol
        have hh3 : A.in1.in1.in1.handled = none := by simp [hh]
        have hz1 : (s.heap.push { cls := .type "set", dict := none, data := .set #[] 0 (.fresh 0 0 (!w.params.followText "set-order")) }).objs.size = s.heap.objs.size + 1 := Heap.size_push ..
        have hneI : l ≠ (s.heap.push { cls := .type "set", dict := none, data := .set #[] 0 (.fresh 0 0 (!w.params.followText "set-order")) }).objs.size := by
          rw [Heap.size_push]; exact Nat.ne_of_lt (Nat.lt_succ_of_lt hlS)
        have hSf : s.heap.objs.size ∉ [(s.heap.push { cls := .type "set", dict := none, data := .set #[] 0 (.fresh 0 0 (!w.params.followText "set-order")) }).objs.size, l] := by
          rw [Heap.size_push]; simp only [List.mem_cons, List.mem_singleton, List.not_mem_nil, or_false, not_or]
          exact ⟨Nat.ne_of_lt (Nat.lt_succ_self _), Nat.ne_of_gt hlS⟩
        have hval : ∀ (i : Nat) (v : Value), items[i]? = some v → ∃ k t, ns[i]? = some k ∧ v = .int k t := fun i v hv => by
          have hi : i < ns.length := by rw [← hisz]; exact (Array.getElem?_eq_some_iff.mp hv).1
          obtain ⟨t, e⟩ := PyProof.Rows.IntsAre.int_at hit i v (by rw [Array.getElem?_toList]; exact hv)
          refine ⟨ns[i], t, List.getElem?_eq_getElem hi, ?_⟩
          rw [e, List.getD_eq_getElem?_getD, List.getElem?_eq_getElem hi] <;> rfl
        refine set_update_ints ((Walks.list hh3 _ l hneI items).toS) s.heap.objs.size
          hSf ns hisz hb hval (items.size - 0) 0 _ (by omega) (Nat.zero_le _)
          ⟨⟨_, Heap.get?_push_size _ rfl, rfl, rfl⟩, (hl1.push _)⟩ ?hS0 ?hR
        case hS0 =>
          have hget : ((s.heap.push { cls := .type "set", dict := none, data := .set #[] 0 (.fresh 0 0 (!w.params.followText "set-order")) }).push { cls := .type "list_iterator", data := .fields #[.ref l, .int 0 0] }).get? s.heap.objs.size
              = some { cls := .type "set", dict := none, data := .set #[] 0 (.fresh 0 0 (!w.params.followText "set-order")) } := Heap.get?_push_of_some _ hS
          exact ⟨0, Nat.le_refl 0, setR_new_at hget⟩
        case hR =>
          intro s' c' hm hc' hS'
          obtain ⟨h', g2, d', tk', os'⟩ := s'
          have eg : g2 = s.gens := hm.gens
          have ed : d' = s.drawn := hm.drawn
          have eo : os' = s.os := hm.os
          subst eg; subst ed; subst eo
          show wpAny _ _ _ _ _ _
          refine wpAny_pure ?_
          show wpAny _ _ (ret Value.none) _ _ _
          rw [hisz] at hc'
          refine wpAny_pure ⟨rfl, h', tk', c', rfl, hS', hc', fun b o e => ?_⟩
          have hb0 : b < s.heap.objs.size := Heap.lt_size e
          have hb1 : b ≠ s.heap.objs.size := Nat.ne_of_lt hb0
          have hb2 : b ≠ (s.heap.push { cls := .type "set", dict := none, data := .set #[] 0 (.fresh 0 0 (!w.params.followText "set-order")) }).objs.size := by
            rw [Heap.size_push]; exact Nat.ne_of_lt (Nat.lt_succ_of_lt hb0)
          exact hm.heap b o (by simp only [List.mem_cons, List.mem_singleton, List.not_mem_nil, or_false, not_or]; exact ⟨hb1, hb2⟩) (Heap.get?_push_of_some _ (Heap.get?_push_of_some _ e))

      · cases r₂ with
        | error e => exact hr₂
        | ok fl₂ =>
          cases fl₂ with
          | ret r =>
            obtain ⟨rfl, h', tk, c', rfl, hS', hc', hk'⟩ := hr₂
            repeat (any_goals (first | assumption | wp_step))
            exact h _ _ _ hS' hc' hk'
          | _ => exact hr₂.elim
    | _ => exact hr.elim
end
def rSetOfL (K : PySem.W.Frag) (w : World) : List V → Hp → VK → Prop := fun xs H Q => ∃ (l : Addr) (ns : List Int), xs = [V.ref l] ∧ SqL K H l (ns.map V.int) ∧ ns.length ≤ 4000 ∧
  ∀ a c, H a = none → c ≤ ns.length → (∀ L : List Int, (∀ k ∈ ns, k ∈ L) → c ≤ L.length) → Q (.ref a) (upd H a (SetO w a (fun j => decide (j ∈ ns)) c))
theorem cr_setOfL {X : Cx} (hc : X.calm = true) : CallR X (.type "set") (rSetOfL X.K X.w) := by
  intro pins s σ H vs us Q I r h
  obtain ⟨l, ns, rfl, hq, hl, q⟩ := h
  rw [Vals.ref1 r]
  obtain ⟨its, rv, pl, hz⟩ := I.list hq
  refine call_set_lstI ns (I.ok.hd hc) pl.isList (by simpa using ints_of_vals rv) (by unfold scanBound; omega) fun h' tk c R hcn k => ?_
  have hL : ∀ L : List Int, (∀ k ∈ ns, k ∈ L) → c ≤ L.length := fun L hs => by
    obtain ⟨o, es, ep, t, ho, hex, hdt, g, nd, hm2, hb, hf, hn, hr, hl2⟩ := R
    have h1 := len_sub nd (ns := L) (fun k hk => hs k (by
      have := (hm2 k).mpr hk
      rwa [decide_eq_true_eq] at this))
    rw [List.length_map, Array.length_toList, hn] at h1
    exact h1
  exact ⟨.ref s.heap.objs.size, _, I.laid (t' := tk) k (Nat.le_refl _) (setO_new R), rfl, q _ c (I.hok.fresh (Nat.le_refl _)) hcn hL⟩
theorem setOfL {X : Cx} (K : PySem.W.Frag) (w : World) (hc : X.calm = true) (h : X.K = K := by rfl) (hw : X.w = w := by rfl) : CallR X (.type "set") (rSetOfL K w) := by subst h hw; exact cr_setOfL hc
theorem sortedSet {X : Cx} (w : World) (hc : X.calm = true) (hw : X.w = w := by rfl) : CallR X (.builtin "sorted") (rSortedSet w) := by subst hw; exact cr_sortedSet hc

end My

set_option Elab.async false
set_option linter.all false
set_option maxRecDepth 100000
set_option maxHeartbeats 4000000
namespace My
open PySem PySem.Spec PyProof.Rows L2

/-! ### tuple.index, flat items -/
def rIndexT (K : PySem.W.Frag) : V → List V → Hp → VK → Prop := fun x xs H Q => ∃ (a : Addr) (ns : List Int) (k : Int) (j : Nat), x = V.ref a ∧ xs = [.int k] ∧ SqT K H a (ns.map V.int) ∧ ns[j]? = some k ∧
  (∀ m : Nat, m < j → ns[m]? ≠ some k) ∧ Q (.int (j : Nat)) H
theorem mt_indexT {X : Cx} : MtR X "tuple.index" (rIndexT X.K) := by
  intro pins s σ H x xs v us Q I rx rxs h
  obtain ⟨a, ns, k, j, rfl, rfl, hs, hz, hno, q⟩ := h
  cases rx
  obtain ⟨u0, rfl, tk, rfl⟩ := vals1 rxs
  obtain ⟨its, rv, ⟨⟨cls, dd, data, sl⟩, ho, hc, n, hd⟩, hlen⟩ := I.tuple hs
  simp only at hc hd
  subst hc hd
  have hi := ints_of_vals rv
  have hvl := rv.length
  rw [List.length_map] at hvl
  have hat : ∀ (m : Nat) (hm : m < its.toArray.size), ∃ z t, ns[m]? = some z ∧ its.toArray[m] = Value.int z t := fun m hm => by
    have hm2 : m < ns.length := by rw [hvl]; simpa using hm
    have hq : its[m]? = some its.toArray[m] := by
      have : m < its.length := by simpa using hm
      rw [List.getElem?_eq_getElem this]
      simp
    obtain ⟨t, e⟩ := PyProof.Rows.IntsAre.int_at hi m _ hq
    refine ⟨ns[m], t, List.getElem?_eq_getElem hm2, ?_⟩
    rw [e, List.getD_eq_getElem?_getD, List.getElem?_eq_getElem hm2]
    rfl
  have hjl : j < ns.length := (List.getElem?_eq_some_iff.mp hz).1
  have hj : j < its.toArray.size := by simpa using (show j < its.length by omega)
  refine call_meets PySem.F.slot_tuple_index ⟨_, ho, rfl⟩ PySem.F.entry_tuple_index (PySem.F.args_tuple_index_2 _ _)
    (TI.tuple_indexAt a its.toArray n dd sl (.int k tk) (eqk k) j hj ?_ ?_) ⟨ho, fun y hy => ?_, ?_⟩
  · obtain ⟨z, t, e1, e2⟩ := hat j hj
    rw [e2]
    rw [hz] at e1
    cases e1
    exact beq_self_eq_true k
  · intro m hm hmj
    obtain ⟨z, t, e1, e2⟩ := hat m hm
    rw [e2]
    refine beq_eq_false_iff_ne.mpr fun z' => hno m hmj ?_
    rw [e1, z']
  · obtain ⟨m, hm, e⟩ := Array.getElem_of_mem hy
    obtain ⟨z, t, e1, e2⟩ := hat m hm
    rw [← e, e2]
    exact SeqAt.EqAt.int_int z t k tk
  · exact ⟨.int (j : Nat), H, I.tok _, ⟨_, rfl⟩, q⟩
theorem indexT {X : Cx} (K : PySem.W.Frag) (h : X.K = K := by rfl) : MtR X "tuple.index" (rIndexT K) := by subst h; exact mt_indexT
end My

set_option Elab.async false
set_option linter.all false
set_option maxRecDepth 100000
set_option maxHeartbeats 4000000
namespace My
open PySem PySem.Spec PyProof.Rows L2

/-! ### states -/
def ixOf : List Int → Int → Nat
  | [], _ => 0
  | a :: l, x => if a = x then 0 else ixOf l x + 1
theorem ixOf_at : ∀ {l : List Int} {x : Int}, x ∈ l → l[ixOf l x]? = some x ∧ ∀ m < ixOf l x, l[m]? ≠ some x
  | a :: l, x, h => by
    unfold ixOf
    by_cases e : a = x
    · rw [if_pos e]
      exact ⟨by rw [e]; rfl, fun m hm => absurd hm (Nat.not_lt_zero _)⟩
    · rw [if_neg e]
      have hx : x ∈ l := by
        rcases List.mem_cons.mp h with z | z
        · exact absurd z.symm e
        · exact z
      obtain ⟨h1, h2⟩ := ixOf_at hx
      refine ⟨by simpa using h1, fun m hm => ?_⟩
      cases m with
      | zero => simpa using e
      | succ m => simpa using h2 m (by omega)
theorem ixOf_lt {l : List Int} {x : Int} (h : x ∈ l) : ixOf l x < l.length := (List.getElem?_eq_some_iff.mp (ixOf_at h).1).1
/-- the part of a place in the first state -/
def firstP (rs : List Int) (x : Int) : Int := if x ∈ rs then (ixOf rs x : Nat) else -1
def firstS (n : Nat) (rs : List Int) : List Int := (ups n).map (firstP rs)
theorem ups_succ (k : Nat) : ups (k + 1) = ups k ++ [(k : Int)] := by
  unfold ups
  rw [List.range_succ, List.map_append]
  rfl
def okP (ss : List Int) (i : Int) (p : Int) : Bool := match ss[p.toNat]? with
  | some z => decide (z = i) || decide (z = -1)
  | none => false
/-- the lot of the places of part i and of the open ones -/
def lotN (ss : List Int) (i : Int) : List Int := (ups ss.length).filter (okP ss i)
theorem okP_at {ss : List Int} {i z : Int} {j : Nat} (h : ss[j]? = some z) : okP ss i (j : Int) = (decide (z = i) || decide (z = -1)) := by
  unfold okP
  rw [Int.toNat_natCast, h]
theorem mem_lotN {ss : List Int} {i x : Int} (h : x ∈ lotN ss i) : 0 ≤ x ∧ x < ss.length := mem_ups.mp (List.mem_filter.mp h).1
theorem lotN_len {ss : List Int} {i : Int} : (lotN ss i).length ≤ ss.length := by
  unfold lotN
  have := List.length_filter_le (okP ss i) (ups ss.length)
  rw [ups_len] at this
  exact this
theorem set_cut {α : Type} : ∀ {L : List α} {p : Nat} {x : α}, p < L.length → L.take p ++ [x] ++ L.drop (p + 1) = L.set p x
  | a :: L, 0, x, _ => by simp
  | a :: L, p + 1, x, h => by
    have := set_cut (L := L) (p := p) (x := x) (by simpa using h)
    simpa using this
theorem cut_drop {xs : List V} {k : Nat} (h : k ≤ xs.length) : cutV xs (some (k : Int)) none = xs.drop k := by
  unfold cutV
  rw [HT.sIx_none, show HT.sIx xs.length 0 (some (k : Int)) = min k xs.length from HT.sIx_nat _ _ k, Nat.min_eq_left h]
  refine List.take_of_length_le ?_
  rw [List.length_drop]
  exact Nat.le_refl _
theorem in_pair {z i j : Int} : inV (.int z) [.int i, .int j] = (decide (z = i) || decide (z = j)) := by
  have e : inV (.int z) ([i, j].map V.int) = decide (z ∈ [i, j]) := inV_ints
  have e2 : inV (.int z) [.int i, .int j] = inV (.int z) ([i, j].map V.int) := rfl
  rw [e2, e, Bool.eq_iff_iff]
  simp
def spFirst (K : PySem.W.Frag) : Sp := fun vs H Q _ => ∃ (v dv : V) (n : Nat) (e e2 : PyData) (rs : List Int), vs = [v, dv] ∧ Dq K H v (.tuple [.int n, e]) ∧ Dq K H dv (.tuple [tI rs, e2]) ∧ n ≤ 100 ∧
  ∀ (a : Addr) H', Same H H' → SqT K H' a ((firstS n rs).map V.int) → Q (.ref a) H'
def spLotFor (K : PySem.W.Frag) : Sp := fun vs H Q _ => ∃ (st : Addr) (ss : List Int) (i : Int), vs = [.ref st, .int i] ∧ SqT K H st (ss.map V.int) ∧ ss.length ≤ 100 ∧
  ∀ (a : Addr) H', Same H H' → SqT K H' a ((lotN ss i).map V.int) → Q (.ref a) H'
def spRoom (K : PySem.W.Frag) : Sp := fun vs H Q _ => ∃ (v dv : V) (st : Addr) (i : Nat) (n : Nat) (T : List (Int × Int)) (e2 : PyData) (rs ss : List Int) (z : Int), vs = [v, dv, .ref st, .int i] ∧ Dq K H v (webD n T) ∧ WebOk n T ∧ 1 ≤ n ∧ n ≤ 12 ∧
  Dq K H dv (.tuple [tI rs, e2]) ∧ rs[i]? = some z ∧ 0 ≤ z ∧ z < n ∧ SqT K H st (ss.map V.int) ∧ ss.length = n ∧
  ∀ (a : Addr) (r : List Int) H', PieceIs T (lotN ss i) z r → Same H H' → SqT K H' a (r.map V.int) → Q (.ref a) H'
def spPut (K : PySem.W.Frag) : Sp := fun vs H Q _ => ∃ (st : Addr) (ss : List Int) (p : Nat) (i : Int), vs = [.ref st, .int p, .int i] ∧ SqT K H st (ss.map V.int) ∧ p < ss.length ∧ ss.length ≤ 1000 ∧
  ∀ (a : Addr) H', Same H H' → SqT K H' a ((ss.set p i).map V.int) → Q (.ref a) H'
/-- two items, the first a tuple of ints -/
theorem Dq.pair {K : PySem.W.Frag} {H : Hp} {v : V} {rs : List Int} {e : PyData} (h : Dq K H v (.tuple [tI rs, e])) : ∃ (a ra : Addr) (x : V), v = .ref a ∧ SqT K H a [.ref ra, x] ∧ SqT K H ra (rs.map V.int) := by
  obtain ⟨a, xs, rfl, hT, hxs⟩ := Dq.un_tup h
  cases hxs with
  | cons h1 hxs =>
  cases hxs with
  | cons h2 hxs =>
  cases hxs
  obtain ⟨ra, ys, rfl, hT2, hys⟩ := Dq.un_tup (show Dq K H _ (.tuple (rs.map PyData.int)) from h1)
  have := DqAll.intsOf hys (intsD_map rs)
  rw [intsOf_map] at this
  subst this
  exact ⟨a, ra, _, rfl, hT, hT2⟩
theorem at_nat {rs : List Int} {i : Nat} {z : Int} (h : rs[i]? = some z) : atI (rs.map V.int) (i : Int) = some (.int z) := by
  have hi : i < rs.length := (List.getElem?_eq_some_iff.mp h).1
  obtain ⟨w, h1, h2⟩ := at_int (cs := rs) (i := (i : Int)) (by omega) (by omega)
  rw [Int.toNat_natCast, h] at h1
  cases h1
  exact h2
end My
namespace My
open PySem PySem.Spec PyProof.Rows L2
theorem catI {K : PySem.W.Frag} {H : Hp} {a b : Addr} {xs ys : List V} {Q : VK} (ha : SqT K H a xs) (hb : SqT K H b ys) (hl : xs.length + ys.length ≤ 10000) (q : ∀ c H', Same H H' → SqT K H' c (xs ++ ys) → Q (.ref c) H') : rCatA K (.ref a) (.ref b) H Q := by
  refine ⟨a, b, xs, ys, rfl, rfl, ha, hb, smallN hl, fun z => ?_, fun z1 z2 => ?_, fun z1 z2 c hc => q c _ (My.Same.new hc) (SqT.of upd_same)⟩
  · subst z
    exact q b H (Same.refl H) hb
  · subst z2
    refine q a H (Same.refl H) ?_
    rw [List.append_nil]
    exact ha
end My

set_option Elab.async false
set_option linter.all false
set_option maxRecDepth 100000
set_option maxHeartbeats 4000000
namespace My
open PySem PySem.Spec PyProof.Rows L2

/-! ### tuples known to have no attributes of their own: their methods may be called -/
def Plain (H : Hp) (a : Addr) (xs : List V) : Prop := ∃ ob : Obj, H a = some (.frz ob (.tup xs)) ∧ ob.cls = .type "tuple" ∧ ob.dict = none
theorem Plain.same {H H' : Hp} {a : Addr} {xs : List V} (s : Same H H') (h : Plain H a xs) : Plain H' a xs := by
  obtain ⟨ob, e, h1, h2⟩ := h
  exact ⟨ob, s _ _ e, h1, h2⟩
theorem Plain.sqt {K : PySem.W.Frag} {H : Hp} {a : Addr} {xs : List V} (h : Plain H a xs) : SqT K H a xs := by
  obtain ⟨ob, e, _⟩ := h
  exact .inl (.inr ⟨ob, e⟩)
theorem Plain.wo {H : Hp} {p a : Addr} {xs : List V} (hp : ∃ us, H p = some (.lst us)) (h : Plain H a xs) : Plain (My.wo p H) a xs := by
  obtain ⟨ob, e, h1, h2⟩ := h
  obtain ⟨us, e2⟩ := hp
  refine ⟨ob, (wo_ne fun z => ?_).trans e, h1, h2⟩
  rw [z, e2] at e
  cases e
section
variable {X : Cx}
def rTupleOfF (K : PySem.W.Frag) : List V → Hp → VK → Prop := fun xs H Q => ∃ p ys, xs = [.ref p] ∧ SqL K H p ys ∧ ∀ l (ob : Obj), H l = none → ob.cls = .type "tuple" → ob.dict = none → Q (.ref l) (upd H l (.frz ob (.tup ys)))
theorem call_tupleOfF : CallR X (.type "tuple") (rTupleOfF X.K) := by
  intro pins s σ H xs us Q I r h
  obtain ⟨p, ys, rfl, hq, q⟩ := h
  obtain ⟨u, rfl, rx⟩ := vals1 r
  cases rx
  obtain ⟨its, r', pl, hz⟩ := I.list hq
  have hlen := r'.length
  refine call_tuple_list pl.isList (fun h' kp => ?_) (by simp only [List.size_toArray] <;> omega)
  have I1 : Inv X pins σ H { s with heap := h' } := I.kept (t' := s.toks) kp
  exact ⟨.ref h'.objs.size, _, I1.laid (t' := s.toks) (o := .frz { cls := .type "tuple", data := .seq its.toArray } (.tup ys)) (fun b o e => Heap.get?_push_of_some _ e) (Nat.le_refl _) ⟨Heap.get?_push_size _ rfl, hz, its, r', IsTup.new _ _⟩, rfl, q _ _ (I1.hok.fresh (Nat.le_refl _)) rfl rfl⟩
theorem tupleOfF (K : PySem.W.Frag) (h : X.K = K := by rfl) : CallR X (.type "tuple") (rTupleOfF K) := by subst h; exact call_tupleOfF
def rSlF : V → Option Int → Option Int → Hp → VK → Prop := fun x lo hi H Q => ∃ a xs, x = .ref a ∧ Plain H a xs ∧ ∀ b H', Same H H' → Plain H' b (cutV xs lo hi) → Q (.ref b) H'
theorem slF : SlR X rSlF := by
  intro pins s σ H x v vl vu lo hi sl Q I rx hs pl pu h
  obtain ⟨a, xs, rfl, hp, q⟩ := h
  have hx : SqT X.K H a xs := hp.sqt
  cases rx
  obtain ⟨its, r, ht, hz⟩ := I.tuple hx
  have hlen : its.toArray.size = xs.length := by rw [List.size_toArray]; exact r.length.symm
  refine ⟨"tuple", _, PyProof.Rows.slot_tuple_getitem.lookup, ht.typeIs, ?_⟩
  by_cases hw : HT.sIx xs.length 0 lo = 0 ∧ HT.sIx xs.length xs.length hi = xs.length
  · refine getItem_tuple_whole ht hs pl pu (by rw [hlen]; exact hw) ⟨.ref a, H, I, rfl, q a H (Same.refl H) ?_⟩
    rw [cutV_whole hw]
    exact hp
  · refine HT.getItem_tuple_cut ht hs pl pu (by rw [hlen]; exact hw) ?_ (by rw [hlen]; exact hz)
    rw [hlen]
    have fr : H s.heap.objs.size = none := I.hok.fresh (Nat.le_refl _)
    refine ⟨.ref s.heap.objs.size, _, I.laid (t' := s.toks) (o := .frz _ (.tup (cutV xs lo hi))) (fun b ob q => Heap.get?_push_of_some _ q) (Nat.le_refl _) ⟨Heap.get?_push_size _ rfl, ?_⟩, rfl, q _ _ (My.Same.new fr) ⟨_, upd_same, rfl, rfl⟩⟩
    exact ⟨Nat.le_trans (cutV_length xs lo hi) hz, _, (r.drop (HT.sIx xs.length 0 lo)).take (HT.sIx xs.length xs.length hi - HT.sIx xs.length 0 lo), IsTup.new _ _⟩
/-- o.m(..), o such a tuple -/
def tBF (r : V → List V → Hp → VK → Prop) (to : TE) (t : TA) : TE := fun σ H Q => to σ H fun x H1 => (∃ p ys, x = .ref p ∧ Plain H1 p ys) ∧ t σ H1 fun xs H2 => r x xs H2 Q
theorem pe_bmF {o e : Expr} {es : List Expr} {to : TE} {t : TA} {name : Str} {apos cpos : Pos} {id : String} {r : V → List V → Hp → VK → Prop} (pa : PlainAttrs "tuple") (slot : Slot "tuple" name id) (hty : typeOf (.builtin id) = pure (.type "method_descriptor")) (hm : MtR X id r) (ho : PE X o to) (ha : PA X (e :: es) t)
    (hbase : attributeBase o name X.env (eval o X.env) = eval o X.env := by rfl)
    (hfew : ((backTo cpos (starEach (e :: es) X.env)).all (fun x => !x.1) && (backToKw cpos (keywordEach [] X.env)).all (fun x => x.1.isSome)
      && decide ((e :: es).length + ([] : List Keyword).length + (if ([] : List Keyword).isEmpty then 0 else 1) < 30)) = true := by rfl)
    (hline : (apos.endLine == cpos.line) = true := by rfl) (hs : starEach (e :: es) X.env = (false, eval e X.env) :: starEach es X.env := by rfl) (hplain : (backTo cpos (starEach es X.env)).any (·.1) = false := by rfl) :
    PE X (.Call (.Attribute o name apos) (e :: es) [] cpos) (tBF r to t) := by
  refine ⟨fun pins s σ H Q I h => ?_⟩
  refine wpAny_Call_method_late hbase hfew hline rfl (thn (ho.run pins s σ H _ I h) fun v s1 ⟨x, H1, I1, r1, ty, q1⟩ => ?_)
  obtain ⟨p, ys, rfl, ob, e1, c1, d1⟩ := ty
  cases r1
  obtain ⟨g1, _⟩ := I1.hok p _ e1
  refine ⟨"tuple", id, pa, slot, hty, ⟨ob, g1, c1⟩, fun a z => ?_, ?_⟩
  · cases z
    exact ⟨ob, g1, d1⟩
  · have hA := ha.run cpos pins s1 σ H1 _ I1 q1
    rw [hs] at hA ⊢
    refine Calls.callWith_builtin (by show (false || (backTo cpos (starEach es X.env)).any (·.1)) = false; rw [hplain] <;> rfl) (Calls.evalArgs_plain ?_)
    exact thn hA fun us s2 ⟨vs, H2, I2, r2, q2⟩ => hm pins s2 σ H2 (.ref p) vs (.ref p) us Q I2 rfl r2 q2
end
/-- as spOrder, the tuple plain -/
def spOrderF : Sp := fun vs H Q _ => ∃ (p c : Addr) (n k : Nat), vs = [.ref p, .int k] ∧ Pen H p c n ∧ n ≤ 900000 ∧ k ≤ 1000 ∧
  ∀ (q : Addr) (o : List Int) H', o.Perm (ups k) → Pen H' p c (n + k) → Same (wo p H) (wo p H') → wo p H q = none → Plain H' q (o.map V.int) → Q (.ref q) H'
theorem order_of {K : PySem.W.Frag} {vs : List V} {H : Hp} {Q : VK} {E : XK} (h : spOrder K vs H Q E) : spOrderF vs H Q E := by
  obtain ⟨p, c, n, k, rfl, pen, hn, hk, q⟩ := h
  exact ⟨p, c, n, k, rfl, pen, hn, hk, fun a o H' hp pen' s' n' pl => q a o H' hp pen' s' n' (pl.wo (Pen.lst pen')).sqt⟩
def spDrawRootsF : Sp := fun vs H Q _ => ∃ (p c : Addr) (n0 n k : Nat), vs = [.ref p, .int n, .int k] ∧ Pen H p c n0 ∧ n0 ≤ 800000 ∧ n ≤ 100 ∧ k ≤ n ∧
  ∀ (q : Addr) (r : List Int) H', r.Nodup → (∀ x ∈ r, 0 ≤ x ∧ x < n) → r.length = k → Pen H' p c (n0 + n) → Same (wo p H) (wo p H') → Plain H' q (r.map V.int) → Q (.ref q) H'
/-- a deal whose roots are a plain tuple -/
def DealAt (K : PySem.W.Frag) (H : Hp) (a : Addr) (rs ss : List Int) : Prop := ∃ (ra sa : Addr), SqT K H a [.ref ra, .ref sa] ∧ Plain H ra (rs.map V.int) ∧ SqT K H sa (ss.map V.int)
theorem DealAt.same {K : PySem.W.Frag} {H H' : Hp} {a : Addr} {rs ss : List Int} (s : Same H H') (h : DealAt K H a rs ss) : DealAt K H' a rs ss := by
  obtain ⟨ra, sa, h1, h2, h3⟩ := h
  exact ⟨ra, sa, My.Same.sqt s h1, h2.same s, My.Same.sqt s h3⟩
theorem DealAt.dq {K : PySem.W.Frag} {H : Hp} {a : Addr} {rs ss : List Int} (h : DealAt K H a rs ss) : Dq K H (.ref a) (.tuple [tI rs, tI ss]) := by
  obtain ⟨ra, sa, h1, h2, h3⟩ := h
  exact .tup h1 (.cons (Dq.ofTI h2.sqt) (.cons (Dq.ofTI h3) .nil))
def spDrawDealF (K : PySem.W.Frag) : Sp := fun vs H Q _ => ∃ (p c : Addr) (n0 n m : Nat) (v : V) (e : PyData), vs = [.ref p, v, .int m] ∧ Pen H p c n0 ∧ n0 ≤ 700000 ∧ Dq K (wo p H) v (.tuple [.int n, e]) ∧ 1 ≤ n ∧ n ≤ 100 ∧ 1 ≤ m ∧ m ≤ 100 ∧
  ∀ (q : Addr) (rs ss : List Int) H', DealOk n rs ss → rs.length ≤ m → Pen H' p c (n0 + 1 + n + n) → Same (wo p H) (wo p H') → DealAt K (wo p H') q rs ss → Q (.ref q) H'
def spFirstF (K : PySem.W.Frag) : Sp := fun vs H Q _ => ∃ (v : V) (da : Addr) (n : Nat) (e : PyData) (rs ss : List Int), vs = [v, .ref da] ∧ Dq K H v (.tuple [.int n, e]) ∧ DealAt K H da rs ss ∧ n ≤ 100 ∧
  ∀ (a : Addr) H', Same H H' → SqT K H' a ((firstS n rs).map V.int) → Q (.ref a) H'
end My

set_option Elab.async false
set_option linter.all false
set_option maxRecDepth 100000
set_option maxHeartbeats 4000000
namespace My
open PySem PySem.Spec PyProof.Rows L2

/-! ### lists of tuples of whole numbers, told one by one; drawn lists of whole numbers -/
theorem lc_tuples {K : PySem.W.Frag} {te : TE} {ta : TA} {σ : L2.St} {H : Hp} {Q : VK} {i k : Nat} {Pr : Nat → List Int → Prop} (hta : ∀ Q : List V → Hp → Prop, Q [.int (k : Int)] H → ta σ H Q) (hk : k ≤ 1000)
    (hs : ∀ j, j < k → ∀ H1, Same H H1 → ∀ R : VK, (∀ q r H', Pr j r → Same H1 H' → SqT K H' q (r.map V.int) → R (.ref q) H') → te ((wipe σ [i]).set i (some (.int (j : Int)))) H1 R)
    (hw : ∀ j : Nat, wipe ((wipe σ [i]).set i (some (.int (j : Int)))) [i] = wipe σ [i])
    (q : ∀ (a : Addr) (rms : List (List Int)) (H' : Hp), rms.length = k → (∀ (j : Nat) r, rms[j]? = some r → Pr j r) → Same H H' → Dp K H' (.ref a) (.list (rms.map tI)) → Q (.ref a) H') : tLc (iRng1 ta) (gName i) tYes te [i] σ H Q := by
  refine hta _ ⟨(k : Int), rfl, by omega, by omega, fun D hD => ?_⟩
  rw [Int.toNat_natCast]
  refine lc_range (fun j H3 => Same H H3 ∧ ∃ (us : List V) (rms : List (List Int)), H3 D = some (.lst us) ∧ rms.length = j ∧ (∀ (l : Nat) r, rms[l]? = some r → Pr l r) ∧ DpAll K (wo D H3) us (rms.map tI)) ?_ ?_ ?_
  · exact ⟨My.Same.new hD, [], [], upd_same, rfl, (fun l r h => by simp at h), .nil⟩
  · rintro j H3 hj ⟨s3, us, rms, eD, lr, hp, hus⟩
    rw [Int.zero_add]
    refine ⟨hw j, ?_⟩
    show te ((wipe σ [i]).set i (some (.int (j : Int)))) H3 _
    refine hs j hj H3 s3 _ (fun t r H4 hr s4 ht => ?_)
    have e4 := s4 _ _ eD
    obtain ⟨g1, g2⟩ := push (DpAll.same (My.Same.wo s4) hus) (Dp.ofTI (sqt_wo ht e4))
    refine ⟨us, e4, ?_, My.Same.updD (s3.trans s4) hD, us ++ [.ref t], rms ++ [r], g1, by rw [List.length_append, lr]; rfl, fun l r' h => ?_, ?_⟩
    · rw [My.DpAll.len hus, List.length_map, lr]
      exact smallT (by omega)
    · by_cases hl : l < rms.length
      · rw [List.getElem?_append_left hl] at h
        exact hp l r' h
      · have hlj : l = j := by
          have := (List.getElem?_eq_some_iff.mp h).1
          rw [List.length_append] at this
          simp at this
          omega
        subst hlj
        rw [List.getElem?_append_right (by omega), show l - rms.length = 0 by omega] at h
        cases h
        exact hr
    · rw [List.map_append]
      exact g2
  · rintro H3 ⟨s3, us, rms, eD, lr, hp, hus⟩
    exact q D rms H3 lr hp s3 (.lst (SqL.of eD) (DpAll.same wo_le hus))
theorem fit_tI {r : List Int} (h : r.length ≤ 100000) : Fit 2 (tI r) := ⟨by rw [List.length_map]; exact h, fun e he => by
  obtain ⟨y, _, rfl⟩ := List.mem_map.mp he
  trivial⟩
theorem fit_tIs {rms : List (List Int)} (h : rms.length ≤ 1000) (g : ∀ r ∈ rms, r.length ≤ 100000) : Fit 3 (.list (rms.map tI)) := ⟨by rw [List.length_map]; omega, fun e he => by
  obtain ⟨y, hy, rfl⟩ := List.mem_map.mp he
  exact fit_tI (g y hy)⟩
end My
namespace My
open PySem PySem.Spec PyProof.Rows L2
theorem PieceIs.len {T : List (Int × Int)} {lot r : List Int} {s : Int} {n : Nat} (h : PieceIs T lot s r) (hl : ∀ x ∈ lot, 0 ≤ x ∧ x < n) (s0 : 0 ≤ s) (s1 : s < n) : r.length ≤ n :=
  len_bd (lt_nodup h.1) fun x hx => by
    rcases reach_sub ((h.2 x).mp hx) with rfl | g
    · exact ⟨s0, s1⟩
    · exact hl x g
/-- the rooms of all parts -/
def Rooms (T : List (Int × Int)) (rs ss : List Int) (j : Nat) (r : List Int) : Prop := ∃ z, rs[j]? = some z ∧ PieceIs T (lotN ss j) z r
theorem Rooms.eq {T : List (Int × Int)} {rs ss : List Int} {A B : List (List Int)} (hl : A.length = B.length) (ha : ∀ (j : Nat) r, A[j]? = some r → Rooms T rs ss j r) (hb : ∀ (j : Nat) r, B[j]? = some r → Rooms T rs ss j r) : A = B := by
  refine List.ext_getElem? fun j => ?_
  cases ea : A[j]? with
  | none =>
    have : ¬ j < A.length := fun h => by
      rw [List.getElem?_eq_getElem h] at ea
      cases ea
    exact (List.getElem?_eq_none (by omega)).symm
  | some r =>
    have hj : j < A.length := (List.getElem?_eq_some_iff.mp ea).1
    have eb : B[j]? = some B[j] := List.getElem?_eq_getElem (by omega)
    obtain ⟨z, h1, h2⟩ := ha j r ea
    obtain ⟨z', g1, g2⟩ := hb j _ eb
    rw [h1] at g1
    cases g1
    rw [eb, h2.eq g2]
end My

set_option Elab.async false
set_option linter.all false
set_option maxRecDepth 100000
set_option maxHeartbeats 4000000
namespace My
open PySem PySem.Spec PyProof.Rows L2 SrtO

/-! ### sorted(..) of tuples of whole numbers, of any lengths but 0 -/
def IsTI (h : Heap) (v : Value) (ns : List Int) : Prop := ∃ (a : Addr) (o : Obj) (its : Array Value) (n : Nat), v = .ref a ∧ h.get? a = some o ∧ o.cls = .type "tuple" ∧ o.data = .seq its n ∧ IntsAre its.toList ns
theorem IsTI.keeps {h h' : Heap} {v : Value} {ns : List Int} (x : IsTI h v ns) (k : ∀ b o, h.get? b = some o → o.cls = .type "tuple" → h'.get? b = some o) : IsTI h' v ns := by
  obtain ⟨a, o, its, n, e, ho, hc, hd, hi⟩ := x
  exact ⟨a, o, its, n, e, k a o ho hc, hc, hd, hi⟩
section
variable {prog : Program} {w : World} {A : Around} {E : Value → Shared → Prop} {s : Shared}
theorem kat_ints {Q : Bool → Shared → Prop} {fin : Bool} : ∀ {xs ys : List Value} {ns ms : List Int} (i : Nat), IntsAre xs ns → IntsAre ys ms → fin = decide (ns.length < ms.length) → Q (HT.lexLt ns ms) s → PySem.W.KatLex prog w A true fin Q (xs.zip ys) i s
  | [], ys, [], ms, i, .nil, h2, hf, q => by
    refine PySem.W.kat_nil ?_
    have e : fin = HT.lexLt [] ms := by
      rw [hf]
      cases ms with
      | nil => rfl
      | cons m ms => exact decide_eq_true (by simp)
    rw [e]
    exact q
  | x :: xs, [], n :: ns, [], i, h1, .nil, hf, q => by
    refine PySem.W.kat_nil ?_
    have e : fin = HT.lexLt (n :: ns) [] := by
      rw [hf]
      exact decide_eq_false (by simp)
    rw [e]
    exact q
  | _ :: xs, _ :: ys, n :: ns, m :: ms, i, .cons _ t h1, .cons _ u h2, hf, q => by
    rw [List.zip_cons_cons]
    refine PySem.W.kat_cons (SeqAt.EqAt.int_int n t m u prog w _ _ ?_)
    refine PySem.W.kat_go (fun e => ?_) (fun e => ?_)
    · have ex : n = m := by simpa using e
      refine PySem.W.kat_yes (kat_ints (i + 1) h1 h2 (by rw [hf]; simp) ?_)
      rw [HT.lexLt_cons, if_pos ex] at q
      exact q
    · have ex : ¬ n = m := by simpa using e
      rw [HT.lexLt_cons, if_neg ex] at q
      exact PySem.W.kat_no (TS.oneLt_ints _ q)
theorem tup_cmp {vs : List Value} {k : Value → List Int} (hp : ∀ v ∈ vs, IsTI s.heap v (k v)) : Cmp prog w A s (tuples' true) (fun p => p.1 ∈ vs) (lt2 fun v u => HT.lexLt (k v) (k u)) := by
  intro p q hm hm'
  obtain ⟨a, o, its, n, e, ho, hc, hd, hi⟩ := hp _ hm
  obtain ⟨a', o', its', n', e', ho', hc', hd', hi'⟩ := hp _ hm'
  show wpAny (model prog w) A (keyLt' (tuples' true) p.1 q.1) (fun r s' => s' = s ∧ r = HT.lexLt (k p.1) (k q.1)) (fun _ _ => False) s
  rw [e, e'] at *
  refine PySem.W.kat_lt ho hd ho' hd' (kat_ints 0 hi hi' ?_ ⟨rfl, rfl⟩)
  have l1 := hi.length
  have l2 := hi'.length
  rw [Array.length_toList] at l1 l2
  rw [l1, l2]
theorem firsts_ti {h : Heap} {k : Value → List Int} : ∀ vs : List Value, (∀ v ∈ vs, IsTI h v (k v) ∧ k v ≠ []) → ∃ fs : List Value, PySem.W.KatTups h vs fs ∧ fs.length = vs.length ∧ ∀ f ∈ fs, ∃ x t, f = Value.int x t
  | [], _ => ⟨[], PySem.W.KatTups.nil, rfl, fun f hf => by simp at hf⟩
  | v :: vs, x => by
    obtain ⟨fs, kk, hl, hi⟩ := firsts_ti vs fun u hu => x u (List.mem_cons_of_mem _ hu)
    obtain ⟨⟨a, o, its, n, rfl, ho, hc, hd, hI⟩, hne⟩ := x v List.mem_cons_self
    cases hk : k (.ref a) with
    | nil => exact absurd hk hne
    | cons z zs =>
      rw [hk] at hI
      obtain ⟨its⟩ := its
      have hI : IntsAre its (z :: zs) := hI
      cases hI with
      | cons _ t r =>
        refine ⟨.int z t :: fs, PySem.W.KatTups.cons ho hc hd rfl kk, by rw [List.length_cons, List.length_cons, hl], fun f hf => ?_⟩
        rcases List.mem_cons.mp hf with rfl | hf
        · exact ⟨z, t, rfl⟩
        · exact hi f hf
theorem ti_sortable {a : Addr} {vs : List Value} {k : Value → List Int} (h0 : 0 < vs.length) (hp : ∀ v ∈ vs, IsTI s.heap v (k v) ∧ k v ≠ []) (ha : ∀ o, s.heap.get? a = some o → o.cls ≠ .type "tuple") : SortableO prog w A s a vs fun v u => HT.lexLt (k v) (k u) := by
  intro h' keep
  have hp' : ∀ v ∈ vs, IsTI h' v (k v) ∧ k v ≠ [] := fun v hm => ⟨(hp v hm).1.keeps fun b o e c => keep b o (fun z => by subst z; exact ha o e c) e, (hp v hm).2⟩
  obtain ⟨fs, h1, h2, h3⟩ := firsts_ti vs hp'
  refine ⟨tuples' true, fun Q E hq => ?_, tup_cmp fun v hv => (hp' v hv).1⟩
  refine PySem.W.kat_kind (T := .type "int") h1 (by omega) (fun f hm => ?_) (by rfl) ?_
  · obtain ⟨x, t, rfl⟩ := h3 f hm
    exact PySem.W.Looks.now
  · have e : (Value.type "int" != Value.type "tuple") = true := by first | decide +kernel | rfl | decide
    rw [e]
    exact hq
end
/-! ### the order of lists of whole numbers -/
theorem lex_total : ∀ {a b : List Int}, HT.lexLt a b = false → HT.lexLt b a = false → a = b
  | [], [], _, _ => rfl
  | [], y :: ys, h, _ => by rw [HT.lexLt_nil_cons] at h; cases h
  | x :: xs, [], _, h => by rw [HT.lexLt_nil_cons] at h; cases h
  | x :: xs, y :: ys, h1, h2 => by
    rw [HT.lexLt_cons] at h1 h2
    by_cases e : x = y
    · subst e
      rw [if_pos rfl] at h1 h2
      rw [lex_total h1 h2]
    · rw [if_neg e] at h1
      rw [if_neg (fun z => e z.symm)] at h2
      have h1 := of_decide_eq_false h1
      have h2 := of_decide_eq_false h2
      omega
/-- ascending, as tuples are compared -/
def LexUp (L : List (List Int)) : Prop := L.Pairwise fun a b => HT.lexLt b a = false
theorem lexup_eq {L R : List (List Int)} (h : LexUp L) (g : LexUp R) (p : L.Perm R) : L = R :=
  List.Perm.eq_of_pairwise (le := fun a b => HT.lexLt b a = false) (fun a b _ _ h1 h2 => lex_total h2 h1) h g p
theorem perm_memL : ∀ {L R : List (List Int)}, L.Nodup → R.Nodup → (∀ x, x ∈ L ↔ x ∈ R) → L.Perm R := fun n1 n2 h => (List.perm_ext_iff_of_nodup n1 n2).mpr h
theorem lexup_set {L R : List (List Int)} (h : LexUp L) (g : LexUp R) (n1 : L.Nodup) (n2 : R.Nodup) (e : ∀ x, x ∈ L ↔ x ∈ R) : L = R := lexup_eq h g (perm_memL n1 n2 e)
end My

set_option Elab.async false
set_option linter.all false
set_option maxRecDepth 100000
set_option maxHeartbeats 4000000
namespace My
open PySem PySem.Spec PyProof.Rows L2 SrtO

theorem perm_pre {α β : Type} {f : α → β} {out ys : List β} (p : out.Perm ys) : ∀ L : List α, ys = L.map f → ∃ L' : List α, L'.Perm L ∧ out = L'.map f := by
  induction p with
  | nil =>
    intro L e
    cases L with
    | nil => exact ⟨[], .refl _, rfl⟩
    | cons a L => cases e
  | cons x _ ih =>
    intro L e
    cases L with
    | nil => cases e
    | cons a L =>
      injection e with e1 e2
      obtain ⟨L', h1, h2⟩ := ih L e2
      exact ⟨a :: L', h1.cons a, by rw [List.map_cons, h2, e1]⟩
  | swap x y l =>
    intro L e
    match L, e with
    | a :: b :: L, e =>
      injection e with e1 e2
      injection e2 with e2 e3
      exact ⟨b :: a :: L, .swap .., by rw [List.map_cons, List.map_cons, e1, e2, e3]⟩
  | trans _ _ ih1 ih2 =>
    intro L e
    obtain ⟨L1, h1, h2⟩ := ih2 L e
    obtain ⟨L2, g1, g2⟩ := ih1 L1 h2
    exact ⟨L2, g1.trans h1, g2⟩
def keyIn (L : List (Addr × List Int)) : Value → List Int
  | .ref a => ((L.find? fun q => decide (q.1 = a)).map (·.2)).getD []
  | _ => []
theorem keyIn_eq : ∀ {L : List (Addr × List Int)}, (∀ q ∈ L, ∀ r ∈ L, q.1 = r.1 → q.2 = r.2) → ∀ p ∈ L, keyIn L (.ref p.1) = p.2 := fun {L} one p hp => by
  show ((L.find? fun q => decide (q.1 = p.1)).map (·.2)).getD [] = p.2
  cases e : L.find? fun q => decide (q.1 = p.1) with
  | none =>
    have := List.find?_eq_none.mp e p hp
    simp at this
  | some q =>
    have h1 := List.find?_some e
    have h2 := List.mem_of_find?_eq_some e
    exact one q h2 p hp (of_decide_eq_true h1)
theorem lexup_of {L' L : List (Addr × List Int)} {out : List Value} (one : ∀ q ∈ L, ∀ r ∈ L, q.1 = r.1 → q.2 = r.2) (hp : L'.Perm L) (e : out = L'.map fun q => Value.ref q.1) (hs : Srtd (fun v u => HT.lexLt (keyIn L v) (keyIn L u)) out) : LexUp (L'.map (·.2)) := by
  subst e
  have h1 := List.pairwise_map.mp hs
  refine List.pairwise_map.mpr (List.Pairwise.imp_of_mem (fun {q r} hq hr h => ?_) h1)
  have h : HT.lexLt (keyIn L (.ref r.1)) (keyIn L (.ref q.1)) = false := h
  rw [keyIn_eq one q (hp.mem_iff.mp hq), keyIn_eq one r (hp.mem_iff.mp hr)] at h
  exact h
section
variable {P : Program} {w : World} {A : Around} {E : Value → Shared → Prop} {s : Shared}
theorem sorted_setL {a : Addr} {L : List (Addr × List Int)} {es : Array (Int × Value)} {ep : Nat} {t : SetTable} {Q : Value → Shared → Prop} (R : SetTR P w s.heap a L es ep t) (hh : A.handled = none) (hne : ∀ p ∈ L, p.2 ≠ [])
    (hQ : ∀ s' p (out : List Value) (c : Nat) (L' : List (Addr × List Int)), (∀ b o, s.heap.get? b = some o → s'.heap.get? b = some o) → s'.gens = s.gens → s'.os = s.os → s.heap.objs.size ≤ p →
      s'.heap.get? p = some (seqObj "list" out.toArray c) → out = L'.map (fun q => Value.ref q.1) → L'.Perm L → LexUp (L'.map (·.2)) → Q (.ref p) s') :
    wpAny (model P w) A (call (.builtin "sorted") [.ref a]) Q E s := by
  obtain ⟨o, ho, hex, hd⟩ := R.ob
  have hsz := R.size
  have hfew := R.few
  have one : ∀ q ∈ L, ∀ r ∈ L, q.1 = r.1 → q.2 = r.2 := fun q hq r hr e => by
    have a1 := R.tup q hq
    have a2 := R.tup r hr
    rw [e] at a1
    exact a1.inj a2
  refine Calls.call_function_entry kind_sorted plain_sorted entry_sorted (args_sorted1 _) ?_
  unfold Builtin.«sorted»
  refine wpAny_bind (m := checkCount "sorted" 1 1 _) (wpAny_pure ?_)
  refine wpAny_bind (collect_set (A := A.in1) hh ⟨o, ho, hex.1, hd⟩ R.fits (by unfold scanBound; omega) R.tab.ris R.led fun s1 vs k1 hz g1 o1 pm => ?_)
  have hes : es.toList.map (·.2) = L.map fun q => Value.ref q.1 := by
    rw [R.rows]
    unfold rowsOf
    rw [List.map_map]
    rfl
  rw [hes] at pm
  have hvl : vs.length < 64 := by rw [pm.length_eq, List.length_map]; exact hfew
  refine wpAny_bind (wpAny_newList ?_ (by rw [sizeLine_eq]; omega))
  have hoL : (s1.heap.push (seqObj "list" vs.toArray 0)).get? s1.heap.objs.size = some (seqObj "list" vs.toArray 0) := Heap.get?_push_size _ rfl
  have ti : ∀ v ∈ vs, IsTI (s1.heap.push (seqObj "list" vs.toArray 0)) v (keyIn L v) ∧ keyIn L v ≠ [] := fun v hv => by
    obtain ⟨q, hq, e⟩ := List.mem_map.mp (pm.mem_iff.mp hv)
    subst e
    rw [keyIn_eq one q hq]
    obtain ⟨o2, items, n2, h1, h2, h3, h4⟩ := R.tup q hq
    exact ⟨⟨q.1, o2, items, n2, rfl, Heap.get?_push_of_some _ (k1 _ _ h1), h2, h3, ints_of_items h4⟩, hne q hq⟩
  refine wpAny_bind (wpAny_holding (wpAny_call_entry slot_list_sort ⟨_, hoL, rfl⟩ entry_list_sort (list_sort_ord (NtL.swo_lexL (keyIn L)) hoL (by rw [sizeLine_eq]; omega) (fun h2 => ti_sortable (by omega) ti fun o' e => ?_) fun out hs hb => ⟨_, rfl, ?_⟩) (args_list_sort _)))
  · have e' : some o' = some (seqObj "list" vs.toArray 0) := e.symm.trans hoL
    cases e'
    intro c
    exact absurd (Value.type.inj c) (by decide)
  · obtain ⟨L', hp', e'⟩ := perm_pre (hb.perm.trans pm) L rfl
    obtain ⟨c, hc⟩ := sortedHeap_at (vs := vs) (out := out.toArray) hoL
    refine wpAny_pure ⟨_, rfl, hQ _ s1.heap.objs.size out c L' (fun b u e => ?_) g1 o1 hz hc e' hp' (lexup_of one hp' e' hs)⟩
    have q := k1 b u e
    have hlt := Heap.lt_size q
    show (sortedHeap (s1.heap.push (seqObj "list" vs.toArray 0)) s1.heap.objs.size vs out.toArray).get? b = some u
    rw [sortedHeap_old (Nat.ne_of_lt hlt) (by rw [size_push']; exact Nat.lt_succ_of_lt hlt)]
    exact Heap.get?_push_of_some _ q
end
/-- sorted(set) of tuples of whole numbers, none empty -/
def rSortedTL (K : PySem.W.Frag) (P : Program) (w : World) : List V → Hp → VK → Prop := fun vs H Q => ∃ (a : Addr) (L : List (Addr × List Int)), vs = [V.ref a] ∧ H a = some (SetTO P w a L) ∧ (∀ p ∈ L, SqT K H p.1 (p.2.map V.int) ∧ p.2 ≠ []) ∧
  ∀ (L' : List (Addr × List Int)) (p : Addr), L'.Perm L → (L'.map (·.2)).Nodup → L'.length < 64 → LexUp (L'.map (·.2)) → H p = none → Q (.ref p) (upd H p (.lst (L'.map fun q => V.ref q.1)))
theorem cr_sortedTL {X : Cx} (hc : X.calm = true) : CallR X (.builtin "sorted") (rSortedTL X.K X.prog X.w) := by
  intro pins s σ H vs us Q I r h
  obtain ⟨a, L, rfl, ha, hk, q⟩ := h
  have R0 : SetT0 X.prog X.w s.heap a L := (I.hok a _ ha).1
  obtain ⟨es, ep, t, R⟩ := R0.full fun p hp => I.isT (hk p hp).1
  rw [Vals.ref1 r]
  refine sorted_setL R (I.ok.hd hc) (fun p hp => (hk p hp).2) fun s' p out c L' k g o hp hg hout pm pw => ?_
  have hfew : L'.length < 64 := by rw [pm.length_eq]; exact R.few
  have hlen : (L'.map fun q => V.ref q.1).length ≤ sizeLine := by rw [List.length_map, sizeLine_eq]; omega
  have hn : H p = none := I.hok.fresh hp
  have hv : Vals (L'.map fun q => V.ref q.1) out := by rw [hout]; exact vals_of_refs L'
  have J : Inv X pins σ (upd H p (.lst (L'.map fun q => V.ref q.1))) { s with heap := s'.heap, gens := s'.gens, drawn := s'.drawn, toks := s'.toks } :=
    I.call (ch := []) (Un.laid k hp hn) (I.hok.laid k hp ⟨hlen, out, c, hv, hg⟩) (by rw [g]; exact I.bare) (fun _ z => nomatch z)
  have e : s' = { s with heap := s'.heap, gens := s'.gens, drawn := s'.drawn, toks := s'.toks } := by
    cases s'
    cases s
    cases o
    rfl
  rw [e]
  exact ⟨.ref p, _, J, rfl, q L' p pm ((pm.map (·.2)).nodup_iff.mpr R.nd) hfew pw hn⟩
theorem sortedTL {X : Cx} (K : PySem.W.Frag) (P : Program) (w : World) (hc : X.calm = true) (h : X.K = K := by rfl) (hP : X.prog = P := by rfl) (hw : X.w = w := by rfl) : CallR X (.builtin "sorted") (rSortedTL K P w) := by subst h hP hw; exact cr_sortedTL hc
/-- sorted(t), t a tuple of tuples of whole numbers, none empty -/
def rSortTT (K : PySem.W.Frag) : List V → Hp → VK → Prop := fun vs H Q => ∃ (a : Addr) (L : List (Addr × List Int)), vs = [V.ref a] ∧ SqT K H a (L.map fun q => V.ref q.1) ∧ (∀ p ∈ L, SqT K H p.1 (p.2.map V.int) ∧ p.2 ≠ []) ∧
  ∀ (L' : List (Addr × List Int)) (p : Addr), L'.Perm L → LexUp (L'.map (·.2)) → H p = none → Q (.ref p) (upd H p (.lst (L'.map fun q => V.ref q.1)))
theorem map_int_inj : ∀ {a b : List Int}, a.map V.int = b.map V.int → a = b
  | [], [], _ => rfl
  | [], _ :: _, h => by cases h
  | _ :: _, [], h => by cases h
  | x :: a, y :: b, h => by
    injection h with h1 h2
    injection h1 with h1
    rw [h1, map_int_inj h2]
theorem cr_sortTT {X : Cx} : CallR X (.builtin "sorted") (rSortTT X.K) := by
  intro pins s σ H vs us Q I r h
  obtain ⟨a, L, rfl, hs, hk, q⟩ := h
  obtain ⟨its, rv, hl, hz⟩ := I.tuple hs
  rw [Vals.ref1 r]
  have ei : its = L.map fun q => Value.ref q.1 := refs_of_vals rv
  have one : ∀ q ∈ L, ∀ r ∈ L, q.1 = r.1 → q.2 = r.2 := fun q hq r hr e => by
    have a1 := (hk q hq).1
    have a2 := (hk r hr).1
    rw [e] at a1
    exact map_int_inj (I.tuple_inj a1 a2)
  have hlen : its.length ≤ sizeLine := by
    rw [ei, List.length_map]
    rw [List.length_map] at hz
    exact hz
  have ti : ∀ v ∈ its, IsTI s.heap v (keyIn L v) ∧ keyIn L v ≠ [] := fun v hv => by
    rw [ei] at hv
    obtain ⟨q, hq, e⟩ := List.mem_map.mp hv
    subst e
    rw [keyIn_eq one q hq]
    obtain ⟨its2, r2, ⟨o2, h1, h2, n2, h3⟩, _⟩ := I.tuple (hk q hq).1
    exact ⟨⟨q.1, o2, its2.toArray, n2, rfl, h1, h2, h3, ints_of_vals r2⟩, (hk q hq).2⟩
  refine sorted_otup (NtL.swo_lexL (keyIn L)) hl hlen (fun h2 h₁ a' ha' kk => ?_) fun out h1 h2 => ?_
  · refine ti_sortable (s := { s with heap := h₁ }) (by omega) (fun v hv => ⟨(ti v hv).1.keeps fun b o e _ => (kk b o e).2, (ti v hv).2⟩) fun o' e => ?_
    have e' : some o' = some (seqObj "list" its.toArray 0) := e.symm.trans ha'
    cases e'
    intro c
    exact absurd (Value.type.inj c) (by decide)
  · obtain ⟨L', hp', e'⟩ := perm_pre (h2.perm) L ei
    obtain ⟨ep, he'⟩ := PyProof.Rows.sortedAll_at s.heap its out.toArray
    have hl2 : (L'.map fun q => V.ref q.1).length ≤ sizeLine := by
      rw [List.length_map, hp'.length_eq]
      rw [List.length_map] at hz
      exact hz
    refine ⟨.ref _, upd H (s.heap.objs.size + 1) (.lst (L'.map fun q => V.ref q.1)), I.laid (t' := s.toks) (fun _ _ => PyProof.Rows.sortedAll_old) (Nat.le_succ _) ⟨hl2, out, ep, by rw [e']; exact vals_of_refs L', he'⟩, rfl, q L' _ hp' (lexup_of one hp' e' h1) (I.hok.fresh (Nat.le_succ _))⟩
theorem sortTT {X : Cx} (K : PySem.W.Frag) (h : X.K = K := by rfl) : CallR X (.builtin "sorted") (rSortTT K) := by subst h; exact cr_sortTT
end My

set_option Elab.async false
set_option linter.all false
set_option maxRecDepth 100000
set_option maxHeartbeats 4000000
namespace My
open PySem PySem.Spec PyProof.Rows L2

/-! ### xs.extend(t), t a tuple -/
theorem list_extend_tupG (l : Addr) (items : Array Value) (n : Nat) (b : Addr) (items2 : Array Value) (n2 : Nat) (dd : Option Addr) (sl : Array (Option Value)) (hs0 : ¬(!items.isEmpty && Builtin.List.listTooLong (items.size + items2.size)) = true) (hs1 : items.size ≤ sizeLine) (hs2 : items.size + items2.size ≤ sizeLine + 1) :
    Meets (Builtin.«list.extend» ⟨[.ref l, .ref b], []⟩) (fun _ R s => s.heap.get? l = some { cls := .type "list", dict := none, data := .seq items n, slots := #[] } ∧ s.heap.get? b = some { cls := .type "tuple", dict := dd, data := .seq items2 n2, slots := sl } ∧
      R (.ok (.ret Value.none)) { s with heap := s.heap.update l (Obj.mapSeq fun x => x ++ items2) }) :=
  .of_wp fun prog w A R s h => by
    obtain ⟨hp, g, d, tk, os⟩ := s
    obtain ⟨hl, hb, h⟩ := h
    have f2 := AutoSeq1.sub_tuple_tuple
    have f3 := AutoSeq1.sub_list_list
    have f4 := AutoSeq1.sub_tuple_list
    have f5 := AutoSeq1.sub_list_tuple
    have hz' : (items ++ items2).size ≤ sizeLine + 1 := by
      rw [Array.size_append]
      exact hs2
    wp_walk using (wpAny_updateSeq hl rfl (hz := hs1) (_hz' := hz')), AutoSeq1.wpAny_loadPart' hl, AutoSeq1.wpAny_loadPart' hb
    exact ⟨_, rfl, h⟩
def rExtendT (K : PySem.W.Frag) : V → List V → Hp → VK → Prop := fun x vs H Q => ∃ l b xs zs, x = .ref l ∧ vs = [.ref b] ∧ H l = some (.lst xs) ∧ SqT K H b zs ∧ xs.length + zs.length ≤ 100000 ∧ Q .non (upd H l (.lst (xs ++ zs)))
theorem mt_extendT {X : Cx} : MtM X "list.extend" (rExtendT X.K) := by
  intro pins s σ H x vs v us Q I rx rv h
  obtain ⟨l, b, xs, zs, rfl, rfl, hH, hB, hz, q⟩ := h
  cases rx
  obtain ⟨u, rfl, ru⟩ := rv.one
  cases ru
  obtain ⟨z, its, n, r, hl, e⟩ := I.lstM hH
  obtain ⟨its2, r2, ⟨⟨cls, dd, data, sl⟩, ho, hc, n2, hd⟩, hlen⟩ := I.tuple hB
  simp only at hc hd
  subst hc hd
  have l2 := r2.length
  have hl := r.length
  have hsz : its.toArray.size + its2.toArray.size ≤ sizeLine := by rw [List.size_toArray, List.size_toArray, sizeLine_eq]; omega
  have hlong : ¬ (!its.toArray.isEmpty && Builtin.List.listTooLong (its.toArray.size + its2.toArray.size)) = true := by
    rw [notLongL hsz, Bool.and_false]
    exact Bool.false_ne_true
  refine call_meets F.slot_list_extend ⟨_, e, rfl⟩ F.entry_list_extend (F.args_list_extend_2 _ _)
    (list_extend_tupG l its.toArray n b its2.toArray n2 dd sl hlong (by rw [List.size_toArray, sizeLine_eq]; omega) (by omega)) ⟨e, ho, ?_⟩
  refine ⟨.non, _, I.lset (its' := its ++ its2) hH e (by simp) (r.append r2) ?_, rfl, q⟩
  rw [List.length_append, sizeLine_eq]
  omega
end My

set_option Elab.async false
set_option linter.all false
set_option maxRecDepth 100000
set_option maxHeartbeats 4000000
namespace My
open PySem PySem.Spec PyProof.Rows L2

/-! ### the pieces of a lot -/
theorem near_symm {T : List (Int × Int)} {x y : Int} (h : y ∈ nearS T x) : x ∈ nearS T y := by
  obtain ⟨t, ht, ⟨h1, h2⟩ | ⟨h1, h2⟩⟩ := mem_nearS.mp h
  · exact mem_nearS.mpr ⟨t, ht, .inr ⟨h2, h1⟩⟩
  · exact mem_nearS.mpr ⟨t, ht, .inl ⟨h2, h1⟩⟩
theorem reach_trans {T : List (Int × Int)} {lot : List Int} {a b c : Int} (h : Reach T lot a b) (g : Reach T lot b c) : Reach T lot a c := by
  induction g with
  | base => exact h
  | step _ h1 h2 ih => exact .step ih h1 h2
theorem reach_in {T : List (Int × Int)} {lot : List Int} {x y : Int} (hx : x ∈ lot) (h : Reach T lot x y) : y ∈ lot := by
  rcases reach_sub h with rfl | g
  · exact hx
  · exact g
theorem reach_symm {T : List (Int × Int)} {lot : List Int} {x y : Int} (hx : x ∈ lot) (h : Reach T lot x y) : Reach T lot y x := by
  induction h with
  | base => exact .base
  | step h0 h1 h2 ih => exact reach_trans (.step .base (near_symm h1) (reach_in hx h0)) ih
theorem PieceIs.of {T : List (Int × Int)} {lot r : List Int} {x y : Int} (hx : x ∈ lot) (h : PieceIs T lot x r) (hy : y ∈ r) : PieceIs T lot y r := by
  have hr := (h.2 y).mp hy
  exact ⟨h.1, fun z => (h.2 z).trans ⟨fun g => reach_trans (reach_symm hx hr) g, fun g => reach_trans hr g⟩⟩
theorem PieceIs.self {T : List (Int × Int)} {lot r : List Int} {x : Int} (h : PieceIs T lot x r) : x ∈ r := (h.2 x).mpr .base
theorem PieceIs.ne {T : List (Int × Int)} {lot r : List Int} {x : Int} (h : PieceIs T lot x r) : r ≠ [] := fun z => by
  have := h.self
  rw [z] at this
  cases this
def PiecesIs (T : List (Int × Int)) (lot : List Int) (ps : List (List Int)) : Prop := LexUp ps ∧ ps.Nodup ∧ ∀ r, r ∈ ps ↔ ∃ x ∈ lot, PieceIs T lot x r
theorem PiecesIs.eq {T : List (Int × Int)} {lot : List Int} {ps ps' : List (List Int)} (h : PiecesIs T lot ps) (g : PiecesIs T lot ps') : ps = ps' :=
  lexup_set h.1 g.1 h.2.1 g.2.1 fun r => (h.2.2 r).trans (g.2.2 r).symm
/-- what the program has found behind j places of the lot -/
structure Found (T : List (Int × Int)) (lot : List Int) (j : Nat) (zs : List (Int × List Int)) (ms : List Int) : Prop where
  up : (zs.map (·.1)).Pairwise (· < ·)
  pc : ∀ z ∈ zs, PieceIs T lot z.1 z.2 ∧ z.1 ∈ lot.take j ∧ ∃ t, z.2 = z.1 :: t
  met : ∀ y, y ∈ ms ↔ ∃ z ∈ zs, y ∈ z.2
  all : ∀ x ∈ lot.take j, x ∈ ms
theorem Found.start {T : List (Int × Int)} {lot : List Int} : Found T lot 0 [] [] := ⟨.nil, fun z h => (nomatch h), fun y => by simp, fun x h => by simp at h⟩
theorem Found.old {T : List (Int × Int)} {lot : List Int} {j : Nat} {zs : List (Int × List Int)} {ms : List Int} {x : Int} (h : Found T lot j zs ms) (e : lot[j]? = some x) (hx : x ∈ ms) : Found T lot (j + 1) zs ms := by
  refine ⟨h.up, fun z hz => ?_, h.met, fun y hy => ?_⟩
  · obtain ⟨h1, h2, h3⟩ := h.pc z hz
    refine ⟨h1, ?_, h3⟩
    rw [List.take_add_one]
    exact List.mem_append_left _ h2
  · rw [List.take_add_one, e] at hy
    rcases List.mem_append.mp hy with hy | hy
    · exact h.all y hy
    · rw [show y = x by simpa using hy]
      exact hx
theorem take_lt {lot : List Int} (hl : lot.Pairwise (· < ·)) {j : Nat} {x y : Int} (e : lot[j]? = some x) (hy : y ∈ lot.take j) : y < x := by
  obtain ⟨i, h⟩ := List.mem_iff_getElem?.mp hy
  rw [List.getElem?_take] at h
  obtain ⟨hi, ei⟩ : i < j ∧ lot[i]? = some y := by
    by_cases c : i < j
    · rw [if_pos c] at h
      exact ⟨c, h⟩
    · rw [if_neg c] at h
      cases h
  obtain ⟨hj, e1⟩ := List.getElem?_eq_some_iff.mp e
  obtain ⟨hi2, e2⟩ := List.getElem?_eq_some_iff.mp ei
  have := List.pairwise_iff_getElem.mp hl i j hi2 hj hi
  rw [e1, e2] at this
  exact this
theorem mem_lt {lot : List Int} (hl : lot.Pairwise (· < ·)) {j : Nat} {x y : Int} (e : lot[j]? = some x) (hy : y ∈ lot) (h : y < x) : y ∈ lot.take j := by
  obtain ⟨i, ei⟩ := List.mem_iff_getElem?.mp hy
  obtain ⟨hj, e1⟩ := List.getElem?_eq_some_iff.mp e
  obtain ⟨hi2, e2⟩ := List.getElem?_eq_some_iff.mp ei
  by_cases c : i < j
  · refine List.mem_iff_getElem?.mpr ⟨i, ?_⟩
    rw [List.getElem?_take, if_pos c]
    exact ei
  · exfalso
    by_cases c2 : i = j
    · subst c2
      rw [e1] at e2
      omega
    · have := List.pairwise_iff_getElem.mp hl j i hj hi2 (by omega)
      rw [e1, e2] at this
      omega
theorem Found.new {T : List (Int × Int)} {lot r : List Int} {j : Nat} {zs : List (Int × List Int)} {ms : List Int} {x : Int} (hl : lot.Pairwise (· < ·)) (h : Found T lot j zs ms) (e : lot[j]? = some x) (hx : x ∉ ms) (hp : PieceIs T lot x r) : Found T lot (j + 1) (zs ++ [(x, r)]) (ms ++ r) := by
  have hxl : x ∈ lot := List.mem_of_getElem? e
  have hge : ∀ y ∈ r, x ≤ y := fun y hy => by
    apply Classical.byContradiction
    intro hlt
    have hr := (hp.2 y).mp hy
    have hyl := reach_in hxl hr
    have hym := h.all y (mem_lt hl e hyl (by omega))
    obtain ⟨z, hz, hyz⟩ := (h.met y).mp hym
    obtain ⟨h1, h2, _⟩ := h.pc z hz
    have := reach_trans ((h1.2 y).mp hyz) (reach_symm hxl hr)
    exact hx ((h.met x).mpr ⟨z, hz, (h1.2 x).mpr this⟩)
  have hhd : ∃ t, r = x :: t := by
    have hs := hp.self
    cases r with
    | nil => cases hs
    | cons a t =>
      have ha := hge a List.mem_cons_self
      have hp1 := List.pairwise_cons.mp hp.1
      rcases List.mem_cons.mp hs with z | z
      · exact ⟨t, by rw [z]⟩
      · have := hp1.1 x z
        omega
  refine ⟨?_, fun z hz => ?_, fun y => ?_, fun y hy => ?_⟩
  · rw [List.map_append]
    refine List.pairwise_append.mpr ⟨h.up, by simp, fun a ha b hb => ?_⟩
    obtain ⟨z, hz, rfl⟩ := List.mem_map.mp ha
    rw [show b = x by simpa using hb]
    exact take_lt hl e (h.pc z hz).2.1
  · rw [List.take_add_one, e]
    rcases List.mem_append.mp hz with hz | hz
    · obtain ⟨h1, h2, h3⟩ := h.pc z hz
      exact ⟨h1, List.mem_append_left _ h2, h3⟩
    · rw [List.mem_singleton.mp hz]
      exact ⟨hp, List.mem_append_right _ (by simp), hhd⟩
  · rw [List.mem_append, h.met y]
    constructor
    · rintro (⟨z, hz, hy⟩ | hy)
      · exact ⟨z, List.mem_append_left _ hz, hy⟩
      · exact ⟨(x, r), by simp, hy⟩
    · rintro ⟨z, hz, hy⟩
      rcases List.mem_append.mp hz with hz | hz
      · exact .inl ⟨z, hz, hy⟩
      · rw [List.mem_singleton.mp hz] at hy
        exact .inr hy
  · rw [List.take_add_one, e] at hy
    rcases List.mem_append.mp hy with hy | hy
    · exact List.mem_append_left _ (h.all y hy)
    · rw [show y = x by simpa using hy]
      exact List.mem_append_right _ hp.self
theorem Found.done {T : List (Int × Int)} {lot : List Int} {zs : List (Int × List Int)} {ms : List Int} (h : Found T lot lot.length zs ms) : PiecesIs T lot (zs.map (·.2)) := by
  have hpc := h.pc
  rw [List.take_length] at hpc
  have hlex : zs.Pairwise fun a b => HT.lexLt b.2 a.2 = false ∧ a.2 ≠ b.2 := by
    refine List.Pairwise.imp_of_mem (fun {a b} ha hb hlt => ?_) (List.pairwise_map.mp h.up)
    obtain ⟨_, _, t, e1⟩ := hpc a ha
    obtain ⟨_, _, u, e2⟩ := hpc b hb
    rw [e1, e2]
    refine ⟨?_, fun z => ?_⟩
    · rw [HT.lexLt_cons, if_neg (by omega)]
      exact decide_eq_false (by omega)
    · injection z with z1 z2
      omega
  refine ⟨List.pairwise_map.mpr (hlex.imp fun h => h.1), List.pairwise_map.mpr (hlex.imp fun h => h.2), fun r => ?_⟩
  constructor
  · intro hr
    obtain ⟨z, hz, rfl⟩ := List.mem_map.mp hr
    obtain ⟨h1, h2, _⟩ := hpc z hz
    exact ⟨z.1, h2, h1⟩
  · rintro ⟨x, hx, hp⟩
    have hxm := h.all x (by rw [List.take_length]; exact hx)
    obtain ⟨z, hz, hxz⟩ := (h.met x).mp hxm
    obtain ⟨h1, h2, _⟩ := hpc z hz
    have := (h1.of h2 hxz).eq hp
    rw [← this]
    exact List.mem_map.mpr ⟨z, hz, rfl⟩
def spPieces (K : PySem.W.Frag) : Sp := fun vs H Q _ => ∃ (v : V) (n : Nat) (T : List (Int × Int)) (lq : Addr) (lot : List Int), vs = [v, .ref lq] ∧ Dq K H v (webD n T) ∧ WebOk n T ∧ 1 ≤ n ∧ n ≤ 12 ∧ SqT K H lq (lot.map V.int) ∧ lot.length ≤ 12 ∧ (∀ x ∈ lot, 0 ≤ x ∧ x < n) ∧ lot.Pairwise (· < ·) ∧
  ∀ (q : Addr) (ps : List (List Int)) H', PiecesIs T lot ps → ps.length ≤ 12 → Same H H' → Dp K H' (.ref q) (.tuple (ps.map tI)) → Q (.ref q) H'
def spHangs (K : PySem.W.Frag) : Sp := fun vs H Q _ => ∃ (v : V) (n : Nat) (T : List (Int × Int)) (lq : Addr) (lot : List Int), vs = [v, .ref lq] ∧ Dq K H v (webD n T) ∧ WebOk n T ∧ 1 ≤ n ∧ n ≤ 12 ∧ SqT K H lq (lot.map V.int) ∧ lot.length ≤ 12 ∧ (∀ x ∈ lot, 0 ≤ x ∧ x < n) ∧ lot.Pairwise (· < ·) ∧
  ∀ (ps : List (List Int)) H', PiecesIs T lot ps → Same H H' → Q (.bl (decide (ps.length = 1))) H'
theorem PiecesIs.len {T : List (Int × Int)} {lot : List Int} {ps : List (List Int)} (h : PiecesIs T lot ps) : ∀ r ∈ ps, r ≠ [] := fun r hr => by
  obtain ⟨x, _, hp⟩ := (h.2.2 r).mp hr
  exact hp.ne
theorem wo_le_upd {D : Addr} {H : Hp} {o : HO} : Same (wo D H) (upd H D o) := fun b x e => by
  obtain ⟨n, e⟩ := wo_some e
  rw [upd_ne n]
  exact e
theorem sm_pieces {ps : List (List Int)} {n : Nat} (hn : n ≤ 12) (h : ∀ r ∈ ps, r.length ≤ n) (hl : ps.length ≤ 12) : Fit 3 (.tuple (ps.map tI)) := ⟨by rw [List.length_map]; omega, fun e he => by
  obtain ⟨y, hy, rfl⟩ := List.mem_map.mp he
  exact fit_tI (by have := h y hy; omega)⟩
end My

set_option Elab.async false
set_option linter.all false
set_option maxRecDepth 100000
set_option maxHeartbeats 4000000
namespace My
open PySem PySem.Spec PyProof.Rows L2
/-- [.. for x in t], t a tuple of whole numbers, each item a tuple of whole numbers -/
theorem lc_tuplesT {K : PySem.W.Frag} {te : TE} {tt : TE} {σ : L2.St} {H : Hp} {Q : VK} {i : Nat} {lq : Addr} {lot : List Int} {Pr : Int → List Int → Prop} (htt : ∀ Q : VK, Q (.ref lq) H → tt σ H Q) (hL : SqT K H lq (lot.map V.int)) (hk : lot.length ≤ 1000)
    (hs : ∀ x, x ∈ lot → ∀ H1, Same H H1 → ∀ R : VK, (∀ q r H', Pr x r → Same H1 H' → SqT K H' q (r.map V.int) → R (.ref q) H') → te ((wipe σ [i]).set i (some (.int x))) H1 R)
    (hw : ∀ x : Int, wipe ((wipe σ [i]).set i (some (.int x))) [i] = wipe σ [i])
    (q : ∀ (a : Addr) (us : List V) (rms : List (List Int)) (H' : Hp), rms.length = lot.length → (∀ (j : Nat) r x, rms[j]? = some r → lot[j]? = some x → Pr x r) → Same H H' → H' a = some (.lst us) → DpAll K (wo a H') us (rms.map tI) → Q (.ref a) H') : tLc (iTup K tt) (gName i) tYes te [i] σ H Q := by
  refine htt _ ⟨lq, rfl, ⟨_, hL⟩, fun D hD => ?_⟩
  refine lc_tup (xs := lot.map V.int) (fun j H3 => Same H H3 ∧ ∃ (us : List V) (rms : List (List Int)), H3 D = some (.lst us) ∧ rms.length = j ∧ (∀ (l : Nat) r x, rms[l]? = some r → lot[l]? = some x → Pr x r) ∧ DpAll K (wo D H3) us (rms.map tI)) ?_ (fun j H3 _ hP => My.Same.sqt hP.1 hL) ?_ ?_
  · exact ⟨My.Same.new hD, [], [], upd_same, rfl, (fun l r x h => by simp at h), .nil⟩
  · rintro j v H3 ev ⟨s3, us, rms, eD, lr, hp, hus⟩
    obtain ⟨x, ex, rfl⟩ : ∃ x, lot[j]? = some x ∧ v = .int x := by
      rw [List.getElem?_map] at ev
      cases e : lot[j]? with
      | none => rw [e] at ev; cases ev
      | some y => rw [e] at ev; exact ⟨y, rfl, (Option.some.inj ev).symm⟩
    have hj : j < lot.length := (List.getElem?_eq_some_iff.mp ex).1
    refine ⟨hw x, ?_⟩
    show te ((wipe σ [i]).set i (some (.int x))) H3 _
    refine hs x (List.mem_of_getElem? ex) H3 s3 _ (fun t r H4 hr s4 ht => ?_)
    have e4 := s4 _ _ eD
    obtain ⟨g1, g2⟩ := push (DpAll.same (My.Same.wo s4) hus) (Dp.ofTI (sqt_wo ht e4))
    refine ⟨us, e4, ?_, My.Same.updD (s3.trans s4) hD, us ++ [.ref t], rms ++ [r], g1, by rw [List.length_append, lr]; rfl, fun l r' y h hy => ?_, ?_⟩
    · rw [My.DpAll.len hus, List.length_map, lr]
      exact smallT (by omega)
    · by_cases hl : l < rms.length
      · rw [List.getElem?_append_left hl] at h
        exact hp l r' y h hy
      · have hlj : l = j := by
          have := (List.getElem?_eq_some_iff.mp h).1
          rw [List.length_append] at this
          simp at this
          omega
        subst hlj
        rw [List.getElem?_append_right (by omega), show l - rms.length = 0 by omega] at h
        cases h
        rw [ex] at hy
        cases hy
        exact hr
    · rw [List.map_append]
      exact g2
  · rintro H3 ⟨s3, us, rms, eD, lr, hp, hus⟩
    rw [List.length_map] at lr
    exact q D us rms H3 lr hp s3 eD hus
end My
namespace My
theorem len_subG {α : Type} [BEq α] [LawfulBEq α] : ∀ {L ns : List α}, L.Nodup → (∀ k ∈ L, k ∈ ns) → L.length ≤ ns.length
  | [], _, _, _ => Nat.zero_le _
  | x :: L, ns, nd, hs => by
    rw [List.nodup_cons] at nd
    have hx := hs x List.mem_cons_self
    have := len_subG (L := L) (ns := ns.erase x) nd.2 (fun k hk => (List.mem_erase_of_ne (fun z => nd.1 (by rw [← z]; exact hk))).mpr (hs k (List.mem_cons_of_mem _ hk)))
    rw [List.length_erase_of_mem hx] at this
    have h0 := List.length_pos_of_mem hx
    rw [List.length_cons]
    omega
end My

set_option Elab.async false
set_option linter.all false
set_option maxRecDepth 100000
set_option maxHeartbeats 4000000
namespace My
open PySem PySem.Spec PyProof.Rows L2

/-! ### dealings and parts -/
def inP (zs : List Int) (i p : Int) : Bool := decide (zs[p.toNat]? = some i)
/-- the places of part i -/
def partL (zs : List Int) (i : Int) : List Int := (ups zs.length).filter (inP zs i)
theorem inP_at {zs : List Int} {i z : Int} {j : Nat} (h : zs[j]? = some z) : inP zs i (j : Int) = decide (z = i) := by
  unfold inP
  rw [Int.toNat_natCast, h, Bool.eq_iff_iff, decide_eq_true_eq, decide_eq_true_eq]
  constructor
  · intro e
    exact Option.some.inj e
  · intro e
    rw [e]
theorem mem_partL {zs : List Int} {i x : Int} (h : x ∈ partL zs i) : 0 ≤ x ∧ x < zs.length := mem_ups.mp (List.mem_filter.mp h).1
theorem partL_len {zs : List Int} {i : Int} : (partL zs i).length ≤ zs.length := by
  unfold partL
  have := List.length_filter_le (inP zs i) (ups zs.length)
  rw [ups_len] at this
  exact this
theorem ups_up (k : Nat) : (ups k).Pairwise (· < ·) := by
  induction k with
  | zero => exact .nil
  | succ k ih =>
    rw [ups_succ]
    refine List.pairwise_append.mpr ⟨ih, by simp, fun a ha b hb => ?_⟩
    rw [show b = (k : Int) by simpa using hb]
    exact (mem_ups.mp ha).2
theorem partL_up {zs : List Int} {i : Int} : (partL zs i).Pairwise (· < ·) := List.Pairwise.filter _ (ups_up _)
noncomputable def hangsB (T : List (Int × Int)) (lot : List Int) : Bool := @decide (∃ ps, PiecesIs T lot ps ∧ ps.length = 1) (Classical.propDecidable _)
theorem hangsB_eq {T : List (Int × Int)} {lot : List Int} {ps : List (List Int)} (h : PiecesIs T lot ps) : decide (ps.length = 1) = hangsB T lot := by
  unfold hangsB
  rw [Bool.eq_iff_iff, decide_eq_true_eq, @decide_eq_true_eq _ (Classical.propDecidable _)]
  constructor
  · intro e
    exact ⟨ps, h, e⟩
  · rintro ⟨ps', h', e⟩
    rw [h.eq h']
    exact e
def dealingD (n k : Int) : PyData → Bool
  | .tuple ds => decide ((ds.length : Int) = n) && ds.all (placeD k)
  | _ => false
/-- is part i right -/
noncomputable def okPart (T : List (Int × Int)) (rs ss zs : List Int) (i : Nat) : Bool := decide (zs[(rs.getD i 0).toNat]? = some (i : Int)) && (decide (((partL zs i).length : Int) = ss.getD i 0) && hangsB T (partL zs i))
noncomputable def partsD (T : List (Int × Int)) (n : Nat) (rs ss : List Int) (d : PyData) : Bool := match d with
  | .tuple ds => dealingD n rs.length (.tuple ds) && (List.range rs.length).all (okPart T rs ss (intsOf ds))
  | _ => false
def spDealing (K : PySem.W.Frag) : Sp := fun vs H Q _ => ∃ (n k : Int) (v : V) (d : PyData) (W D : Nat), vs = [.int n, .int k, v] ∧ Dq K H v d ∧ Sm W D d ∧ W ≤ 4000 ∧ ∀ H', Same H H' → Q (.bl (dealingD n k d)) H'
def spPartOf (K : PySem.W.Frag) : Sp := fun vs H Q _ => ∃ (st : Addr) (zs : List Int) (i : Int), vs = [.ref st, .int i] ∧ SqT K H st (zs.map V.int) ∧ zs.length ≤ 100 ∧
  ∀ (a : Addr) H', Same H H' → SqT K H' a ((partL zs i).map V.int) → Q (.ref a) H'
def spIsPart (K : PySem.W.Frag) : Sp := fun vs H Q _ => ∃ (v : V) (n : Nat) (T : List (Int × Int)) (lq : Addr) (lot : List Int) (z : Int), vs = [v, .ref lq, .int z] ∧ Dq K H v (webD n T) ∧ WebOk n T ∧ 1 ≤ n ∧ n ≤ 12 ∧ SqT K H lq (lot.map V.int) ∧ lot.length ≤ 12 ∧ (∀ x ∈ lot, 0 ≤ x ∧ x < n) ∧ lot.Pairwise (· < ·) ∧
  ∀ H', Same H H' → Q (.bl (decide ((lot.length : Int) = z) && hangsB T lot)) H'
def spIsParts (K : PySem.W.Frag) : Sp := fun vs H Q _ => ∃ (v dv x : V) (n : Nat) (T : List (Int × Int)) (rs ss : List Int) (d : PyData) (W D : Nat), vs = [v, dv, x] ∧ Dq K H v (webD n T) ∧ WebOk n T ∧ 1 ≤ n ∧ n ≤ 12 ∧ Dq K H dv (.tuple [tI rs, tI ss]) ∧ (∀ y ∈ rs, 0 ≤ y ∧ y < n) ∧ ss.length = rs.length ∧ rs.length ≤ 12 ∧
  Dq K H x d ∧ Sm W D d ∧ W ≤ 4000 ∧ ∀ H', Same H H' → Q (.bl (partsD T n rs ss d)) H'
def unlikeP (zs : List Int) (t : Int × Int) : Bool := !decide (zs[t.1.toNat]? = zs[t.2.toNat]?)
def spBorder (K : PySem.W.Frag) : Sp := fun vs H Q _ => ∃ (v : V) (st : Addr) (n : Nat) (T : List (Int × Int)) (zs : List Int), vs = [v, .ref st] ∧ Dq K H v (webD n T) ∧ WebOk n T ∧ T.length ≤ 1000 ∧ SqT K H st (zs.map V.int) ∧ zs.length = n ∧
  ∀ (a : Addr) H', Same H H' → Dp K H' (.ref a) (.tuple (((T.filter (unlikeP zs)).map prI).map tI)) → Q (.ref a) H'
/-- two tuples of whole numbers -/
theorem Dq.two {K : PySem.W.Frag} {H : Hp} {v : V} {rs ss : List Int} (h : Dq K H v (.tuple [tI rs, tI ss])) : ∃ (a ra sa : Addr), v = .ref a ∧ SqT K H a [.ref ra, .ref sa] ∧ SqT K H ra (rs.map V.int) ∧ SqT K H sa (ss.map V.int) := by
  obtain ⟨a, xs, rfl, hT, hxs⟩ := Dq.un_tup h
  cases hxs with
  | cons h1 hxs =>
  cases hxs with
  | cons h2 hxs =>
  cases hxs
  obtain ⟨ra, ys, rfl, hT2, hys⟩ := Dq.un_tup (show Dq K H _ (.tuple (rs.map PyData.int)) from h1)
  obtain ⟨sa, zs, rfl, hT3, hzs⟩ := Dq.un_tup (show Dq K H _ (.tuple (ss.map PyData.int)) from h2)
  have e1 := DqAll.intsOf hys (intsD_map rs)
  rw [intsOf_map] at e1
  have e2 := DqAll.intsOf hzs (intsD_map ss)
  rw [intsOf_map] at e2
  subst e1
  subst e2
  exact ⟨a, ra, sa, rfl, hT, hT2, hT3⟩
theorem getD_at {rs : List Int} {i : Nat} {z : Int} (h : rs[i]? = some z) : rs.getD i 0 = z := by
  rw [List.getD_eq_getElem?_getD, h]
  rfl
end My

set_option Elab.async false
set_option linter.all false
set_option maxRecDepth 100000
set_option maxHeartbeats 4000000
namespace My
open PySem PySem.Spec PyProof.Rows L2

theorem Same.sql {K : PySem.W.Frag} {H H' : Hp} {a : Addr} {xs : List V} (e : Same H H') (h : SqL K H a xs) : SqL K H' a xs := by
  rcases h with (h | ⟨o, h⟩) | h
  · exact .inl (.inl (e _ _ h))
  · exact .inl (.inr ⟨o, e _ _ h⟩)
  · exact .inr h
/-! ### lists of tuples of whole numbers, as they stand in the heap -/
def TsAt (K : PySem.W.Frag) (H : Hp) (us : List V) (ds : List (List Int)) : Prop := DpAll K H us (ds.map tI)
theorem TsAt.same {K : PySem.W.Frag} {H H' : Hp} {us : List V} {ds : List (List Int)} (s : Same H H') (h : TsAt K H us ds) : TsAt K H' us ds := DpAll.same s h
theorem TsAt.len {K : PySem.W.Frag} {H : Hp} {us : List V} {ds : List (List Int)} (h : TsAt K H us ds) : us.length = ds.length := by
  rw [DpAll.len h, List.length_map]
theorem TsAt.append {K : PySem.W.Frag} {H : Hp} {us vs : List V} {ds es : List (List Int)} (h : TsAt K H us ds) (g : TsAt K H vs es) : TsAt K H (us ++ vs) (ds ++ es) := by
  unfold TsAt at h g ⊢
  rw [List.map_append]
  revert h
  generalize ds.map tI = D
  intro h
  clear ds
  induction us generalizing D with
  | nil =>
    cases h
    exact g
  | cons u us ih =>
    cases h with
    | cons a b => exact .cons a (ih _ b)
theorem TsAt.get {K : PySem.W.Frag} {H : Hp} {us : List V} {ds : List (List Int)} {i : Nat} {v : V} (h : TsAt K H us ds) (e : us[i]? = some v) : ∃ s a, ds[i]? = some s ∧ v = .ref a ∧ SqT K H a (s.map V.int) := tI_get h e
theorem TsAt.wo {K : PySem.W.Frag} {H : Hp} {p : Addr} (hp : ∃ xs, H p = some (.lst xs)) : ∀ {us : List V} {ds : List (List Int)}, TsAt K H us ds → TsAt K (My.wo p H) us ds
  | us, [], h => by
    cases h
    exact DpAll.nil
  | us, d :: ds, h => by
    cases h with
    | cons a b =>
      obtain ⟨xs, hp'⟩ := hp
      have a' := a
      cases a with
      | tup ht hx =>
        have e : DpAll K H _ (d.map PyData.int) := hx
        refine DpAll.cons ?_ (TsAt.wo ⟨xs, hp'⟩ (show TsAt K H _ ds from b))
        obtain ⟨s, a, e1, e2, e3⟩ := tI_get (i := 0) (L := [d]) (DpAll.cons a' DpAll.nil) rfl
        cases e1
        cases e2
        exact Dp.ofTI (sqt_wo e3 hp')
theorem canLay_ints : ∀ r : List Int, PyData.canLayAll0 (r.map PyData.int) = true
  | [] => rfl
  | x :: r => by
    rw [List.map_cons]
    simp only [PyData.canLayAll0, PyData.canLay0, canLay_ints r, Bool.and_self]
theorem depth_ints : ∀ r : List Int, (PyData.tuple (r.map PyData.int)).depth ≤ 1
  | [] => by decide
  | x :: r => by
    have := depth_ints r
    rw [List.map_cons]
    simp only [PyData.depth, PyData.depthAll] at this ⊢
    omega
theorem lay_tIs : ∀ rms : List (List Int), PyData.canLayAll0 (rms.map tI) = true ∧ PyData.depthAll (rms.map tI) ≤ 1
  | [] => ⟨rfl, by decide⟩
  | r :: rms => by
    obtain ⟨h1, h2⟩ := lay_tIs rms
    have h3 := depth_ints r
    rw [List.map_cons]
    refine ⟨?_, ?_⟩
    · simp only [PyData.canLayAll0, tI, PyData.canLay0, canLay_ints r, h1, Bool.and_self]
    · simp only [PyData.depthAll, tI] at h2 h3 ⊢
      omega
theorem shaped_tIs {rms : List (List Int)} : SeqAt.shaped (.list (rms.map tI)) = true := by
  obtain ⟨h1, h2⟩ := lay_tIs rms
  unfold SeqAt.shaped
  rw [Bool.and_eq_true, decide_eq_true_eq]
  refine ⟨by simpa only [PyData.canLay0] using h1, ?_⟩
  simp only [PyData.depth]
  omega
/-- l != [] -/
theorem ne_nil {K : PySem.W.Frag} {H : Hp} {a b : Addr} {us : List V} {ds : List (List Int)} {Q : VK} (ha : SqL K H a us) (hd : TsAt K H us ds) (hb : SqL K H b []) (q : Q (.bl (decide (1 ≤ ds.length))) H) : rNeD K (.ref a) (.ref b) H Q := by
  refine ⟨.list (ds.map tI), .list [], .lst ha hd, .lst hb .nil, shaped_tIs, by decide, ?_⟩
  cases ds with
  | nil => exact q
  | cons d ds =>
    rw [decide_eq_true (by rw [List.length_cons]; omega)] at q
    exact q
/-- [.. for x in l], l a list of whole numbers, each item a tuple of whole numbers -/
theorem lc_tuplesL {K : PySem.W.Frag} {te : TE} {tt : TE} {σ : L2.St} {H : Hp} {Q : VK} {i : Nat} {lq : Addr} {lot : List Int} {Pr : List Int → Prop} (htt : ∀ Q : VK, Q (.ref lq) H → tt σ H Q) (hL : SqL K H lq (lot.map V.int)) (hk : lot.length ≤ 1000)
    (hs : ∀ x, x ∈ lot → ∀ H1, Same H H1 → ∀ R : VK, (∀ q r H', Pr r → Same H1 H' → SqT K H' q (r.map V.int) → R (.ref q) H') → te ((wipe σ [i]).set i (some (.int x))) H1 R)
    (hw : ∀ x : Int, wipe ((wipe σ [i]).set i (some (.int x))) [i] = wipe σ [i])
    (q : ∀ (a : Addr) (us : List V) (rms : List (List Int)) (H' : Hp), rms.length = lot.length → (∀ r ∈ rms, Pr r) → Same H H' → H a = none → H' a = some (.lst us) → TsAt K (My.wo a H') us rms → Q (.ref a) H') : tLc (iList K tt) (gName i) tYes te [i] σ H Q := by
  refine htt _ ⟨lq, rfl, ⟨_, hL⟩, fun D hD => ?_⟩
  refine lc_list (xs := lot.map V.int) (fun j H3 => Same H H3 ∧ ∃ (us : List V) (rms : List (List Int)), H3 D = some (.lst us) ∧ rms.length = j ∧ (∀ r ∈ rms, Pr r) ∧ DpAll K (My.wo D H3) us (rms.map tI)) ?_ (fun j H3 _ hP => My.Same.sql hP.1 hL) ?_ ?_
  · exact ⟨My.Same.new hD, [], [], upd_same, rfl, (fun r h => nomatch h), .nil⟩
  · rintro j v H3 ev ⟨s3, us, rms, eD, lr, hp, hus⟩
    obtain ⟨x, ex, rfl⟩ : ∃ x, lot[j]? = some x ∧ v = .int x := by
      rw [List.getElem?_map] at ev
      cases e : lot[j]? with
      | none => rw [e] at ev; cases ev
      | some y => rw [e] at ev; exact ⟨y, rfl, (Option.some.inj ev).symm⟩
    have hj : j < lot.length := (List.getElem?_eq_some_iff.mp ex).1
    refine ⟨hw x, ?_⟩
    show te ((wipe σ [i]).set i (some (.int x))) H3 _
    refine hs x (List.mem_of_getElem? ex) H3 s3 _ (fun t r H4 hr s4 ht => ?_)
    have e4 := s4 _ _ eD
    obtain ⟨g1, g2⟩ := push (DpAll.same (My.Same.wo s4) hus) (Dp.ofTI (sqt_wo ht e4))
    refine ⟨us, e4, ?_, My.Same.updD (s3.trans s4) hD, us ++ [.ref t], rms ++ [r], g1, by rw [List.length_append, lr]; rfl, fun r' h => ?_, ?_⟩
    · rw [My.DpAll.len hus, List.length_map, lr]
      exact smallT (by omega)
    · rcases List.mem_append.mp h with h | h
      · exact hp r' h
      · rw [List.mem_singleton.mp h]
        exact hr
    · rw [List.map_append]
      exact g2
  · rintro H3 ⟨s3, us, rms, eD, lr, hp, hus⟩
    rw [List.length_map] at lr
    exact q D us rms H3 lr hp s3 hD eD hus
theorem withQ {t : TE} {σ : L2.St} {H : Hp} {Q : VK} (C : V → Hp → Prop) (hC : ∀ v H', C v H' → Q v H') (h : ∀ R : VK, (∀ v H', C v H' → R v H') → t σ H R) : t σ H Q := h Q hC
/-- a dealing of n places to k parts -/
def DealtTo (n k : Nat) (r : List Int) : Prop := r.length = n ∧ ∀ x ∈ r, 0 ≤ x ∧ x < k
/-- as many dealings as there may be, of n places to k parts -/
def DealtAll (n k : Nat) (ds : List (List Int)) : Prop := (∀ r ∈ ds, DealtTo n k r) ∧ ds.length ≤ 5 ^ n
def spDealings (K : PySem.W.Frag) : Sp := fun vs H Q _ => ∃ (n k : Nat) (ra : Addr) (rs : List Int), vs = [.int n, .int k, .ref ra] ∧ Plain H ra (rs.map V.int) ∧ rs.length = k ∧ 1 ≤ k ∧ k ≤ 5 ∧ n ≤ 7 ∧
  ∀ (a : Addr) (us : List V) (ds : List (List Int)) H', H a = none → Same H H' → H' a = some (.lst us) → TsAt K H' us ds → DealtAll n k ds → 1 ≤ ds.length → Q (.ref a) H'
def spAllParts (K : PySem.W.Frag) : Sp := fun vs H Q _ => ∃ (v : V) (da : Addr) (n : Nat) (T : List (Int × Int)) (rs ss : List Int), vs = [v, .ref da] ∧ Dq K H v (webD n T) ∧ WebOk n T ∧ 1 ≤ n ∧ n ≤ 7 ∧ DealAt K H da rs ss ∧ (∀ y ∈ rs, 0 ≤ y ∧ y < n) ∧ ss.length = rs.length ∧ 1 ≤ rs.length ∧ rs.length ≤ 5 ∧
  ∀ (a : Addr) (us : List V) (ds : List (List Int)) H', H a = none → Same H H' → H' a = some (.lst us) → TsAt K (My.wo a H') us ds → DealtAll n rs.length ds → Q (.ref a) H'
end My

set_option Elab.async false
set_option linter.all false
set_option maxRecDepth 100000
set_option maxHeartbeats 4000000
namespace My
open PySem PySem.Spec PyProof.Rows L2
/-- a web, a deal of it, two tuples of whole numbers -/
structure Keep4 (K : PySem.W.Frag) (H : Hp) (wq : Addr) (n : Nat) (T : List (Int × Int)) (dq : Addr) (rs ss : List Int) (bq : Addr) (bs : List Int) (zq : Addr) (zs : List Int) : Prop where
  web : Dq K H (.ref wq) (webD n T)
  deal : DealAt K H dq rs ss
  base : SqT K H bq (bs.map V.int)
  drawn : SqT K H zq (zs.map V.int)
theorem Keep4.same {K : PySem.W.Frag} {H H' : Hp} {wq : Addr} {n : Nat} {T : List (Int × Int)} {dq : Addr} {rs ss : List Int} {bq : Addr} {bs : List Int} {zq : Addr} {zs : List Int} (s : Same H H') (h : Keep4 K H wq n T dq rs ss bq bs zq zs) : Keep4 K H' wq n T dq rs ss bq bs zq zs :=
  ⟨Dq.same s h.web, h.deal.same s, My.Same.sqt s h.base, My.Same.sqt s h.drawn⟩
theorem SmO.same {K : PySem.W.Frag} {av : List Addr} {H H' : Hp} {a p : Addr} {W D m : Nat} (hp : p ∈ av) (s : Same (wo p H) (wo p H')) (h : SmO K av H a W D m) : SmO K av H' a W D m := by
  obtain ⟨n, xs, ds, e, hx, hs, hl⟩ := h
  have nap : a ≠ p := fun z => n (by rw [z]; exact hp)
  exact ⟨n, xs, ds, (wo_some (s _ _ ((wo_ne nap).trans e))).2, DqAll.same (My.Same.wos_of (List.mem_cons_of_mem _ hp) s) hx, hs, hl⟩
theorem SmO.push {K : PySem.W.Frag} {av : List Addr} {H : Hp} {a : Addr} {W D m : Nat} (h : SmO K av H a W D m) : ∃ xs : List V, H a = some (.lst xs) ∧ xs.length ≤ m ∧ ∀ (x : V) (d : PyData), Dq K (wos (a :: av) H) x d → Sm W D d → SmO K av (upd H a (.lst (xs ++ [x]))) a W D (m + 1) := by
  obtain ⟨n, xs, ds, e, hx, hs, hl⟩ := h
  refine ⟨xs, e, by rw [hx.len]; exact hl, fun x d hd sm => ⟨n, xs ++ [x], ds ++ [d], upd_same, DqAll.append (DqAll.same wos_put hx) (.cons (Dq.same wos_put hd) .nil), fun d' h => ?_, by rw [List.length_append]; exact Nat.succ_le_succ hl⟩⟩
  rcases List.mem_append.mp h with h | h
  · exact hs d' h
  · rw [List.mem_singleton.mp h]
    exact sm
theorem SmO.sml {K : PySem.W.Frag} {av : List Addr} {H : Hp} {a : Addr} {W D m : Nat} (h : SmO K av H a W D m) : SmL K av H a W D m := by
  obtain ⟨n, xs, ds, e, hx, hs, hl⟩ := h
  exact ⟨n, xs, ds, e, DqAll.same wos_less hx, hs, hl⟩
/-- the first j of a list of tuples of whole numbers, as a new list -/
theorem SmL.first {K : PySem.W.Frag} {H : Hp} {p z : Addr} {us : List V} {ds : List (List Int)} {W D : Nat} {j : Nat} (hp : ∃ o, H p = some o) (h : TsAt K (wo p H) us ds) (hs : ∀ r ∈ ds, Sm W D (tI r)) (hz : H z = none) : SmL K [p] (upd H z (.lst (cutV us none (some (j : Int))))) z W D j := by
  have nz : z ≠ p := fun e => by
    obtain ⟨o, eo⟩ := hp
    rw [e, eo] at hz
    cases hz
  have s : Same (wo p H) (wos [p] (upd H z (.lst (cutV us none (some (j : Int)))))) := wo_wos.trans (My.Same.wos (My.Same.new hz))
  refine ⟨fun e => nz (List.mem_singleton.mp e), _, ((ds.map tI).take j), upd_same, ?_, fun d hd => ?_, by rw [List.length_take]; exact Nat.min_le_left _ _⟩
  · rw [cut_take] at s ⊢
    exact DqAll.take _ (DqAll.same s (DqAll.of h))
  · obtain ⟨r, hr, rfl⟩ := List.mem_map.mp (List.mem_of_mem_take hd)
    exact hs r hr
/-- a dealing's data are small -/
theorem DealtTo.sm {n k : Nat} {r : List Int} (h : DealtTo n k r) (hn : n ≤ 12) (hk : k ≤ 12) : SmAll 12 0 (r.map PyData.int) := (smInts r fun x hx => by have := h.2 x hx; omega).mono (by rw [h.1]; exact hn) (Nat.le_refl 0)
theorem DealtTo.ti {n k : Nat} {r : List Int} (h : DealtTo n k r) (hk : k ≤ 12) : Ti 1 (.tuple (r.map PyData.int)) := tiInts fun x hx => by have := h.2 x hx; omega
end My

set_option Elab.async false
set_option linter.all false
set_option maxRecDepth 100000
set_option maxHeartbeats 4000000
namespace My
open PySem PySem.Spec PyProof.Rows L2

/-! ### x in t, t a tuple of data -/
section
variable {X : Cx}
def rInDT (K : PySem.W.Frag) : R2 := fun x y H Q => ∃ d ds, Dp K H x d ∧ Dp K H y (.tuple ds) ∧ d.canLay0 = true ∧ d.depth ≤ 8 ∧ PyData.canLayAll0 ds = true ∧ Q (.bl (ds.any fun z => PyData.eqv z d)) H
theorem op_inDT (hu : X.A.units + 64 < cLine) : OpR X (compareOp .In) (rInDT X.K) := by
  intro pins s σ H x y v u Q I rx ry h
  obtain ⟨d, ds, hd, he, sd, dd, se, q⟩ := h
  obtain ⟨as, r1⟩ := Dp.reads I d x v hd rx
  obtain ⟨bs, r2⟩ := Dp.reads I (.tuple ds) y u he ry
  refine SeqAt.in_tuple_reads r2 r1 se sd ?_ ⟨.bl _, H, I, rfl, q⟩
  have : min (PyData.depthAll ds) d.depth ≤ d.depth := Nat.min_le_right _ _
  omega
theorem inDT (K : PySem.W.Frag) (hu : X.A.units + 64 < cLine) (h : X.K = K := by rfl) : OpR X (compareOp .In) (rInDT K) := by subst h; exact op_inDT hu
end
theorem eqv_pair (a b c d : Int) : PyData.eqv (tI (prI (a, b))) (tI (prI (c, d))) = (decide (a = c) && decide (b = d)) := by
  show ((a == c) && ((b == d) && true)) = _
  rw [Bool.and_true]
  rfl
theorem any_pair {T : List (Int × Int)} {a b : Int} : (((T.map prI).map tI).any fun z => PyData.eqv z (tI (prI (a, b)))) = decide ((a, b) ∈ T) := by
  induction T with
  | nil => rfl
  | cons t T ih =>
    rw [List.map_cons, List.map_cons, List.any_cons, ih, eqv_pair, Bool.eq_iff_iff, Bool.or_eq_true, Bool.and_eq_true, decide_eq_true_eq, decide_eq_true_eq, decide_eq_true_eq, decide_eq_true_eq, List.mem_cons]
    constructor
    · rintro (⟨h1, h2⟩ | h)
      · exact .inl (Prod.ext h1.symm h2.symm)
      · exact .inr h
    · rintro (h | h)
      · exact .inl ⟨by rw [← h], by rw [← h]⟩
      · exact .inr h
theorem dpPairs {K : PySem.W.Frag} {H : Hp} : ∀ {ts : List V} {T : List (Int × Int)}, ts.length = T.length → (∀ (i : Nat) (x : V), ts[i]? = some x → ∃ (a b : Int) (t : Addr), T[i]? = some (a, b) ∧ x = .ref t ∧ SqT K H t [.int a, .int b]) → DpAll K H ts ((T.map prI).map tI)
  | [], [], _, _ => .nil
  | [], _ :: _, h, _ => by cases h
  | _ :: _, [], h, _ => by cases h
  | x :: ts, t :: T, h, g => by
    obtain ⟨a, b, q, e1, rfl, hq⟩ := g 0 x rfl
    obtain rfl : t = (a, b) := Option.some.inj e1
    refine .cons (Dp.ofTI (ns := prI (a, b)) hq) (dpPairs (by simpa using h) fun i y e => g (i + 1) y e)
theorem inPairs {K : PySem.W.Frag} {H : Hp} {t q : Addr} {a b : Int} {T : List (Int × Int)} {ts : List V} {Q : VK} (hp : SqT K H t [.int a, .int b]) (hq : SqT K H q ts) (hts : DpAll K H ts ((T.map prI).map tI)) (h : Q (.bl (decide ((a, b) ∈ T))) H) : rInDT K (.ref t) (.ref q) H Q :=
  ⟨tI (prI (a, b)), (T.map prI).map tI, Dp.ofTI (ns := prI (a, b)) hp, .tup hq hts, by simpa only [tI, PyData.canLay0] using canLay_ints (prI (a, b)), Nat.le_trans (depth_ints (prI (a, b))) (by decide), (lay_tIs _).1, by rw [any_pair]; exact h⟩

/-! ### lots, cuts, ways -/
def othersL (n : Nat) (lot : List Int) : List Int := (ups n).filter fun x => !decide (x ∈ lot)
theorem mem_othersL {n : Nat} {lot : List Int} {x : Int} (h : x ∈ othersL n lot) : 0 ≤ x ∧ x < n := mem_ups.mp (List.mem_filter.mp h).1
theorem othersL_up {n : Nat} {lot : List Int} : (othersL n lot).Pairwise (· < ·) := List.Pairwise.filter _ (ups_up _)
theorem othersL_len {n : Nat} {lot : List Int} : (othersL n lot).length ≤ n := by
  have := List.length_filter_le (fun x => !decide (x ∈ lot)) (ups n)
  rw [ups_len] at this
  exact this
noncomputable def manyB (T : List (Int × Int)) (lot : List Int) : Bool := @decide (∃ ps, PiecesIs T lot ps ∧ 2 ≤ ps.length) (Classical.propDecidable _)
theorem manyB_eq {T : List (Int × Int)} {lot : List Int} {ps : List (List Int)} (h : PiecesIs T lot ps) : decide (2 ≤ ps.length) = manyB T lot := by
  unfold manyB
  rw [Bool.eq_iff_iff, decide_eq_true_eq, @decide_eq_true_eq _ (Classical.propDecidable _)]
  constructor
  · intro e
    exact ⟨ps, h, e⟩
  · rintro ⟨ps', h', e⟩
    rw [h.eq h']
    exact e
def lotOf : PyData → List Int
  | .tuple ds => intsOf ds
  | _ => []
noncomputable def isCutD (T : List (Int × Int)) (n : Nat) (d : PyData) : Bool := lotD n d && manyB T (othersL n (lotOf d))
/-- a lot is a tuple of whole numbers -/
theorem lotD_tup {n : Int} {d : PyData} (h : lotD n d = true) : ∃ ds, d = .tuple ds ∧ IntsD ds := by
  cases d with
  | tuple ds =>
    simp only [lotD, Bool.and_eq_true] at h
    exact ⟨ds, rfl, placeD_ints h.1⟩
  | _ => cases h
def tiedB (T : List (Int × Int)) (x y : Int) : Bool := decide (((if y < x then y else x), (if y > x then y else x)) ∈ T)
theorem near_tied {n : Nat} {T : List (Int × Int)} {x y : Int} (hT : WebOk n T) (hne : x ≠ y) : decide (y ∈ nearS T x) = tiedB T x y := by
  unfold tiedB
  rw [decide_eq_decide, mem_nearS]
  by_cases h : y < x
  · rw [if_pos h, if_neg (by omega)]
    constructor
    · rintro ⟨t, ht, ⟨e1, e2⟩ | ⟨e1, e2⟩⟩
      · rw [← e1, ← e2]
        exact ht
      · have b := hT.2 t ht
        omega
    · intro ht
      exact ⟨_, ht, .inl ⟨rfl, rfl⟩⟩
  · have h2 : y > x := by omega
    rw [if_neg h, if_pos h2]
    constructor
    · rintro ⟨t, ht, ⟨e1, e2⟩ | ⟨e1, e2⟩⟩
      · have b := hT.2 t ht
        omega
      · rw [← e1, ← e2]
        exact ht
    · intro ht
      exact ⟨_, ht, .inr ⟨rfl, rfl⟩⟩
def wayL (T : List (Int × Int)) (zs : List Int) : List Bool := (zs.zip (zs.drop 1)).map fun p => tiedB T p.1 p.2
theorem wayL_len {T : List (Int × Int)} {zs : List Int} : (wayL T zs).length = zs.length - 1 := by
  unfold wayL
  rw [List.length_map, List.length_zip, List.length_drop]
  omega
theorem wayL_get {T : List (Int × Int)} {zs : List Int} {i : Nat} {x y : Int} (h1 : zs[i]? = some x) (h2 : zs[i + 1]? = some y) : (wayL T zs)[i]? = some (tiedB T x y) := by
  have h3 : (zs.drop 1)[i]? = some y := by rw [List.getElem?_drop, Nat.add_comm]; exact h2
  have z : (zs.zip (zs.drop 1))[i]? = some (x, y) := List.getElem?_zip_eq_some.mpr ⟨h1, h3⟩
  unfold wayL
  rw [List.getElem?_map, z]
  rfl
/-- is d a way from a to b -/
def isWayD (T : List (Int × Int)) (n : Nat) (a b : Int) : PyData → Bool
  | .tuple ds => ds.all (placeD n) && (decide (2 ≤ ds.length) && (decide (intsOf ds).Nodup && (decide ((intsOf ds)[0]? = some a) && (decide ((intsOf ds)[ds.length - 1]? = some b) && (wayL T (intsOf ds)).all id))))
  | _ => false
theorem at_last {rs : List Int} {z : Int} (h1 : 1 ≤ rs.length) (h : rs[rs.length - 1]? = some z) : atI (rs.map V.int) (-1) = some (.int z) := by
  unfold atI ixN
  rw [List.length_map, if_neg (by decide), if_pos (by omega)]
  show (rs.map V.int)[((-1 : Int) + (rs.length : Int)).toNat]? = _
  rw [show ((-1 : Int) + (rs.length : Int)).toNat = rs.length - 1 by omega, List.getElem?_map, h]
  rfl
theorem nodup_next {zs : List Int} {i : Nat} {x y : Int} (h : zs.Nodup) (h1 : zs[i]? = some x) (h2 : zs[i + 1]? = some y) : x ≠ y := fun e => by
  subst e
  obtain ⟨l1, e1⟩ := List.getElem?_eq_some_iff.mp h1
  obtain ⟨l2, e2⟩ := List.getElem?_eq_some_iff.mp h2
  have := (List.getElem_inj h).mp (e1.trans e2.symm)
  omega
def spOthers (K : PySem.W.Frag) : Sp := fun vs H Q _ => ∃ (v : V) (n : Nat) (e : PyData) (lq : Addr) (lot : List Int), vs = [v, .ref lq] ∧ Dq K H v (.tuple [.int n, e]) ∧ n ≤ 100 ∧ SqT K H lq (lot.map V.int) ∧
  ∀ (a : Addr) H', Same H H' → SqT K H' a ((othersL n lot).map V.int) → Q (.ref a) H'
def spIsCut (K : PySem.W.Frag) : Sp := fun vs H Q _ => ∃ (v x : V) (n : Nat) (T : List (Int × Int)) (d : PyData) (W D : Nat), vs = [v, x] ∧ Dq K H v (webD n T) ∧ WebOk n T ∧ 1 ≤ n ∧ n ≤ 12 ∧ Dq K H x d ∧ Sm W D d ∧ W ≤ 4000 ∧ ∀ H', Same H H' → Q (.bl (isCutD T n d)) H'
def spIsWay (K : PySem.W.Frag) : Sp := fun vs H Q _ => ∃ (v x : V) (n : Nat) (T : List (Int × Int)) (a b : Int) (d : PyData) (W D : Nat), vs = [v, .int a, .int b, x] ∧ Dq K H v (webD n T) ∧ WebOk n T ∧ 1 ≤ n ∧ n ≤ 12 ∧ Dq K H x d ∧ Sm W D d ∧ W ≤ 4000 ∧ ∀ H', Same H H' → Q (.bl (isWayD T n a b d)) H'
def spWalk (K : PySem.W.Frag) : Sp := fun vs H Q _ => ∃ (p c : Addr) (n0 : Nat) (v : V) (n : Nat) (T : List (Int × Int)) (x : Int), vs = [.ref p, v, .int x] ∧ Pen H p c n0 ∧ n0 ≤ 700000 ∧ Dq K (wo p H) v (webD n T) ∧ WebOk n T ∧ 1 ≤ n ∧ n ≤ 12 ∧ 0 ≤ x ∧ x < n ∧
  ∀ (q : Addr) (r : List Int) H', 1 ≤ r.length → r.length ≤ n → (∀ y ∈ r, 0 ≤ y ∧ y < n) → Pen H' p c (n0 + 1 + n) → Same (wo p H) (wo p H') → SqT K (wo p H') q (r.map V.int) → Q (.ref q) H'
end My

set_option Elab.async false
set_option linter.all false
set_option maxRecDepth 100000
set_option maxHeartbeats 4000000
namespace My
open PySem PySem.Spec PyProof.Rows L2
section
variable {K : PySem.W.Frag} {p c : Addr} {av : List Addr} {n0 : Nat} {H0 : Hp} {σ : L2.St} {ta : TA} {t : TE} {W D m st : Nat}
/-- as EvAP.pure, the pen known -/
theorem EvAP.pureP {d : PyData} (hpav : p ∈ av) (h : ∀ H n, Pen H p c n → Same (wo p H0) (wo p H) → Avs av H → EvQ K av H σ t d) (hd : Sm W D d) (r : EvAP K p c av n0 H0 σ ta W D m st) : EvAP K p c av n0 H0 σ (tCons t ta) W D (m + 1) st := fun H n pen hn hav s Q q => by
  refine h H n pen s hav H (fun _ _ e => e) _ fun x H1 s1 hx => ?_
  refine r H1 n (Pen.same s1 pen) hn (hav.same s1) (s.trans (My.Same.wo s1)) _ fun xs ds H2 hxs hds hl pen2 s2 => ?_
  refine q (x :: xs) (d :: ds) H2 (.cons (Dq.same (My.Same.wos_of hpav s2) hx) hxs) (fun e he => ?_) (by rw [List.length_cons, hl]) pen2 ((My.Same.wo s1).trans s2)
  rcases List.mem_cons.mp he with rfl | he
  · exact hd
  · exact hds e he
/-- sorted(t), t a tuple of whole numbers -/
theorem EvL.sortI {ns : List Int} (hp : Avs av H0) (h : EvQ K av H0 σ t (.tuple (ns.map PyData.int))) : EvQ K av H0 σ (tCB (rSortTI K) (tCons t tNil)) (.list ((My.sortI ns).map PyData.int)) := fun H s Q q => by
  refine h H s _ fun x H1 s1 hx => ?_
  obtain ⟨a, xs, rfl, hT, hxs⟩ := hx.un_tup
  have ex := hxs.intsOf (intsD_map ns)
  rw [intsOf_map] at ex
  subst ex
  refine ⟨a, ns, rfl, My.Same.sqt wos_le hT, fun ns' b hpm hle hb => ?_⟩
  obtain rfl : ns' = My.sortI ns := sortI_eq hpm hle
  have t3 := My.Same.new (o := HO.lst ((My.sortI ns).map V.int)) hb
  have n3 := (hp.same (s.trans s1)).fresh hb
  exact q _ _ (s1.trans t3) (.lst (SqL.of ((wos_in n3).trans upd_same)) (DqAll.ints _))
/-- the first k of a tuple of whole numbers -/
theorem EvQ.takeI {ns : List Int} {k : Nat} {th : TO} (hp : Avs av H0) (he : EvQ K av H0 σ t (.tuple (ns.map PyData.int))) (hh : ∀ (H : Hp) (Q : Option Int → Hp → Prop), Q (some (k : Int)) H → th σ H Q) :
    EvQ K av H0 σ (tSl (rSlA K) t tNoPart th) (.tuple ((ns.take k).map PyData.int)) := by
  have := EvQ.slT (tl := tNoPart) (th := th) (lo := none) (hi := some (k : Int)) hp he (fun _ _ q => q) hh
  rw [cutD_take, ← List.map_take] at this
  exact this
/-- a call that tells the neighbours -/
theorem EvQ.nbr {n : Int} {T : List (Int × Int)} {x : Int} {wq : Addr} {i j : Nat} (hlst : ∃ us, H0 p = some (.lst us)) (ei : σ[i]? = some (some (.ref wq))) (ej : σ[j]? = some (some (.int x))) (hW : Dq K (wos [p] H0) (.ref wq) (webD n T)) (lT : T.length ≤ 1000) :
    EvQ K [p] H0 σ (tCall (spNbr K) [] E0 (tCons (tVar i) (tCons (tVar j) tNil))) (.tuple ((nearS T x).map PyData.int)) := fun H s Q q => by
  refine ⟨_, ei, _, ej, .ref wq, n, T, x, rfl, Dq.same (wos_le.trans s) hW, lT, fun qn H' s' hq => ?_⟩
  obtain ⟨us, hus⟩ := hlst
  exact q _ _ s' (Dq.same wo_wos (Dq.ofTI (sqt_wo hq (s' _ _ (s _ _ hus)))))
end
theorem shaped_ints {ns : List Int} : SeqAt.shaped (.list (ns.map PyData.int)) = true := by
  have h2 := depth_ints ns
  unfold SeqAt.shaped
  rw [Bool.and_eq_true, decide_eq_true_eq]
  refine ⟨by simpa only [PyData.canLay0] using canLay_ints ns, ?_⟩
  simp only [PyData.depth] at h2 ⊢
  omega
/-- l != [], l a list of whole numbers -/
theorem ne_nilI {K : PySem.W.Frag} {H : Hp} {a b : Addr} {ns : List Int} {Q : VK} (ha : SqL K H a (ns.map V.int)) (hb : SqL K H b []) (q : Q (.bl (decide (1 ≤ ns.length))) H) : rNeD K (.ref a) (.ref b) H Q := by
  refine ⟨.list (ns.map PyData.int), .list [], .lst ha (DpAll.ints ns), .lst hb .nil, shaped_ints, by decide, ?_⟩
  cases ns with
  | nil => exact q
  | cons d ds =>
    rw [decide_eq_true (by rw [List.length_cons]; omega)] at q
    exact q
/-- a web, an order of its places, a lot -/
structure Keep3 (K : PySem.W.Frag) (H : Hp) (wq : Addr) (n : Nat) (T : List (Int × Int)) (oq : Addr) (os : List Int) (lq : Addr) (ls : List Int) : Prop where
  web : Dq K H (.ref wq) (webD n T)
  order : SqT K H oq (os.map V.int)
  lot : SqT K H lq (ls.map V.int)
theorem Keep3.same {K : PySem.W.Frag} {H H' : Hp} {wq : Addr} {n : Nat} {T : List (Int × Int)} {oq : Addr} {os : List Int} {lq : Addr} {ls : List Int} (s : Same H H') (h : Keep3 K H wq n T oq os lq ls) : Keep3 K H' wq n T oq os lq ls :=
  ⟨Dq.same s h.web, My.Same.sqt s h.order, My.Same.sqt s h.lot⟩
theorem smRng {n : Nat} {r : List Int} (h : ∀ x ∈ r, 0 ≤ x ∧ x < n) (hn : n ≤ 12) (hl : r.length ≤ 12) : SmAll 12 0 (r.map PyData.int) := (smInts r fun x hx => by have := h x hx; omega).mono hl (Nat.le_refl 0)
theorem tiRng {n : Nat} {r : List Int} (h : ∀ x ∈ r, 0 ≤ x ∧ x < n) (hn : n ≤ 12) : Ti 1 (.tuple (r.map PyData.int)) := tiInts fun x hx => by have := h x hx; omega
theorem nearS_len12 {T : List (Int × Int)} {n : Nat} {x : Int} (hT : WebOk n T) (hn : n ≤ 12) : (nearS T x).length ≤ 288 := by
  have h1 := nearS_len (T := T) (x := x)
  have h2 := hT.len hn
  omega
end My

set_option Elab.async false
set_option linter.all false
set_option maxRecDepth 100000
set_option maxHeartbeats 4000000
namespace My
open PySem PySem.Spec PyProof.Rows L2
section
variable {X : Cx}
/-! ### plain tuples: displays, sums; any -/
def tTupF (t : TA) : TE := fun σ H Q => t σ H fun xs H1 => xs.length ≤ sizeLine ∧ ∀ p H', Same H1 H' → Plain H' p xs → Q (.ref p) H'
theorem pe_tupF {es : List Expr} {x1 : Nat} {pos : Pos} {t : TA} (h : PA X es t) : PE X (.Tuple es x1 pos) (tTupF t) := by
  refine ⟨fun pins s σ H Q I hq => ?_⟩
  refine wpAny_Tuple_spliced (thn (h.run pos pins s σ H _ I hq) fun us s1 ⟨xs, H1, I1, r, z, q⟩ => ⟨by rw [← r.length]; exact z, ?_⟩)
  have hf : H1 s1.heap.objs.size = none := I1.hok.fresh (Nat.le_refl _)
  refine ⟨.ref s1.heap.objs.size, upd H1 s1.heap.objs.size (.frz { cls := .type "tuple", data := .seq us.toArray } (.tup xs)), I1.laid (t' := s1.toks) (fun b u e => Heap.get?_push_of_some _ e) (Nat.le_refl _) ⟨Heap.get?_push_size _ rfl, z, us, r, IsTup.new _ _⟩, rfl, q _ _ (My.Same.new hf) ⟨_, upd_same, rfl, rfl⟩⟩
def rCatF : V → V → Hp → VK → Prop := fun x y H Q => ∃ a b xs ys, x = .ref a ∧ y = .ref b ∧ Plain H a xs ∧ Plain H b ys ∧ xs.length + ys.length ≤ sizeLine ∧ ∀ c H', Same H H' → Plain H' c (xs ++ ys) → Q (.ref c) H'
theorem catF : OpR X (binaryOp .Add) rCatF := by
  intro pins s σ H x y v u Q I rx ry h
  obtain ⟨a, b, xs, ys, rfl, rfl, ha, hb, hz, q⟩ := h
  cases rx
  cases ry
  obtain ⟨its, r1, p1, _⟩ := I.tuple (ha.sqt (K := X.K))
  obtain ⟨its2, r2, p2, _⟩ := I.tuple (hb.sqt (K := X.K))
  by_cases hx : xs = []
  · subst hx
    cases r1
    exact cat_tup0 p1 p2 ⟨.ref b, H, I, rfl, q b H (Same.refl H) hb⟩
  · refine HT.cat_tup p1 p2 (fun z => hx (r1.nil_iff.mp z)) (fun z => ⟨.ref a, H, I, rfl, q a H (Same.refl H) ?_⟩) (fun z => ?_) (by rw [← r1.length, ← r2.length]; exact hz)
    · rw [r2.nil_iff.mp z, List.append_nil]
      exact ha
    · have hf : H s.heap.objs.size = none := I.hok.fresh (Nat.le_refl _)
      refine ⟨.ref s.heap.objs.size, _, I.laid (t' := s.toks) (o := .frz { cls := .type "tuple", data := .seq (its ++ its2).toArray } (.tup (xs ++ ys))) (fun b ob q => Heap.get?_push_of_some _ q) (Nat.le_refl _) ⟨Heap.get?_push_size _ rfl, ?_⟩, rfl, q _ _ (My.Same.new hf) ⟨_, upd_same, rfl, rfl⟩⟩
      exact ⟨by rw [List.length_append]; exact hz, _, r1.append r2, IsTup.new _ _⟩
theorem anyL (K : PySem.W.Frag) (hc : X.calm = true) (h : X.K = K := by rfl) : CallR X (.builtin "any") (rAny K) := by subst h; exact cr_any hc
end
/-! ### orders -/
def touchB (T : List (Int × Int)) (x : Int) (lot : List Int) : Bool := (nearS T x).any fun y => decide (y ∈ lot)
theorem touchB_iff {T : List (Int × Int)} {x : Int} {lot : List Int} : touchB T x lot = true ↔ ∃ y ∈ nearS T x, y ∈ lot := by
  unfold touchB
  rw [List.any_eq_true]
  constructor
  · rintro ⟨y, h, h2⟩
    exact ⟨y, h, of_decide_eq_true h2⟩
  · rintro ⟨y, h, h2⟩
    exact ⟨y, h, decide_eq_true h2⟩
def spTouches (K : PySem.W.Frag) : Sp := fun vs H Q _ => ∃ (v : V) (n : Nat) (T : List (Int × Int)) (x : Int) (lq : Addr) (lot : List Int), vs = [v, .int x, .ref lq] ∧ Dq K H v (webD n T) ∧ T.length ≤ 1000 ∧ SqT K H lq (lot.map V.int) ∧
  ∀ H', Same H H' → Q (.bl (touchB T x lot)) H'
/-- whatever is closed within r and holds one of its places holds all of them -/
def Hang (T : List (Int × Int)) (r : List Int) : Prop := ∀ F : List Int, (∃ x, x ∈ F ∧ x ∈ r) → Closed T r F → ∀ x ∈ r, x ∈ F
theorem hang_of {T : List (Int × Int)} {lot r : List Int} {s : Int} (hs : s ∈ lot) (h : PieceIs T lot s r) : Hang T r := fun F ⟨a, ha, har⟩ hc x hx => by
  have hra := (h.2 a).mp har
  have h1 : Reach T lot a x := reach_trans (reach_symm hs hra) ((h.2 x).mp hx)
  clear hx
  induction h1 with
  | base => exact ha
  | step hx hy hl ih => exact hc _ ih _ hy ((h.2 _).mpr (reach_trans hra (.step hx hy hl)))
/-- a row of tied places of r from a neighbour of a to a neighbour of b -/
structure RowIs (T : List (Int × Int)) (r : List Int) (a b : Int) (ws : List Int) : Prop where
  sub : ∀ x ∈ ws, x ∈ r
  nd : ws.Nodup
  head : ∃ x, ws[0]? = some x ∧ x ∈ nearS T a
  last : ∃ x, ws[ws.length - 1]? = some x ∧ x ∈ nearS T b
  row : ∀ (i : Nat) (x y : Int), ws[i]? = some x → ws[i + 1]? = some y → y ∈ nearS T x
def spRow (K : PySem.W.Frag) : Sp := fun vs H Q _ => ∃ (v : V) (n : Nat) (T : List (Int × Int)) (rq : Addr) (r : List Int) (a b : Int), vs = [v, .ref rq, .int a, .int b] ∧ Dq K H v (webD n T) ∧ WebOk n T ∧ n ≤ 12 ∧ SqT K H rq (r.map V.int) ∧ (∀ x ∈ r, 0 ≤ x ∧ x < n) ∧ Hang T r ∧ touchB T a r = true ∧ touchB T b r = true ∧
  ∀ (q : Addr) (ws : List Int) H', RowIs T r a b ws → Same H H' → Plain H' q (ws.map V.int) → Q (.ref q) H'
end My

set_option Elab.async false
set_option linter.all false
set_option maxRecDepth 100000
set_option maxHeartbeats 4000000
namespace My
open PySem PySem.Spec PyProof.Rows L2
def fromK (k : Nat) (σ : L2.St) : Nat := match σ[k]? with
  | some (some (V.int i)) => 13 - i.toNat
  | _ => 0
theorem Plain.put {H : Hp} {t ra : Addr} {xs us : List V} {o : HO} (hr : H ra = some (.lst us)) (h : Plain H t xs) : Plain (upd H ra o) t xs := by
  obtain ⟨ob, e, h1, h2⟩ := h
  refine ⟨ob, ?_, h1, h2⟩
  rw [upd_ne (fun z => ?_)]
  · exact e
  · rw [z, hr] at e
    cases e
theorem nearS_nd {n : Nat} {T : List (Int × Int)} {x : Int} (hT : WebOk n T) : (nearS T x).Nodup := by
  unfold nearS
  rw [(sortI_perm _).nodup_iff]
  unfold nearL
  have hnd : T.Nodup := hT.1.imp fun {s t} h e => by
    subst e
    rcases h with h | ⟨_, h⟩ <;> omega
  rw [List.nodup_append]
  refine ⟨?_, ?_, ?_⟩
  · refine List.pairwise_map.mpr ((hnd.filter _).imp_of_mem fun {s t} hs ht hne e => hne (Prod.ext e ?_))
    have h1 := of_decide_eq_true (List.mem_filter.mp hs).2
    have h2 := of_decide_eq_true (List.mem_filter.mp ht).2
    exact h1.trans h2.symm
  · refine List.pairwise_map.mpr ((hnd.filter _).imp_of_mem fun {s t} hs ht hne e => hne (Prod.ext ?_ e))
    have h1 := of_decide_eq_true (List.mem_filter.mp hs).2
    have h2 := of_decide_eq_true (List.mem_filter.mp ht).2
    exact h1.trans h2.symm
  · intro u hu v hv e
    obtain ⟨s, hs, rfl⟩ := List.mem_map.mp hu
    obtain ⟨t, ht, e2⟩ := List.mem_map.mp hv
    have h1 := of_decide_eq_true (List.mem_filter.mp hs).2
    have h2 := of_decide_eq_true (List.mem_filter.mp ht).2
    have b1 := hT.2 s (List.mem_filter.mp hs).1
    have b2 := hT.2 t (List.mem_filter.mp ht).1
    omega
/-- a row from a neighbour of a, of tied places of r -/
structure PathIs (T : List (Int × Int)) (r : List Int) (a : Int) (ws : List Int) : Prop where
  sub : ∀ x ∈ ws, x ∈ r
  nd : ws.Nodup
  head : ∃ x, ws[0]? = some x ∧ x ∈ nearS T a
  row : ∀ (i : Nat) (x y : Int), ws[i]? = some x → ws[i + 1]? = some y → y ∈ nearS T x
theorem PathIs.one {T : List (Int × Int)} {r : List Int} {a x : Int} (h : x ∈ nearS T a) (hr : x ∈ r) : PathIs T r a [x] :=
  ⟨fun y hy => by rw [List.mem_singleton.mp hy]; exact hr, by simp, ⟨x, rfl, h⟩, fun i u v _ h2 => by simp at h2⟩
theorem PathIs.snoc {T : List (Int × Int)} {r : List Int} {a y z : Int} {ws : List Int} (h : PathIs T r a ws) (hz : ws[ws.length - 1]? = some z) (hy : y ∈ nearS T z) (hr : y ∈ r) (hn : y ∉ ws) : PathIs T r a (ws ++ [y]) := by
  have hl : 0 < ws.length := by
    obtain ⟨x, e, _⟩ := h.head
    exact (List.getElem?_eq_some_iff.mp e).1
  refine ⟨fun x hx => ?_, ?_, ?_, fun i u v h1 h2 => ?_⟩
  · rcases List.mem_append.mp hx with hx | hx
    · exact h.sub x hx
    · rw [List.mem_singleton.mp hx]
      exact hr
  · exact (List.perm_append_comm (l₁ := ws) (l₂ := [y])).nodup_iff.mpr (List.nodup_cons.mpr ⟨hn, h.nd⟩)
  · obtain ⟨x, e, hx⟩ := h.head
    exact ⟨x, by rw [List.getElem?_append_left hl]; exact e, hx⟩
  · by_cases h3 : i + 1 < ws.length
    · rw [List.getElem?_append_left (by omega)] at h1
      rw [List.getElem?_append_left h3] at h2
      exact h.row i u v h1 h2
    · have h4 := (List.getElem?_eq_some_iff.mp h2).1
      rw [List.length_append] at h4
      simp only [List.length_cons, List.length_nil] at h4
      have e : i = ws.length - 1 := by omega
      subst e
      rw [List.getElem?_append_left (by omega), hz] at h1
      rw [List.getElem?_append_right (by omega), show ws.length - 1 + 1 - ws.length = 0 by omega] at h2
      cases h1
      cases h2
      exact hy
/-- the rows so far, and the places met -/
structure RowsOk (T : List (Int × Int)) (r : List Int) (a : Int) (rows : List (List Int)) (ms : List Int) : Prop where
  len : ms.length = rows.length
  last : ∀ (i : Nat) ws, rows[i]? = some ws → 1 ≤ ws.length ∧ ws[ws.length - 1]? = ms[i]?
  path : ∀ ws ∈ rows, PathIs T r a ws ∧ ∀ x ∈ ws, x ∈ ms
  nd : ms.Nodup
  sub : ∀ x ∈ ms, x ∈ r
theorem RowsOk.push {T : List (Int × Int)} {r : List Int} {a y z : Int} {rows : List (List Int)} {ms ws : List Int} (h : RowsOk T r a rows ms) (hw : ws ∈ rows) (hz : ws[ws.length - 1]? = some z) (hy : y ∈ nearS T z) (hr : y ∈ r) (hn : y ∉ ms) : RowsOk T r a (rows ++ [ws ++ [y]]) (ms ++ [y]) := by
  refine ⟨by rw [List.length_append, List.length_append, h.len]; rfl, fun i vs hv => ?_, fun vs hv => ?_, (List.perm_append_comm (l₁ := ms) (l₂ := [y])).nodup_iff.mpr (List.nodup_cons.mpr ⟨hn, h.nd⟩), fun x hx => ?_⟩
  · by_cases hi : i < rows.length
    · rw [List.getElem?_append_left hi] at hv
      obtain ⟨h1, h2⟩ := h.last i vs hv
      rw [List.getElem?_append_left (by rw [h.len]; exact hi)]
      exact ⟨h1, h2⟩
    · have h4 := (List.getElem?_eq_some_iff.mp hv).1
      rw [List.length_append] at h4
      simp only [List.length_cons, List.length_nil] at h4
      have e : i = rows.length := by omega
      subst e
      rw [List.getElem?_append_right (by omega), Nat.sub_self] at hv
      cases hv
      have e1 : (ms ++ [y])[rows.length]? = some y := by
        rw [← h.len, List.getElem?_append_right (Nat.le_refl _), Nat.sub_self]
        rfl
      have e2 : (ws ++ [y])[(ws ++ [y]).length - 1]? = some y := by
        rw [List.length_append]
        show (ws ++ [y])[ws.length + 1 - 1]? = _
        rw [Nat.add_sub_cancel, List.getElem?_append_right (Nat.le_refl _), Nat.sub_self]
        rfl
      exact ⟨by rw [List.length_append]; exact Nat.le_add_left 1 _, e2.trans e1.symm⟩
  · rcases List.mem_append.mp hv with hv | hv
    · obtain ⟨h1, h2⟩ := h.path vs hv
      exact ⟨h1, fun x hx => List.mem_append_left _ (h2 x hx)⟩
    · rw [List.mem_singleton.mp hv]
      obtain ⟨h1, h2⟩ := h.path ws hw
      refine ⟨h1.snoc hz hy hr fun m => hn (h2 y m), fun x hx => ?_⟩
      rcases List.mem_append.mp hx with hx | hx
      · exact List.mem_append_left _ (h2 x hx)
      · exact List.mem_append_right _ hx
  · rcases List.mem_append.mp hx with hx | hx
    · exact h.sub x hx
    · rw [List.mem_singleton.mp hx]
      exact hr
/-- the search always goes on -/
theorem rows_more {T : List (Int × Int)} {r ms : List Int} {b : Int} {k : Nat} (hh : Hang T r) (hb : touchB T b r = true) (hne : ∃ x, x ∈ ms) (hsub : ∀ x ∈ ms, x ∈ r)
    (hcl : ∀ (i : Nat) (x : Int), i < k → ms[i]? = some x → x ∉ nearS T b ∧ ∀ y ∈ nearS T x, y ∈ r → y ∈ ms) (hk : k ≤ ms.length) : k < ms.length := by
  apply Classical.byContradiction
  intro hn
  have e : k = ms.length := by omega
  subst e
  obtain ⟨x, hx⟩ := hne
  obtain ⟨y, hy, hyr⟩ := touchB_iff.mp hb
  have hall := hh ms ⟨x, hx, hsub x hx⟩ (fun u hu v hv hvr => by
    obtain ⟨i, hi, e⟩ := List.getElem_of_mem hu
    exact (hcl i u hi (List.getElem?_eq_some_iff.mpr ⟨hi, e⟩)).2 v hv hvr) y hyr
  obtain ⟨i, hi, e⟩ := List.getElem_of_mem hall
  exact (hcl i y hi (List.getElem?_eq_some_iff.mpr ⟨hi, e⟩)).1 hy
theorem sqt_put {K : PySem.W.Frag} {H : Hp} {ma a : Addr} {us xs : List V} {o : HO} (hm : H ma = some (.lst us)) (h : SqT K H a xs) : SqT K (upd H ma o) a xs := by
  rcases h with (h | ⟨ob, h⟩) | h
  · refine .inl (.inl ((upd_ne fun z => ?_).trans h))
    rw [z, hm] at h
    cases h
  · refine .inl (.inr ⟨ob, (upd_ne fun z => ?_).trans h⟩)
    rw [z, hm] at h
    cases h
  · exact .inr h
/-- the rows in the heap -/
def RowsAt (H : Hp) (ra : Addr) (rows : List (List Int)) : Prop := ∃ us : List V, H ra = some (.lst us) ∧ us.length = rows.length ∧ ∀ (i : Nat) (x : V), us[i]? = some x → ∃ t ws, x = .ref t ∧ rows[i]? = some ws ∧ Plain H t (ws.map V.int)
theorem RowsAt.same {H H' : Hp} {ra : Addr} {rows : List (List Int)} (s : Same H H') (h : RowsAt H ra rows) : RowsAt H' ra rows := by
  obtain ⟨us, h1, h2, h3⟩ := h
  refine ⟨us, s _ _ h1, h2, fun i x e => ?_⟩
  obtain ⟨t, ws, e1, e2, e3⟩ := h3 i x e
  exact ⟨t, ws, e1, e2, e3.same s⟩
theorem RowsAt.put {H : Hp} {ra ma : Addr} {rows : List (List Int)} {us : List V} {o : HO} (hm : H ma = some (.lst us)) (hne : ra ≠ ma) (h : RowsAt H ra rows) : RowsAt (upd H ma o) ra rows := by
  obtain ⟨us, h1, h2, h3⟩ := h
  refine ⟨us, (upd_ne hne).trans h1, h2, fun i x e => ?_⟩
  obtain ⟨t, ws, e1, e2, e3⟩ := h3 i x e
  exact ⟨t, ws, e1, e2, e3.put hm⟩
theorem RowsAt.push {H : Hp} {ra c : Addr} {rows : List (List Int)} {ws : List Int} (h : RowsAt H ra rows) (hc : Plain H c (ws.map V.int)) : ∃ us : List V, H ra = some (.lst us) ∧ us.length = rows.length ∧ RowsAt (upd H ra (.lst (us ++ [.ref c]))) ra (rows ++ [ws]) := by
  obtain ⟨us, h1, h2, h3⟩ := h
  refine ⟨us, h1, h2, us ++ [.ref c], upd_same, by rw [List.length_append, List.length_append, h2]; rfl, fun i x e => ?_⟩
  by_cases hi : i < us.length
  · rw [List.getElem?_append_left hi] at e
    obtain ⟨t, vs, e1, e2, e3⟩ := h3 i x e
    exact ⟨t, vs, e1, by rw [List.getElem?_append_left (by omega)]; exact e2, e3.put h1⟩
  · have h4 := (List.getElem?_eq_some_iff.mp e).1
    rw [List.length_append] at h4
    simp only [List.length_cons, List.length_nil] at h4
    have ei : i = us.length := by omega
    subst ei
    rw [List.getElem?_append_right (by omega), Nat.sub_self] at e
    cases e
    exact ⟨c, ws, rfl, by rw [List.getElem?_append_right (by omega), h2, Nat.sub_self]; rfl, hc.put h1⟩
end My

set_option Elab.async false
set_option linter.all false
set_option maxRecDepth 100000
set_option maxHeartbeats 4000000
namespace My
open PySem PySem.Spec PyProof.Rows L2

/-! ### orders and loose ends -/
def Sided (T : List (Int × Int)) (os : List Int) : Prop := ∀ (l : List Int) (x : Int) (r : List Int), os = l ++ x :: r → l ≠ [] → r ≠ [] → touchB T x l = true ∧ touchB T x r = true
structure PartOrd (T : List (Int × Int)) (n : Nat) (a b : Int) (os : List Int) : Prop where
  nd : os.Nodup
  bd : ∀ x ∈ os, 0 ≤ x ∧ x < n
  head : ∃ r, os = a :: r
  last : ∃ l, os = l ++ [b]
  sided : Sided T os
theorem touch_mono {T : List (Int × Int)} {x : Int} {l m : List Int} (h : touchB T x l = true) (s : ∀ y ∈ l, y ∈ m) : touchB T x m = true := by
  obtain ⟨y, h1, h2⟩ := touchB_iff.mp h
  exact touchB_iff.mpr ⟨y, h1, s y h2⟩
theorem PartOrd.two {T : List (Int × Int)} {n : Nat} {a b : Int} (hab : a ≠ b) (ha : 0 ≤ a ∧ a < n) (hb : 0 ≤ b ∧ b < n) : PartOrd T n a b [a, b] := by
  refine ⟨by simp [hab], fun x hx => ?_, ⟨[b], rfl⟩, ⟨[a], rfl⟩, fun l x r e hl hr => ?_⟩
  · simp only [List.mem_cons, List.not_mem_nil, or_false] at hx
    rcases hx with rfl | rfl
    · exact ha
    · exact hb
  · have := congrArg List.length e
    rw [List.length_append, List.length_cons] at this
    have h1 := List.length_pos_iff.mpr hl
    have h2 := List.length_pos_iff.mpr hr
    simp only [List.length_cons, List.length_nil] at this
    omega
theorem PartOrd.insert {T : List (Int × Int)} {n : Nat} {a b u v : Int} {A C r ws : List Int} (h : PartOrd T n a b (A ++ C)) (hu : u ∈ A) (hv : v ∈ C) (hw : RowIs T r u v ws) (hr : ∀ x ∈ r, (0 ≤ x ∧ x < n) ∧ x ∉ A ++ C) : PartOrd T n a b (A ++ ws ++ C) := by
  have hA : A ≠ [] := fun z => by rw [z] at hu; cases hu
  have hC : C ≠ [] := fun z => by rw [z] at hv; cases hv
  have nd := h.nd
  rw [List.nodup_append] at nd
  obtain ⟨n1, n2, n3⟩ := nd
  refine ⟨?_, fun x hx => ?_, ?_, ?_, fun l x s e hl hs => ?_⟩
  · rw [List.nodup_append, List.nodup_append]
    refine ⟨⟨n1, hw.nd, fun x hx y hy e => ?_⟩, n2, fun x hx y hy e => ?_⟩
    · subst e
      exact (hr x (hw.sub x hy)).2 (List.mem_append_left _ hx)
    · subst e
      rcases List.mem_append.mp hx with hx | hx
      · exact n3 x hx x hy rfl
      · exact (hr x (hw.sub x hx)).2 (List.mem_append_right _ hy)
  · rcases List.mem_append.mp hx with hx | hx
    · rcases List.mem_append.mp hx with hx | hx
      · exact h.bd x (List.mem_append_left _ hx)
      · exact (hr x (hw.sub x hx)).1
    · exact h.bd x (List.mem_append_right _ hx)
  · obtain ⟨q, e⟩ := h.head
    cases A with
    | nil => exact absurd rfl hA
    | cons x A =>
      rw [List.cons_append] at e
      cases e
      exact ⟨A ++ ws ++ C, by simp⟩
  · obtain ⟨q, e⟩ := h.last
    obtain ⟨C', c, rfl⟩ : ∃ C' c, C = C' ++ [c] := ⟨C.dropLast, C.getLast hC, (List.dropLast_concat_getLast hC).symm⟩
    rw [← List.append_assoc] at e
    have := List.append_inj' e rfl
    rw [← this.2]
    exact ⟨A ++ ws ++ C', by simp⟩
  · rcases List.append_eq_append_iff.mp e with ⟨m, e1, e2⟩ | ⟨m, e1, e2⟩
    · -- l = A ++ ws ++ m
      have hs' := h.sided (A ++ m) x s (by rw [e2]; simp) (fun z => hA (List.append_eq_nil_iff.mp z).1) hs
      refine ⟨touch_mono hs'.1 fun y hy => ?_, hs'.2⟩
      rw [e1]
      rcases List.mem_append.mp hy with hy | hy
      · exact List.mem_append_left _ (List.mem_append_left _ hy)
      · exact List.mem_append_right _ hy
    · cases m with
      | nil =>
        rw [List.append_nil] at e1
        have hs' := h.sided A x s (by rw [show C = x :: s by simpa using e2.symm]) hA hs
        exact ⟨touch_mono hs'.1 fun y hy => by rw [← e1]; exact List.mem_append_left _ hy, hs'.2⟩
      | cons x' m =>
        rw [List.cons_append] at e2
        obtain ⟨rfl, rfl⟩ : x = x' ∧ s = m ++ C := by
          injection e2 with h1 h2
          exact ⟨h1, h2⟩
        rcases List.append_eq_append_iff.mp e1 with ⟨m', f1, f2⟩ | ⟨m', f1, f2⟩
        · -- l = A ++ m', ws = m' ++ x :: m
          subst f1
          have hx : ws = m' ++ x :: m := f2
          constructor
          · rcases List.eq_nil_or_concat m' with z | ⟨m0, y, z⟩
            · subst z
              obtain ⟨y, ey, hy⟩ := hw.head
              rw [hx] at ey
              cases ey
              exact touchB_iff.mpr ⟨u, mem_nearS.mpr (by
                obtain ⟨t, ht, hh⟩ := mem_nearS.mp hy
                exact ⟨t, ht, hh.symm.imp And.symm And.symm⟩), by simpa using hu⟩
            · subst z
              have := hw.row m0.length y x (by rw [hx]; simp) (by rw [hx]; simp)
              exact touchB_iff.mpr ⟨y, mem_nearS.mpr (by
                obtain ⟨t, ht, hh⟩ := mem_nearS.mp this
                exact ⟨t, ht, hh.symm.imp And.symm And.symm⟩), by simp⟩
          · cases m with
            | nil =>
              obtain ⟨y, ey, hy⟩ := hw.last
              rw [hx] at ey
              simp at ey
              subst ey
              exact touchB_iff.mpr ⟨v, mem_nearS.mpr (by
                obtain ⟨t, ht, hh⟩ := mem_nearS.mp hy
                exact ⟨t, ht, hh.symm.imp And.symm And.symm⟩), by simpa using hv⟩
            | cons y m =>
              have := hw.row m'.length x y (by rw [hx]; simp) (by rw [hx]; simp)
              exact touchB_iff.mpr ⟨y, this, by simp⟩
        · cases m' with
          | nil =>
            rw [List.append_nil] at f1
            subst f1
            have hx : ws = [] ++ x :: m := by simpa using f2.symm
            constructor
            · obtain ⟨y, ey, hy⟩ := hw.head
              rw [hx] at ey
              cases ey
              exact touchB_iff.mpr ⟨u, mem_nearS.mpr (by
                obtain ⟨t, ht, hh⟩ := mem_nearS.mp hy
                exact ⟨t, ht, hh.symm.imp And.symm And.symm⟩), hu⟩
            · cases m with
              | nil =>
                obtain ⟨y, ey, hy⟩ := hw.last
                rw [hx] at ey
                simp at ey
                subst ey
                exact touchB_iff.mpr ⟨v, mem_nearS.mpr (by
                  obtain ⟨t, ht, hh⟩ := mem_nearS.mp hy
                  exact ⟨t, ht, hh.symm.imp And.symm And.symm⟩), by simpa using hv⟩
              | cons y m =>
                have := hw.row 0 x y (by rw [hx]; rfl) (by rw [hx]; rfl)
                exact touchB_iff.mpr ⟨y, this, by simp⟩
          | cons x2 m' =>
            -- A = l ++ x :: m'
            rw [List.cons_append] at f2
            obtain ⟨rfl, rfl⟩ : x = x2 ∧ m = m' ++ ws := by
              injection f2 with h1 h2
              exact ⟨h1, h2⟩
            have hs' := h.sided l x (m' ++ C) (by rw [f1]; simp) hl (fun z => hC (List.append_eq_nil_iff.mp z).2)
            refine ⟨hs'.1, touch_mono hs'.2 fun y hy => ?_⟩
            rcases List.mem_append.mp hy with hy | hy
            · exact List.mem_append_left _ (List.mem_append_left _ hy)
            · exact List.mem_append_right _ hy
/-- the first two that touch stand on the two sides of where the row is put -/
theorem filter_two {f : Int → Bool} {u v : Int} {rest : List Int} : ∀ {os : List Int}, os.filter f = u :: v :: rest → u ∈ os.take (ixOf os u + 1) ∧ v ∈ os.drop (ixOf os u + 1)
  | [], h => by cases h
  | x :: xs, h => by
    by_cases hx : f x = true
    · rw [List.filter_cons_of_pos hx] at h
      injection h with h1 h2
      subst h1
      have e : ixOf (x :: xs) x = 0 := by
        unfold ixOf
        rw [if_pos rfl]
      rw [e]
      exact ⟨by simp, by
        have : v ∈ xs.filter f := by rw [h2]; simp
        simpa using (List.mem_filter.mp this).1⟩
    · rw [List.filter_cons_of_neg hx] at h
      obtain ⟨g1, g2⟩ := filter_two h
      have hu : f u = true := by
        have : u ∈ xs.filter f := by rw [h]; simp
        exact (List.mem_filter.mp this).2
      have e : ixOf (x :: xs) u = ixOf xs u + 1 := by
        show (if x = u then 0 else ixOf xs u + 1) = _
        rw [if_neg fun z => hx (by rw [z]; exact hu)]
      rw [e]
      exact ⟨List.mem_cons_of_mem _ g1, g2⟩
def LooseIs (T : List (Int × Int)) (n : Nat) (a b t : Int) (r : List Int) : Prop := (0 ≤ t ∧ t < n) ∧ (∃ x ∈ othersL n [t], PieceIs T (othersL n [t]) x r) ∧ a ∉ r ∧ b ∉ r
theorem mem_others {n : Nat} {lot : List Int} {x : Int} : x ∈ othersL n lot ↔ (0 ≤ x ∧ x < n) ∧ x ∉ lot := by
  unfold othersL
  rw [List.mem_filter, mem_ups, Bool.not_eq_true', decide_eq_false_iff_not]
theorem reach_mono {T : List (Int × Int)} {lot lot' : List Int} {s x : Int} (h : Reach T lot s x) (hs : ∀ y ∈ lot, y ∈ lot') : Reach T lot' s x := by
  induction h with
  | base => exact .base
  | step _ h1 h2 ih => exact .step ih h1 (hs _ h2)
/-- a piece that touches fewer than two places of the order is a loose end -/
theorem loose_of {T : List (Int × Int)} {n : Nat} {a b x : Int} {os P : List Int} (hT : WebOk n T) (h : PartOrd T n a b os) (hx : x ∈ othersL n os) (hP : PieceIs T (othersL n os) x P) (hf : (os.filter fun y => touchB T y P).length < 2) : ∃ t r, LooseIs T n a b t r := by
  obtain ⟨q, eq⟩ := h.head
  obtain ⟨q2, eq2⟩ := h.last
  have ha : a ∈ os := by rw [eq]; exact List.mem_cons_self
  have hb : b ∈ os := by rw [eq2]; simp
  have hsub : ∀ y ∈ P, y ∈ othersL n os := fun y hy => by
    rcases reach_sub ((hP.2 y).mp hy) with rfl | g
    · exact hx
    · exact g
  obtain ⟨t, ht, hone⟩ : ∃ t, t ∈ os ∧ ∀ y ∈ os, touchB T y P = true → y = t := by
    cases e : os.filter fun y => touchB T y P with
    | nil => exact ⟨a, ha, fun y hy hy2 => by
        have : y ∈ os.filter fun y => touchB T y P := List.mem_filter.mpr ⟨hy, hy2⟩
        rw [e] at this
        cases this⟩
    | cons t rest =>
      have ht : t ∈ os.filter fun y => touchB T y P := by rw [e]; exact List.mem_cons_self
      refine ⟨t, (List.mem_filter.mp ht).1, fun y hy hy2 => ?_⟩
      have : y ∈ os.filter fun y => touchB T y P := List.mem_filter.mpr ⟨hy, hy2⟩
      rw [e] at this hf
      cases rest with
      | nil => exact List.mem_singleton.mp this
      | cons _ _ => simp only [List.length_cons] at hf; omega
  have hmono : ∀ y ∈ othersL n os, y ∈ othersL n [t] := fun y hy => by
    obtain ⟨h1, h2⟩ := mem_others.mp hy
    exact mem_others.mpr ⟨h1, fun m => h2 (by rw [List.mem_singleton.mp m]; exact ht)⟩
  refine ⟨t, P, h.bd t ht, ⟨x, hmono x hx, hP.1, fun y => ⟨fun hy => reach_mono ((hP.2 y).mp hy) hmono, fun hy => ?_⟩⟩, fun m => (mem_others.mp (hsub a m)).2 ha, fun m => (mem_others.mp (hsub b m)).2 hb⟩
  induction hy with
  | base => exact (hP.2 x).mpr .base
  | step hy h1 h2 ih =>
    rename_i y z
    have hz := mem_others.mp h2
    by_cases hzo : z ∈ os
    · have h3 : touchB T z P = true := touchB_iff.mpr ⟨y, mem_nearS.mpr (by
        obtain ⟨t, ht, hh⟩ := mem_nearS.mp h1
        exact ⟨t, ht, hh.symm.imp And.symm And.symm⟩), ih⟩
      exact absurd (List.mem_singleton.mpr (hone z hzo h3)) hz.2
    · exact (hP.2 z).mpr (.step ((hP.2 y).mp ih) h1 (mem_others.mpr ⟨hz.1, hzo⟩))
theorem piece_ex {T : List (Int × Int)} {n : Nat} {lot : List Int} {x : Int} (hl : ∀ y ∈ lot, 0 ≤ y ∧ y < n) (hx : 0 ≤ x ∧ x < n) : ∃ r, PieceIs T lot x r := by
  refine ⟨(ups n).filter fun y => @decide (Reach T lot x y) (Classical.propDecidable _), List.Pairwise.filter _ (ups_up _), fun y => ?_⟩
  rw [List.mem_filter, @decide_eq_true_eq _ (Classical.propDecidable _), mem_ups]
  constructor
  · exact fun h => h.2
  · intro h
    refine ⟨?_, h⟩
    rcases reach_sub h with rfl | g
    · exact hx
    · exact hl y g
end My

set_option Elab.async false
set_option linter.all false
set_option maxRecDepth 100000
set_option maxHeartbeats 4000000
namespace My
open PySem PySem.Spec PyProof.Rows L2
def lenAt (σ : L2.St) (H : Hp) : Nat := match σ[3]? with
  | some (some (V.ref q)) => match H q with
    | some (.frz _ (.tup xs)) => 13 - xs.length
    | _ => 0
  | _ => 0
theorem lenAt_of {x0 x1 x2 : Option V} {q : Addr} {r : L2.St} {H : Hp} {xs : List V} (h : Plain H q xs) : lenAt (x0 :: x1 :: x2 :: some (V.ref q) :: r) H = 13 - xs.length := by
  obtain ⟨ob, e, _⟩ := h
  show (match H q with
    | some (.frz _ (.tup xs)) => 13 - xs.length
    | _ => 0) = _
  rw [e]
def spFindOrder (K : PySem.W.Frag) : Sp := fun vs H Q _ => ∃ (v : V) (n : Nat) (T : List (Int × Int)) (a b : Int), vs = [v, .int a, .int b] ∧ Dq K H v (webD n T) ∧ WebOk n T ∧ n ≤ 12 ∧ a ≠ b ∧ (0 ≤ a ∧ a < n) ∧ (0 ≤ b ∧ b < n) ∧
  (∀ (t : Int) (r : List Int) H', Same H H' → LooseIs T n a b t r → Q .non H') ∧ ∀ (q : Addr) (os : List Int) H', Same H H' → PartOrd T n a b os → os.length = n → Plain H' q (os.map V.int) → Q (.ref q) H'
def spFindLoose (K : PySem.W.Frag) : Sp := fun vs H Q _ => ∃ (v : V) (n : Nat) (T : List (Int × Int)) (a b : Int), vs = [v, .int a, .int b] ∧ Dq K H v (webD n T) ∧ WebOk n T ∧ 1 ≤ n ∧ n ≤ 12 ∧
  (∀ (t : Int) (r : List Int) (q pq : Addr) H', Same H H' → LooseIs T n a b t r → SqT K H' q [.int t, .ref pq] → SqT K H' pq (r.map V.int) → Q (.ref q) H') ∧ ((∀ t r, ¬ LooseIs T n a b t r) → ∀ H', Same H H' → Q .non H')
/-- some place is not in a short list -/
theorem some_other {n : Nat} {os : List Int} (h : os.length < n) : ∃ x, x ∈ othersL n os := by
  apply Classical.byContradiction
  intro z
  have := len_sub (L := ups n) (ns := os) (lt_nodup (ups_up n)) (fun k hk => by
    apply Classical.byContradiction
    intro hn
    exact z ⟨k, mem_others.mpr ⟨mem_ups.mp hk, hn⟩⟩)
  rw [ups_len] at this
  omega
end My

set_option Elab.async false
set_option linter.all false
set_option maxRecDepth 100000
set_option maxHeartbeats 4000000
namespace My
open PySem PySem.Spec PyProof.Rows L2
theorem first_in {r : List Int} : ∀ {os : List Int}, (∃ y ∈ os, y ∈ r) → ∃ l y s, os = l ++ y :: s ∧ y ∈ r ∧ ∀ z ∈ l, z ∉ r
  | [], ⟨y, h, _⟩ => nomatch h
  | x :: xs, ⟨y, hy, hr⟩ => by
    by_cases hx : x ∈ r
    · exact ⟨[], x, xs, rfl, hx, fun z h => nomatch h⟩
    · obtain ⟨l, y', s, e, h1, h2⟩ := first_in (os := xs) ⟨y, by
        rcases List.mem_cons.mp hy with rfl | h
        · exact absurd hr hx
        · exact h, hr⟩
      refine ⟨x :: l, y', s, by rw [e]; rfl, h1, fun z hz => ?_⟩
      rcases List.mem_cons.mp hz with rfl | hz
      · exact hx
      · exact h2 z hz
theorem last_in {r os : List Int} (h : ∃ y ∈ os, y ∈ r) : ∃ l y s, os = l ++ y :: s ∧ y ∈ r ∧ ∀ z ∈ s, z ∉ r := by
  obtain ⟨y, hy, hr⟩ := h
  obtain ⟨l, y', s, e, h1, h2⟩ := first_in (os := os.reverse) (r := r) ⟨y, List.mem_reverse.mpr hy, hr⟩
  have e2 := congrArg List.reverse e
  rw [List.reverse_reverse, List.reverse_append, List.reverse_cons, List.append_assoc] at e2
  exact ⟨s.reverse, y', l.reverse, e2, h1, fun z hz => h2 z (List.mem_reverse.mp hz)⟩
theorem PartOrd.full {T : List (Int × Int)} {n : Nat} {a b : Int} {os : List Int} (h : PartOrd T n a b os) (hl : os.length = n) {x : Int} (hx : 0 ≤ x ∧ x < n) : x ∈ os := by
  apply Classical.byContradiction
  intro hn
  have := len_bd (n := n) (rs := x :: os) (List.nodup_cons.mpr ⟨hn, h.nd⟩) (fun y hy => by
    rcases List.mem_cons.mp hy with rfl | hy
    · exact hx
    · exact h.bd y hy)
  rw [List.length_cons] at this
  omega
/-- where there is an order there is no loose end -/
theorem no_both {T : List (Int × Int)} {n : Nat} {a b t : Int} {os r : List Int} (h : PartOrd T n a b os) (hl : os.length = n) (g : LooseIs T n a b t r) : False := by
  obtain ⟨ht, ⟨x, hx, hP⟩, har, hbr⟩ := g
  have hxr : x ∈ r := (hP.2 x).mpr .base
  have hex : ∃ y ∈ os, y ∈ r := ⟨x, h.full hl (mem_othersL hx), hxr⟩
  have key : ∀ y ∈ r, ∀ z ∈ os, z ∉ r → z ∈ nearS T y → z = t := fun y hy z hz hzr hn => by
    apply Classical.byContradiction
    intro hne
    exact hzr ((hP.2 z).mpr (.step ((hP.2 y).mp hy) hn (mem_others.mpr ⟨h.bd z hz, fun m => hne (List.mem_singleton.mp m)⟩)))
  have ends : ∀ {l : List Int} {y : Int} {s : List Int}, os = l ++ y :: s → y ∈ r → l ≠ [] ∧ s ≠ [] := fun {l y s} e hy => by
    constructor
    · intro z
      subst z
      obtain ⟨q, eq⟩ := h.head
      rw [eq] at e
      injection e with e1 e2
      exact har (by rw [e1]; exact hy)
    · intro z
      subst z
      obtain ⟨q, eq⟩ := h.last
      rw [eq] at e
      have := (List.append_inj' e rfl).2
      injection this with e1 e2
      exact hbr (by rw [e1]; exact hy)
  obtain ⟨l, y, s, e1, hy, hno⟩ := first_in hex
  obtain ⟨l', y', s', e2, hy', hno'⟩ := last_in hex
  have h1 : t ∈ l := by
    obtain ⟨n1, n2⟩ := ends e1 hy
    obtain ⟨z, hz, hzl⟩ := touchB_iff.mp (h.sided l y s e1 n1 n2).1
    rw [← key y hy z (by rw [e1]; exact List.mem_append_left _ hzl) (hno z hzl) hz]
    exact hzl
  have h2 : t ∈ s' := by
    obtain ⟨n1, n2⟩ := ends e2 hy'
    obtain ⟨z, hz, hzl⟩ := touchB_iff.mp (h.sided l' y' s' e2 n1 n2).2
    rw [← key y' hy' z (by rw [e2]; exact List.mem_append_right _ (List.mem_cons_of_mem _ hzl)) (hno' z hzl) hz]
    exact hzl
  have nd := h.nd
  have out : t ∈ l' → False := fun hm => by
    rw [e2, List.nodup_append] at nd
    exact nd.2.2 t hm t (List.mem_cons_of_mem _ h2) rfl
  rw [e1] at e2
  rcases List.append_eq_append_iff.mp e2 with ⟨m, f1, f2⟩ | ⟨m, f1, f2⟩
  · exact out (by rw [f1]; exact List.mem_append_left _ h1)
  · cases m with
    | nil =>
      rw [List.append_nil] at f1
      exact out (by rw [← f1]; exact h1)
    | cons c m =>
      rw [List.cons_append] at f2
      injection f2 with g1 g2
      exact hno y' (by rw [f1, g1]; simp) hy'
theorem PartOrd.perm {T : List (Int × Int)} {n : Nat} {a b : Int} {os : List Int} (h : PartOrd T n a b os) (hl : os.length = n) : os.Perm (ups n) :=
  perm_mem h.nd (lt_nodup (ups_up n)) fun x => ⟨fun hx => mem_ups.mpr (h.bd x hx), fun hx => h.full hl (mem_ups.mp hx)⟩
theorem PartOrd.at {T : List (Int × Int)} {n : Nat} {a b x : Int} {os : List Int} {i : Nat} (h : PartOrd T n a b os) (e : os[i]? = some x) (h1 : 1 ≤ i) (h2 : i + 1 < os.length) : touchB T x (os.take i) = true ∧ touchB T x (os.drop (i + 1)) = true := by
  obtain ⟨hi, ex⟩ := List.getElem?_eq_some_iff.mp e
  refine h.sided (os.take i) x (os.drop (i + 1)) ?_ (fun z => ?_) (fun z => ?_)
  · rw [← ex, ← List.drop_eq_getElem_cons hi, List.take_append_drop]
  · have := congrArg List.length z
    rw [List.length_take, List.length_nil] at this
    omega
  · have := congrArg List.length z
    rw [List.length_drop, List.length_nil] at this
    omega
theorem lotD_of {n : Nat} {r : List Int} (hu : r.Pairwise (· < ·)) (hb : ∀ x ∈ r, 0 ≤ x ∧ x < n) : lotD n (.tuple (r.map PyData.int)) = true := by
  simp only [lotD, Bool.and_eq_true]
  refine ⟨List.all_eq_true.mpr fun d hd => ?_, List.all_eq_true.mpr fun c hc => ?_⟩
  · obtain ⟨x, hx, rfl⟩ := List.mem_map.mp hd
    have := hb x hx
    simp only [placeD, Bool.and_eq_true, decide_eq_true_eq]
    exact this
  · unfold upsD at hc
    obtain ⟨⟨d, e⟩, hp, rfl⟩ := List.mem_map.mp hc
    obtain ⟨i, hi, ei⟩ := List.getElem_of_mem hp
    have ei := List.getElem?_eq_some_iff.mpr ⟨hi, ei⟩
    obtain ⟨e1, e2⟩ := List.getElem?_zip_eq_some.mp ei
    rw [List.getElem?_drop, List.getElem?_map] at e2
    rw [List.getElem?_map] at e1
    cases f1 : r[i]? with
    | none => rw [f1] at e1; cases e1
    | some x =>
      cases f2 : r[1 + i]? with
      | none => rw [f2] at e2; cases e2
      | some y =>
        rw [f1] at e1
        rw [f2] at e2
        cases e1
        cases e2
        obtain ⟨l1, g1⟩ := List.getElem?_eq_some_iff.mp f1
        obtain ⟨l2, g2⟩ := List.getElem?_eq_some_iff.mp f2
        have := List.pairwise_iff_getElem.mp hu i (1 + i) l1 l2 (by omega)
        rw [g1, g2] at this
        exact decide_eq_true this
/-- l == [] -/
theorem eq_nilI {K : PySem.W.Frag} {H : Hp} {a b : Addr} {ns : List Int} {Q : VK} (ha : SqL K H a (ns.map V.int)) (hb : SqL K H b []) (q : Q (.bl (decide (ns.length = 0))) H) : rEqD K (.ref a) (.ref b) H Q := by
  refine ⟨.list (ns.map PyData.int), .list [], .lst ha (DpAll.ints ns), .lst hb .nil, shaped_ints, by decide, ?_⟩
  cases ns with
  | nil => exact q
  | cons d ds =>
    rw [decide_eq_false (by rw [List.length_cons]; omega)] at q
    exact q
/-- two lists of the same whole numbers are not unlike -/
theorem ne_sameI {K : PySem.W.Frag} {H : Hp} {a b : Addr} {ns : List Int} {Q : VK} (ha : SqL K H a (ns.map V.int)) (hb : SqL K H b (ns.map V.int)) (q : Q (.bl false) H) : rNeD K (.ref a) (.ref b) H Q := by
  refine ⟨.list (ns.map PyData.int), .list (ns.map PyData.int), .lst ha (DpAll.ints ns), .lst hb (DpAll.ints ns), shaped_ints, shaped_ints, ?_⟩
  rw [SeqAt.eqv_refl _ (SeqAt.canLay_of_shaped (shaped_ints (ns := ns)))]
  exact q
def spLawOrder (K : PySem.W.Frag) : Sp := fun vs H Q _ => ∃ (v : V) (n : Nat) (T : List (Int × Int)) (a b : Int) (oq : Addr) (os : List Int), vs = [v, .int a, .int b, .ref oq] ∧ Dq K H v (webD n T) ∧ WebOk n T ∧ n ≤ 12 ∧ SqT K H oq (os.map V.int) ∧ PartOrd T n a b os ∧ os.length = n ∧ 2 ≤ n ∧ ∀ H', Same H H' → Q (.bl true) H'
def spLawLoose (K : PySem.W.Frag) : Sp := fun vs H Q _ => ∃ (v : V) (n : Nat) (T : List (Int × Int)) (a b t : Int) (q pq : Addr) (r : List Int), vs = [v, .int a, .int b, .ref q] ∧ Dq K H v (webD n T) ∧ WebOk n T ∧ n ≤ 12 ∧ SqT K H q [.int t, .ref pq] ∧ SqT K H pq (r.map V.int) ∧ LooseIs T n a b t r ∧ ∀ H', Same H H' → Q (.bl true) H'
def spOutlets (K : PySem.W.Frag) : Sp := fun vs H Q _ => ∃ (v : V) (n : Nat) (T : List (Int × Int)) (lq : Addr) (lot : List Int), vs = [v, .ref lq] ∧ Dq K H v (webD n T) ∧ WebOk n T ∧ n ≤ 12 ∧ SqT K H lq (lot.map V.int) ∧ lot.length ≤ 12 ∧
  ∀ (q : Addr) (ms : List Int) H', (∀ y ∈ ms, y ∉ lot ∧ ∃ x ∈ lot, y ∈ nearS T x) → ms.length ≤ 4000 → Same H H' → H' q = some (.lst (ms.map V.int)) → Q (.ref q) H'
end My

set_option Elab.async false
set_option linter.all false
set_option maxRecDepth 100000
set_option maxHeartbeats 4000000
namespace My
open PySem PySem.Spec PyProof.Rows L2
/-! ### orders and loose ends, of any data -/
def sideB (T : List (Int × Int)) (zs : List Int) (j : Nat) : Bool := touchB T (zs.getD (1 + j) 0) (zs.take (1 + j)) && touchB T (zs.getD (1 + j) 0) (zs.drop (1 + j + 1))
def isOrderD (T : List (Int × Int)) (n : Nat) (a b : Int) : PyData → Bool
  | .tuple ds => decide (ds.length = n) && (ds.all (placeD n) && (decide (intsOf ds).Nodup && (decide ((intsOf ds)[0]? = some a) && (decide ((intsOf ds)[ds.length - 1]? = some b) && (List.range (n - 2)).all (sideB T (intsOf ds))))))
  | _ => false
def spBetween (K : PySem.W.Frag) : Sp := fun vs H Q _ => ∃ (v : V) (n : Nat) (T : List (Int × Int)) (oq : Addr) (os : List Int) (j : Nat), vs = [v, .ref oq, .int ((1 + j : Nat) : Int)] ∧ Dq K H v (webD n T) ∧ T.length ≤ 1000 ∧ SqT K H oq (os.map V.int) ∧ 1 + j < os.length ∧
  ∀ H', Same H H' → Q (.bl (sideB T os j)) H'
def spIsOrder (K : PySem.W.Frag) : Sp := fun vs H Q _ => ∃ (v x : V) (n : Nat) (T : List (Int × Int)) (a b : Int) (d : PyData) (W D : Nat), vs = [v, .int a, .int b, x] ∧ Dq K H v (webD n T) ∧ WebOk n T ∧ 2 ≤ n ∧ n ≤ 12 ∧ Dq K H x d ∧ Sm W D d ∧ W ≤ 4000 ∧ ∀ H', Same H H' → Q (.bl (isOrderD T n a b d)) H'
theorem eqv_ints : ∀ ns ms : List Int, PyData.eqv (.list (ns.map PyData.int)) (.list (ms.map PyData.int)) = decide (ns = ms)
  | [], [] => rfl
  | [], _ :: _ => by simp [PyData.eqv, PyData.eqvAll]
  | _ :: _, [] => by simp [PyData.eqv, PyData.eqvAll]
  | n :: ns, m :: ms => by
    have ih := eqv_ints ns ms
    simp only [PyData.eqv] at ih
    show ((n == m) && PyData.eqvAll (ns.map PyData.int) (ms.map PyData.int)) = _
    rw [ih, Bool.eq_iff_iff, Bool.and_eq_true, decide_eq_true_eq, decide_eq_true_eq, beq_iff_eq, List.cons.injEq]
theorem ne_listsI {K : PySem.W.Frag} {H : Hp} {a b : Addr} {ns ms : List Int} {Q : VK} (ha : SqL K H a (ns.map V.int)) (hb : SqL K H b (ms.map V.int)) (q : Q (.bl (!decide (ns = ms))) H) : rNeD K (.ref a) (.ref b) H Q := by
  refine ⟨.list (ns.map PyData.int), .list (ms.map PyData.int), .lst ha (DpAll.ints ns), .lst hb (DpAll.ints ms), shaped_ints, shaped_ints, ?_⟩
  rw [eqv_ints]
  exact q
/-- sorted to all places: as many, all places, no two the same -/
theorem sort_ups {n : Nat} {zs : List Int} : sortI zs = ups n ↔ zs.length = n ∧ (∀ x ∈ zs, 0 ≤ x ∧ x < n) ∧ zs.Nodup := by
  constructor
  · intro e
    have hp : zs.Perm (ups n) := by
      rw [← e]
      exact (sortI_perm zs).symm
    exact ⟨by rw [hp.length_eq, ups_len], fun x hx => mem_ups.mp (hp.mem_iff.mp hx), hp.nodup_iff.mpr (lt_nodup (ups_up n))⟩
  · rintro ⟨h1, h2, h3⟩
    have hp : (ups n).Perm zs := perm_mem (lt_nodup (ups_up n)) h3 fun x => ⟨fun hx => by
      apply Classical.byContradiction
      intro hn
      have := len_bd (n := n) (rs := x :: zs) (List.nodup_cons.mpr ⟨hn, h3⟩) (fun y hy => by
        rcases List.mem_cons.mp hy with rfl | hy
        · exact mem_ups.mp hx
        · exact h2 y hy)
      rw [List.length_cons] at this
      omega, fun hx => mem_ups.mpr (h2 x hx)⟩
    exact (sortI_eq hp ((ups_up n).imp fun h => Int.le_of_lt h)).symm
end My
namespace My
open PySem PySem.Spec PyProof.Rows L2
theorem filter_len0 {T : List (Int × Int)} {y : Int} {L : List Int} : decide (((nearS T y).filter fun z => decide (z ∈ L)).length = 0) = !touchB T y L := by
  cases h : touchB T y L with
  | true =>
    refine decide_eq_false fun z => ?_
    obtain ⟨c, h1, h2⟩ := touchB_iff.mp h
    have hc : c ∈ (nearS T y).filter fun z => decide (z ∈ L) := List.mem_filter.mpr ⟨h1, decide_eq_true h2⟩
    rw [List.length_eq_zero_iff.mp z] at hc
    cases hc
  | false =>
    refine decide_eq_true ?_
    rw [List.length_eq_zero_iff, List.filter_eq_nil_iff]
    intro c h1 h2
    rw [touchB_iff.mpr ⟨c, h1, of_decide_eq_true h2⟩] at h
    cases h
theorem whole_place {n : Nat} {ds : List PyData} (h : ds.all wholeD = false) : ds.all (placeD n) = false := by
  rw [List.all_eq_false] at h ⊢
  obtain ⟨d, hd, hw⟩ := h
  exact ⟨d, hd, by rw [placeD_whole (by simpa using hw)]; decide⟩
theorem whole_ints {ds : List PyData} (h : ds.all wholeD = true) : IntsD ds := fun d hd => wholeD_int (List.all_eq_true.mp h d hd)
theorem places_of {n : Nat} {ds : List PyData} (hi : IntsD ds) (h : ∀ x ∈ intsOf ds, 0 ≤ x ∧ x < n) : ds.all (placeD n) = true := by
  refine List.all_eq_true.mpr fun d hd => ?_
  obtain ⟨i, rfl⟩ := hi d hd
  have hm : i ∈ intsOf ds := by
    clear h
    induction ds with
    | nil => cases hd
    | cons e ds ih =>
      obtain ⟨k, rfl⟩ := hi e List.mem_cons_self
      rcases List.mem_cons.mp hd with h | h
      · cases h
        exact List.mem_cons_self
      · exact List.mem_cons_of_mem _ (ih (fun e he => hi e (List.mem_cons_of_mem _ he)) h)
  simp only [placeD, Bool.and_eq_true, decide_eq_true_eq]
  exact h i hm
theorem of_places {n : Nat} {ds : List PyData} (h : ds.all (placeD n) = true) : ∀ x ∈ intsOf ds, 0 ≤ x ∧ x < n := by
  induction ds with
  | nil => intro x hx; cases hx
  | cons d ds ih =>
    rw [List.all_cons, Bool.and_eq_true] at h
    obtain ⟨h1, h2⟩ := h
    cases d with
    | int i =>
      simp only [placeD, Bool.and_eq_true, decide_eq_true_eq] at h1
      intro x hx
      rcases List.mem_cons.mp (show x ∈ i :: intsOf ds from hx) with rfl | hx
      · exact h1
      · exact ih h2 x hx
    | _ => cases h1
end My

set_option Elab.async false
set_option linter.all false
set_option maxRecDepth 100000
set_option maxHeartbeats 4000000
namespace My
open PySem PySem.Spec PyProof.Rows L2
/-! ### loose ends, of any data -/
def tOf : PyData → Int
  | .int i => i
  | _ => 0
def outB (T : List (Int × Int)) (lot : List Int) (t x : Int) : Bool := (nearS T x).all fun y => decide (y ∈ lot) || decide (y = t)
def isLooseD (T : List (Int × Int)) (n : Nat) (a b : Int) : PyData → Bool
  | .tuple [d1, d2] => placeD n d1 && (lotD n d2 && (decide (1 ≤ (lotOf d2).length) && (!decide (a ∈ lotOf d2) && (!decide (b ∈ lotOf d2) && (!decide (tOf d1 ∈ lotOf d2) && (lotOf d2).all (outB T (lotOf d2) (tOf d1)))))))
  | _ => false
def spIsLoose (K : PySem.W.Frag) : Sp := fun vs H Q _ => ∃ (v x : V) (n : Nat) (T : List (Int × Int)) (a b : Int) (d : PyData) (W D : Nat), vs = [v, .int a, .int b, x] ∧ Dq K H v (webD n T) ∧ WebOk n T ∧ 2 ≤ n ∧ n ≤ 12 ∧ Dq K H x d ∧ Sm W D d ∧ W ≤ 4000 ∧ ∀ H', Same H H' → Q (.bl (isLooseD T n a b d)) H'
theorem Sm.second {W D : Nat} {d1 d2 : PyData} (h : Sm W D (.tuple [d1, d2])) : Sm W D d2 := by
  obtain ⟨h1, h2, h3, h4⟩ := h
  simp only [PyData.leavesShort, PyData.leavesShortAll, PyData.showable, PyData.showableAll, PyData.bulk, PyData.bulkAll, PyData.depth, PyData.depthAll, Bool.and_eq_true] at h1 h2 h3 h4
  refine ⟨h1.2.1, h2.2.1, ?_, ?_⟩
  · omega
  · omega
end My

set_option Elab.async false
set_option linter.all false
set_option maxRecDepth 100000
set_option maxHeartbeats 4000000
namespace My
open PySem PySem.Spec PyProof.Rows L2
theorem ups_pair : ∀ zs : List Int, (upsD (zs.map PyData.int)).all id = true → zs.Pairwise (· < ·)
  | [], _ => .nil
  | [a], _ => by simp
  | a :: b :: r, h => by
    have e : upsD ((a :: b :: r).map PyData.int) = decide (a < b) :: upsD ((b :: r).map PyData.int) := rfl
    rw [e, List.all_cons, Bool.and_eq_true] at h
    obtain ⟨h1, h2⟩ := h
    have h1 : a < b := of_decide_eq_true h1
    have ih := ups_pair (b :: r) h2
    refine List.pairwise_cons.mpr ⟨fun c hc => ?_, ih⟩
    rcases List.mem_cons.mp hc with rfl | hc
    · exact h1
    · have := (List.pairwise_cons.mp ih).1 c hc
      omega
theorem map_intsOf : ∀ {ds : List PyData}, IntsD ds → (intsOf ds).map PyData.int = ds
  | [], _ => rfl
  | d :: ds, h => by
    obtain ⟨i, rfl⟩ := h d List.mem_cons_self
    show PyData.int i :: (intsOf ds).map PyData.int = _
    rw [map_intsOf fun e he => h e (List.mem_cons_of_mem _ he)]
theorem lot_len {n : Nat} {ds : List PyData} (h : lotD (n : Int) (.tuple ds) = true) : (intsOf ds).length ≤ n := by
  simp only [lotD, Bool.and_eq_true] at h
  have hi := placeD_ints h.1
  have h2 := h.2
  rw [← map_intsOf hi] at h2
  exact len_bd (lt_nodup (ups_pair _ h2)) (of_places h.1)
def spOutletsX (K : PySem.W.Frag) : Sp := fun vs H Q _ => ∃ (v : V) (n : Nat) (T : List (Int × Int)) (lq : Addr) (lot : List Int), vs = [v, .ref lq] ∧ Dq K H v (webD n T) ∧ WebOk n T ∧ n ≤ 12 ∧ SqT K H lq (lot.map V.int) ∧ lot.length ≤ 12 ∧
  ∀ (q : Addr) (ms : List Int) H', (∀ y, y ∈ ms ↔ y ∉ lot ∧ ∃ x ∈ lot, y ∈ nearS T x) → ms.length ≤ 4000 → Same H H' → H' q = some (.lst (ms.map V.int)) → Q (.ref q) H'
theorem outlets_all {T : List (Int × Int)} {lot ms : List Int} {p : Int} (h : ∀ y, y ∈ ms ↔ y ∉ lot ∧ ∃ x ∈ lot, y ∈ nearS T x) : decide ((ms.filter fun y => !decide (y = p)).length = 0) = lot.all (outB T lot p) := by
  rw [Bool.eq_iff_iff, decide_eq_true_eq, List.length_eq_zero_iff, List.filter_eq_nil_iff, List.all_eq_true]
  constructor
  · intro g x hx
    unfold outB
    rw [List.all_eq_true]
    intro y hy
    by_cases hl : y ∈ lot
    · rw [decide_eq_true hl, Bool.true_or]
    · have := g y ((h y).mpr ⟨hl, x, hx, hy⟩)
      by_cases e : y = p
      · rw [decide_eq_true e, Bool.or_true]
      · exact absurd (by rw [decide_eq_false e]; rfl) this
  · intro g y hy hn
    obtain ⟨hl, x, hx, hxy⟩ := (h y).mp hy
    have := g x hx
    unfold outB at this
    rw [List.all_eq_true] at this
    have := this y hxy
    rw [decide_eq_false hl, Bool.false_or] at this
    rw [this] at hn
    cases hn
end My

set_option Elab.async false
set_option linter.all false
set_option maxRecDepth 100000
set_option maxHeartbeats 4000000
namespace My
open PySem PySem.Spec PyProof.Rows L2
/-! ### many values kept, as data -/
def KeepD (K : PySem.W.Frag) (H : Hp) (L : List (V × PyData)) : Prop := ∀ p ∈ L, Dq K H p.1 p.2
section
variable {K : PySem.W.Frag} {H H' : Hp} {L : List (V × PyData)} {v : V} {d : PyData}
theorem KeepD.same (s : Same H H') (h : KeepD K H L) : KeepD K H' L := fun p hp => Dq.same s (h p hp)
theorem KeepD.get {i : Nat} (h : KeepD K H L) (e : L[i]? = some (v, d)) : Dq K H v d := h _ (List.mem_of_getElem? e)
theorem KeepD.nil : KeepD K H [] := fun _ hp => nomatch hp
theorem KeepD.cons (g : Dq K H v d) (h : KeepD K H L) : KeepD K H ((v, d) :: L) := fun p hp => by
  rcases List.mem_cons.mp hp with rfl | hp
  · exact g
  · exact h p hp
theorem Dq.sqI {a : Addr} {ns : List Int} (h : Dq K H (.ref a) (.tuple (ns.map PyData.int))) : SqT K H a (ns.map V.int) := by
  obtain ⟨b, xs, e, hT, hxs⟩ := Dq.un_tup h
  cases e
  have e := hxs.intsOf (intsD_map ns)
  rw [intsOf_map] at e
  rw [← e]
  exact hT
theorem Dq.sqI2 {v : V} {ns : List Int} (h : Dq K H v (.tuple (ns.map PyData.int))) : ∃ a, v = .ref a ∧ SqT K H a (ns.map V.int) := by
  obtain ⟨b, xs, rfl, hT, hxs⟩ := Dq.un_tup h
  exact ⟨b, rfl, Dq.sqI (.tup hT hxs)⟩
end
section
variable {K : PySem.W.Frag} {av : List Addr} {H0 : Hp} {σ : L2.St} {t : TE} {tl : TO} {d : PyData} {ds : List PyData}
theorem cutD_drop {k : Nat} (h : k ≤ ds.length) : cutD ds (some (k : Int)) none = ds.drop k := by
  unfold cutD
  rw [show HT.sIx ds.length 0 (some (k : Int)) = min k ds.length from HT.sIx_nat ds.length 0 k, HT.sIx_none, Nat.min_eq_left h, List.take_of_length_le (by rw [List.length_drop]; omega)]
theorem EvQ.dropI {ns : List Int} {k : Nat} (hk : k ≤ ns.length) (hp : Avs av H0) (he : EvQ K av H0 σ t (.tuple (ns.map PyData.int))) (hl : ∀ (H : Hp) (Q : Option Int → Hp → Prop), Q (some (k : Int)) H → tl σ H Q) :
    EvQ K av H0 σ (tSl (rSlA K) t tl tNoPart) (.tuple ((ns.drop k).map PyData.int)) := by
  have := EvQ.slT (tl := tl) (th := tNoPart) (lo := some (k : Int)) (hi := none) hp he hl (fun _ _ q => q)
  rw [cutD_drop (by rw [List.length_map]; exact hk), ← List.map_drop] at this
  exact this
theorem EvQ.at {i : Nat} {la : Addr} {xs : List V} {j : Int} {x : V} (e : σ[i]? = some (some (.ref la))) (hl : H0 la = some (.lst xs)) (hx : atI xs j = some x) (hd : Dq K (wos av H0) x d) : EvQ K av H0 σ (tOp (rIxL K) (tVar i) (tC (.int j))) d := fun H s Q q =>
  ⟨_, e, la, xs, j, x, rfl, rfl, SqL.of (s _ _ hl), hx, q _ _ (Same.refl H) (Dq.same (My.Same.wos s) hd)⟩
end
/-! ### data of tuples alone stands apart from any list -/
mutual
def noL : PyData → Bool
  | .none => true
  | .bool _ => true
  | .int _ => true
  | .str _ => true
  | .list _ => false
  | .tuple ds => noLAll ds
  | .dict _ => false
def noLAll : List PyData → Bool
  | [] => true
  | d :: ds => noL d && noLAll ds
end
theorem noL_ints : ∀ ns : List Int, noLAll (ns.map PyData.int) = true
  | [] => by simp [noLAll]
  | _ :: ns => by
    have := noL_ints ns
    simp [noLAll, noL, this]
theorem noL_tup {ds : List PyData} : noL (.tuple ds) = noLAll ds := by simp [noL]
theorem noL_tI (ns : List Int) : noL (.tuple (ns.map PyData.int)) = true := by
  rw [noL_tup, noL_ints]
theorem noL_tIs : ∀ L : List (List Int), noLAll (L.map tI) = true
  | [] => by simp [noLAll]
  | r :: L => by
    have h1 := noL_ints r
    have h2 := noL_tIs L
    simp [noLAll, noL, tI, h1, h2]
section
variable {K : PySem.W.Frag} {H : Hp} {p : Addr} {us : List V}
mutual
theorem Dq.woL (hp : H p = some (.lst us)) : ∀ {d : PyData} {v : V}, Dq K H v d → noL d = true → Dq K (wo p H) v d
  | _, _, .non, _ => .non
  | _, _, .bl b, _ => .bl b
  | _, _, .int i, _ => .int i
  | _, _, .str x, _ => .str x
  | _, _, .lst _ _, g => by simp [noL] at g
  | _, _, .tup h a, g => .tup (sqt_wo h hp) (DqAll.woL hp a (by simpa [noL] using g))
  | _, _, .dct _, g => by simp [noL] at g
theorem DqAll.woL (hp : H p = some (.lst us)) : ∀ {ds : List PyData} {vs : List V}, DqAll K H vs ds → noLAll ds = true → DqAll K (wo p H) vs ds
  | _, _, .nil, _ => .nil
  | _, _, .cons h t, g => by
    simp only [noLAll, Bool.and_eq_true] at g
    exact .cons (Dq.woL hp h g.1) (DqAll.woL hp t g.2)
end
theorem Dq.wosL (hp : H p = some (.lst us)) {d : PyData} {v : V} (g : noL d = true) (h : Dq K H v d) : Dq K (wos [p] H) v d := Dq.same wo_wos (Dq.woL hp h g)
end
/-- [.. for x in xs], xs a list at la, each item told by an expression that may take from the pen -/
theorem lc_penL {K : PySem.W.Frag} {p c : Addr} {av : List Addr} {te : TE} {σ : L2.St} {H : Hp} {Q : VK} {i j n0 n st W D : Nat} {la : Addr} {xs : List V} (hi : σ[j]? = some (some (.ref la))) (hl : H la = some (.lst xs)) (hxn : xs.length ≤ n) (hlp : la ≠ p) (hpav : p ∈ av) (hav : Avs av H) (pen : Pen H p c n0) (hn : n ≤ 1000)
    (hs : ∀ (k : Nat) (x : V) (_ : xs[k]? = some x) (av' : List Addr) (H1 : Hp) (n1 : Nat), (∀ b ∈ av, b ∈ av') → Avs av' H1 → Same (wos av H) (wos av' H1) → Pen H1 p c n1 → n1 ≤ n0 + n * st → ∀ R : VK, (∀ x d H', Dq K (wos av' H') x d → Sm W D d → Pen H' p c (n1 + st) → Same (wo p H1) (wo p H') → R x H') → te ((wipe σ [i]).set i (some x)) H1 R)
    (hw : ∀ x : V, wipe ((wipe σ [i]).set i (some x)) [i] = wipe σ [i])
    (q : ∀ a H', SmL K av H' a W D n → Pen H' p c (n0 + n * st) → Same (wo p H) (wo p H') → Q (.ref a) H') : tLc (iList K (tVar j)) (gName i) tYes te [i] σ H Q := by
  refine ⟨_, hi, la, rfl, ⟨xs, SqL.of hl⟩, fun D0 hD => ?_⟩
  have nD := hav.fresh hD
  have npc := Pen.ne pen hD
  have hDw : wo p H D0 = none := wo_none hD
  refine lc_list (xs := xs) (fun k H3 => Pen H3 p c (n0 + k * st) ∧ Same (wo p H) (wo p H3) ∧ ∃ (us : List V) (ds : List PyData), H3 D0 = some (.lst us) ∧ DqAll K (wos (D0 :: av) H3) us ds ∧ (∀ d ∈ ds, Sm W D d) ∧ ds.length = k) ?_ ?_ ?_ ?_
  · refine ⟨(Pen.upd pen npc).mono (by omega), My.Same.wo (My.Same.new hD), [], [], upd_same, .nil, (fun d hd => nomatch hd), rfl⟩
  · rintro k H3 _ ⟨_, s3, _⟩
    have := s3 la _ ((wo_ne hlp).trans hl)
    exact SqL.of (wo_some this).2
  · rintro k x H3 ex ⟨pen3, s3, us, ds, eD, hus, hds, hl⟩
    have hk : k < xs.length := (List.getElem?_eq_some_iff.mp ex).1
    have hav3 : Avs (D0 :: av) H3 := fun b hb => by
      rcases List.mem_cons.mp hb with rfl | hb
      · exact ⟨_, eD⟩
      · exact hav.of s3 (Pen.at pen3) b hb
    have hmul : (k + 1) * st = k * st + st := Nat.succ_mul k st
    have hmul2 : k * st ≤ n * st := Nat.mul_le_mul_right st (by omega)
    refine ⟨hw x, ?_⟩
    show te ((wipe σ [i]).set i (some x)) H3 _
    refine hs k x ex (D0 :: av) H3 (n0 + k * st) (fun b hb => List.mem_cons_of_mem _ hb) hav3 (wos_more hpav hDw s3) pen3 (by omega) _ (fun y d H4 hy hd pen4 s4 => ?_)
    have k3 : Same (wos (D0 :: av) H4) (wos (D0 :: av) (upd H4 D0 (.lst (us ++ [y])))) := fun b o e => by
      obtain ⟨n, e⟩ := wos_some e
      rw [wos_in n, upd_ne (fun z => n (by rw [z]; exact List.mem_cons_self))]
      exact e
    refine ⟨us, (wo_some (s4 _ _ ((wo_ne npc.1).trans eD))).2, ?_, (Pen.upd pen4 npc).mono (by omega), wo_updD (s3.trans s4) hDw, us ++ [y], ds ++ [d], upd_same, ?_, fun e he => ?_, by rw [List.length_append, hl]; rfl⟩
    · rw [hus.len, sizeLine_eq]
      omega
    · exact DqAll.append (DqAll.same ((My.Same.wos_of (List.mem_cons_of_mem _ hpav) s4).trans k3) hus) (.cons (Dq.same k3 hy) .nil)
    · rcases List.mem_append.mp he with he | he
      · exact hds e he
      · rw [List.mem_singleton.mp he]
        exact hd
  · rintro H3 ⟨pen3, s3, us, ds, eD, hus, hds, hl⟩
    have hmul2 : xs.length * st ≤ n * st := Nat.mul_le_mul_right st hxn
    refine q D0 H3 ⟨nD, us, ds, eD, DqAll.same (fun b o e => ?_) hus, hds, by omega⟩ (pen3.mono (by omega)) s3
    obtain ⟨n, e⟩ := wos_some e
    rw [List.mem_cons, not_or] at n
    rw [wos_in n.2]
    exact e
end My

set_option Elab.async false
set_option linter.all false
set_option maxRecDepth 100000
set_option maxHeartbeats 4000000
namespace My
open PySem PySem.Spec PyProof.Rows L2
/-- drawn numbers below any bound of some hundred bits -/
def spTakeW : Sp := fun vs H Q _ => ∃ (p c : Addr) (m : Int) (n : Nat), vs = [.ref p, .int m] ∧ Pen H p c n ∧ n ≤ 1000000 ∧ 1 ≤ m ∧ m.natAbs < 2 ^ 200 ∧
  ∀ r H', 0 ≤ r → r < m → Pen H' p c (n + 1) → Same (wo p H) (wo p H') → Q (.int r) H'
theorem takeW_of {vs : List V} {H : Hp} {Q : VK} {E : XK} (h : spTake vs H Q E) : spTakeW vs H Q E := by
  obtain ⟨p, c, m, n, rfl, pen, hn, m0, m1, q⟩ := h
  exact ⟨p, c, m, n, rfl, pen, hn, m0, Nat.lt_of_le_of_lt (show m.natAbs ≤ 1000000 by omega) (by decide), q⟩
theorem depth_intsA : ∀ ns : List Int, PyData.depthAll (ns.map PyData.int) = 0
  | [] => by simp [PyData.depthAll]
  | n :: ns => by
    have := depth_intsA ns
    simp [PyData.depthAll, PyData.depth, this]
/-- max(t), t a tuple of whole numbers -/
def rMaxT (K : PySem.W.Frag) : List V → Hp → VK → Prop := fun vs H Q => ∃ (a : Addr) (n : Int) (ns : List Int), vs = [V.ref a] ∧ SqT K H a ((n :: ns).map V.int) ∧ Q (.int (ns.foldl max n)) H
theorem cr_maxT {X : Cx} (hc : X.calm = true) (hu : X.A.units + 64 < cLine) : CallR X (.builtin "max") (rMaxT X.K) := by
  intro pins s σ H vs us Q I r h
  obtain ⟨a, n, ns, rfl, hs, q⟩ := h
  obtain ⟨its, rv, hl, _⟩ := I.tuple hs
  rw [Vals.ref1 r]
  obtain ⟨as, ra⟩ := DqAll.reads I (DqAll.ints (n :: ns)) rv
  have hl2 : s.heap.IsTuple a its.toArray := hl
  refine PySem.W.max_tuple_data (x := .int n) (xs := ns.map PyData.int) (as := as) (I.ok.hd hc) hl2 (by simpa using ra) ⟨?_, ?_⟩ ?_ fun i v h' tk bs hv hr hk => ?_
  · intro x hx y hy
    obtain ⟨i, rfl⟩ := intsD_map (n :: ns) x hx
    obtain ⟨j, rfl⟩ := intsD_map (n :: ns) y hy
    simp [PySem.W.alike]
  · intro x hx
    obtain ⟨i, rfl⟩ := intsD_map (n :: ns) x hx
    intro z
    cases z
  · have := depth_intsA (n :: ns)
    rw [List.map_cons] at this
    rw [this]
    omega
  · rw [PySem.W.maxD_ints] at hr
    cases hr
    exact ⟨.int _, H, I.kept hk, ⟨_, rfl⟩, q⟩
theorem maxT {X : Cx} (K : PySem.W.Frag) (hc : X.calm = true) (hu : X.A.units + 64 < cLine) (h : X.K = K := by rfl) : CallR X (.builtin "max") (rMaxT K) := by subst h; exact cr_maxT hc hu
theorem maxLK {X : Cx} (K : PySem.W.Frag) (hc : X.calm = true) (h : X.K = K := by rfl) : CallR X (.builtin "max") (rMax K) := by subst h; exact cr_max hc
theorem minLK {X : Cx} (K : PySem.W.Frag) (hc : X.calm = true) (h : X.K = K := by rfl) : CallR X (.builtin "min") (rMin K) := by subst h; exact cr_min hc
theorem indexLK {X : Cx} (K : PySem.W.Frag) (h : X.K = K := by rfl) : MtR X "list.index" (rIndex K) := by subst h; exact mt_index
theorem pe_bm0K {X : Cx} (K : PySem.W.Frag) {o : Expr} {to : TE} {name : Str} {apos cpos : Pos} {T id : String} {r : V → List V → Hp → VK → Prop} (pa : PlainAttrs T) (slot : Slot T name id) (hty : typeOf (.builtin id) = pure (.type "method_descriptor")) (hm : MtR X id r) (ho : PE X o to) (hK : X.K = K := by rfl)
    (hbase : attributeBase o name X.env (eval o X.env) = eval o X.env := by rfl) (hline : (apos.endLine == cpos.line) = true := by rfl) : PE X (.Call (.Attribute o name apos) [] [] cpos) (tBM0 K T r to) := by
  subst hK
  exact pe_bm0 pa slot hty hm ho hbase hline
theorem foldl_max : ∀ (ns : List Int) (n : Int), (ns.foldl max n = n ∨ ns.foldl max n ∈ ns) ∧ n ≤ ns.foldl max n ∧ ∀ y ∈ ns, y ≤ ns.foldl max n
  | [], n => ⟨.inl rfl, Int.le_refl _, fun y hy => nomatch hy⟩
  | a :: ns, n => by
    obtain ⟨h1, h2, h3⟩ := foldl_max ns (max n a)
    rw [List.foldl_cons]
    refine ⟨?_, by omega, fun y hy => ?_⟩
    · rcases h1 with h1 | h1
      · rw [h1]
        by_cases h : n ≤ a
        · right
          rw [show max n a = a by omega]
          exact List.mem_cons_self
        · left
          omega
      · exact .inr (List.mem_cons_of_mem _ h1)
    · rcases List.mem_cons.mp hy with rfl | hy
      · omega
      · exact h3 y hy
end My

set_option Elab.async false
set_option linter.all false
set_option maxRecDepth 100000
set_option maxHeartbeats 4000000
namespace My
open PySem PySem.Spec PyProof.Rows L2
/-! ### expressions that tell data: numbers, lists, comprehensions -/
theorem wo_nil {H : Hp} : Same H (wos [] H) := fun b o e => by
  rw [wos_in List.not_mem_nil]
  exact e
theorem avs_nil {H : Hp} : Avs [] H := fun b hb => nomatch hb
section
variable {K : PySem.W.Frag} {av : List Addr} {H0 H1 : Hp} {σ : L2.St} {t t1 t2 t3 : TE} {ta tb : TA} {d e : PyData} {ds es : List PyData}
theorem EvQ.mono (s : Same H0 H1) (h : EvQ K av H0 σ t d) : EvQ K av H1 σ t d := fun H s' => h H (s.trans s')
theorem EvL.mono (s : Same H0 H1) (h : EvL K av H0 σ t ds) : EvL K av H1 σ t ds := fun H s' => h H (s.trans s')
theorem DqAll.intsV {H : Hp} {xs : List V} {ns : List Int} (h : DqAll K H xs (ns.map PyData.int)) : xs = ns.map V.int := by
  have e := h.intsOf (intsD_map ns)
  rw [intsOf_map] at e
  exact e
theorem EvQ.op {g : Int → Int → V} {f : Int → Int → PyData} {a b : Int} (hg : ∀ i j H, Dq K H (g i j) (f i j)) (h1 : EvQ K av H0 σ t1 (.int a)) (h2 : EvQ K av H0 σ t2 (.int b)) : EvQ K av H0 σ (tOp (rI0 g) t1 t2) (f a b) := fun H s Q q =>
  h1 H s _ fun x H1 s1 hx => by
    cases hx
    exact h2 H1 (s.trans s1) _ fun y H2 s2 hy => by
      cases hy
      exact ⟨a, b, rfl, rfl, q _ _ (s1.trans s2) (hg _ _ _)⟩
theorem EvQ.add {a b : Int} (h1 : EvQ K av H0 σ t1 (.int a)) (h2 : EvQ K av H0 σ t2 (.int b)) : EvQ K av H0 σ (tOp (rI0 fun i j => V.int (i + j)) t1 t2) (.int (a + b)) := EvQ.op (f := fun i j => .int (i + j)) (fun _ _ _ => .int _) h1 h2
theorem EvQ.sub {a b : Int} (h1 : EvQ K av H0 σ t1 (.int a)) (h2 : EvQ K av H0 σ t2 (.int b)) : EvQ K av H0 σ (tOp (rI0 fun i j => V.int (i - j)) t1 t2) (.int (a - b)) := EvQ.op (f := fun i j => .int (i - j)) (fun _ _ _ => .int _) h1 h2
theorem EvQ.sumL {ns : List Int} (h : EvL K av H0 σ t (ns.map PyData.int)) : EvQ K av H0 σ (tCB (rSum K) (tCons t tNil)) (.int ns.sum) := fun H s Q q =>
  h H s _ fun a xs H1 s1 ea _ hx => by
    rw [hx.intsV] at ea
    exact ⟨a, ns, rfl, SqL.of ea, q _ _ s1 (.int _)⟩
theorem EvQ.sumT {ns : List Int} (h : EvQ K av H0 σ t (.tuple (ns.map PyData.int))) : EvQ K av H0 σ (tCB (rSumT K) (tCons t tNil)) (.int ns.sum) := fun H s Q q =>
  h H s _ fun x H1 s1 hx => by
    obtain ⟨a, rfl, hT⟩ := Dq.sqI2 hx
    exact ⟨a, ns, rfl, My.Same.sqt wos_le hT, q _ _ s1 (.int _)⟩
theorem EvQ.maxT {n : Int} {ns : List Int} (h : EvQ K av H0 σ t (.tuple ((n :: ns).map PyData.int))) : EvQ K av H0 σ (tCB (rMaxT K) (tCons t tNil)) (.int (ns.foldl max n)) := fun H s Q q =>
  h H s _ fun x H1 s1 hx => by
    obtain ⟨a, rfl, hT⟩ := Dq.sqI2 hx
    exact ⟨a, n, ns, rfl, My.Same.sqt wos_le hT, q _ _ s1 (.int _)⟩
theorem EvQ.idxT {ns : List Int} {i : Int} (h1 : EvQ K av H0 σ t1 (.tuple (ns.map PyData.int))) (h2 : EvQ K av H0 σ t2 (.int i)) (i0 : 0 ≤ i) (i1 : i < ns.length) : EvQ K av H0 σ (tOp (rIxT K) t1 t2) (.int (ns.getD i.toNat 0)) := fun H s Q q =>
  h1 H s _ fun x H1 s1 hx => by
    obtain ⟨a, rfl, hT⟩ := Dq.sqI2 hx
    exact h2 H1 (s.trans s1) _ fun y H2 s2 hy => by
      cases hy
      obtain ⟨z, h3, h4⟩ := at_int i0 i1
      have e : ns.getD i.toNat 0 = z := getD_at h3
      rw [← e] at h4
      exact ⟨a, _, i, _, rfl, rfl, My.Same.sqt (wos_le.trans s2) hT, h4, q _ _ (s1.trans s2) (.int _)⟩
theorem EvQ.idxL {ns : List Int} {i : Int} (h1 : EvL K av H0 σ t1 (ns.map PyData.int)) (h2 : EvQ K av H0 σ t2 (.int i)) (i0 : 0 ≤ i) (i1 : i < ns.length) : EvQ K av H0 σ (tOp (rIxL K) t1 t2) (.int (ns.getD i.toNat 0)) := fun H s Q q =>
  h1 H s _ fun a xs H1 s1 ea na hx => by
    rw [hx.intsV] at ea
    exact h2 H1 (s.trans s1) _ fun y H2 s2 hy => by
      cases hy
      obtain ⟨z, h3, h4⟩ := at_int i0 i1
      have e : ns.getD i.toNat 0 = z := getD_at h3
      rw [← e] at h4
      exact ⟨a, _, i, _, rfl, rfl, SqL.of (s2 _ _ ea), h4, q _ _ (s1.trans s2) (.int _)⟩
theorem EvQ.lenL (h : EvL K av H0 σ t ds) : EvQ K av H0 σ (tCB (rLenQ K) (tCons t tNil)) (.int (ds.length : Int)) := fun H s Q q =>
  h H s _ fun a xs H1 s1 ea _ hx => by
    refine ⟨a, xs, rfl, .inl (SqL.of ea), ?_⟩
    rw [hx.len]
    exact q _ _ s1 (.int _)
/-- the least of some numbers -/
def minI : List Int → Int
  | [] => 0
  | n :: ns => ns.foldl min n
theorem foldl_min : ∀ (ns : List Int) (n : Int), (ns.foldl min n = n ∨ ns.foldl min n ∈ ns) ∧ ns.foldl min n ≤ n ∧ ∀ y ∈ ns, ns.foldl min n ≤ y
  | [], n => ⟨.inl rfl, Int.le_refl _, fun y hy => nomatch hy⟩
  | a :: ns, n => by
    obtain ⟨h1, h2, h3⟩ := foldl_min ns (min n a)
    rw [List.foldl_cons]
    refine ⟨?_, by omega, fun y hy => ?_⟩
    · rcases h1 with h1 | h1
      · rw [h1]
        by_cases h : n ≤ a
        · left
          omega
        · right
          rw [show min n a = a by omega]
          exact List.mem_cons_self
      · exact .inr (List.mem_cons_of_mem _ h1)
    · rcases List.mem_cons.mp hy with rfl | hy
      · omega
      · exact h3 y hy
theorem minI_mem {ns : List Int} (h : ns ≠ []) : minI ns ∈ ns := by
  cases ns with
  | nil => exact absurd rfl h
  | cons n ns =>
    rcases (foldl_min ns n).1 with e | e
    · show ns.foldl min n ∈ n :: ns
      rw [e]
      exact List.mem_cons_self
    · exact List.mem_cons_of_mem _ e
theorem minI_le {ns : List Int} {y : Int} (h : y ∈ ns) : minI ns ≤ y := by
  cases ns with
  | nil => cases h
  | cons n ns =>
    rcases List.mem_cons.mp h with rfl | h
    · exact (foldl_min ns y).2.1
    · exact (foldl_min ns n).2.2 y h
theorem EvQ.minL {ns : List Int} (hne : ns ≠ []) (h : EvL K av H0 σ t (ns.map PyData.int)) : EvQ K av H0 σ (tCB (rMin K) (tCons t tNil)) (.int (minI ns)) := fun H s Q q =>
  h H s _ fun a xs H1 s1 ea _ hx => by
    rw [hx.intsV] at ea
    refine ⟨a, ns, rfl, SqL.of ea, List.length_pos_iff.mpr hne, fun m hm hl => ?_⟩
    have e : m = minI ns := Int.le_antisymm (hl _ (minI_mem hne)) (minI_le hm)
    rw [e]
    exact q _ _ s1 (.int _)
theorem EvQ.index {ns : List Int} {x : Int} (hm : x ∈ ns) (h1 : EvL K av H0 σ t1 (ns.map PyData.int)) (h2 : EvQ K av H0 σ t2 (.int x)) : EvQ K av H0 σ (tBM K "list" (rIndex K) t1 (tCons t2 tNil)) (.int (ixOf ns x : Nat)) := fun H s Q q =>
  h1 H s _ fun a xs H1 s1 ea na hx => by
    rw [hx.intsV] at ea
    refine ⟨.inl ⟨rfl, _, SqL.of ea⟩, h2 H1 (s.trans s1) _ fun y H2 s2 hy => ?_⟩
    cases hy
    obtain ⟨h3, h4⟩ := ixOf_at hm
    refine ⟨a, _, _, ixOf ns x, .int x, rfl, rfl, SqL.of (s2 _ _ ea), rfl, flat_ints, by rw [List.getElem?_map, h3]; rfl, ?_, fun m z' hlt e => ?_, q _ _ (s1.trans s2) (.int _)⟩
    · show decide (x = x) = true
      exact decide_eq_true rfl
    · rw [List.getElem?_map] at e
      cases e2 : ns[m]? with
      | none => rw [e2] at e; cases e
      | some w =>
        rw [e2] at e
        cases e
        show decide (w = x) = false
        refine decide_eq_false fun z => h4 m hlt ?_
        rw [e2, z]
theorem take_filter {α : Type} {l : List α} {a : α} {i : Nat} {p : α → Bool} (h : l[i]? = some a) : (l.take (i + 1)).filter p = (l.take i).filter p ++ (if p a = true then [a] else []) := by
  rw [List.take_add_one, h, List.filter_append]
  congr 1
  by_cases hp : p a = true
  · rw [if_pos hp]
    exact List.filter_cons_of_pos hp
  · rw [if_neg hp]
    exact List.filter_cons_of_neg hp
/-- a new list of such data -/
def EvN (K : PySem.W.Frag) (av : List Addr) (H0 : Hp) (σ : L2.St) (t : TE) (ds : List PyData) : Prop :=
  ∀ H, Same H0 H → ∀ Q : VK, (∀ a xs H', H a = none → Same H H' → H' a = some (.lst xs) → a ∉ av → DqAll K (wos av H') xs ds → Q (.ref a) H') → t σ H Q
theorem EvN.l (h : EvN K av H0 σ t ds) : EvL K av H0 σ t ds := fun H s Q q => h H s Q fun a xs H' _ s' ea na hx => q a xs H' s' ea na hx
/-- what one turn of a comprehension asks: the item is d, the test tells b, the new item is e -/
def LcTurn (K : PySem.W.Frag) (av : List Addr) (H0 : Hp) (σ : L2.St) (vs : List Nat) (g : TG) (tt : TT) (te : TE) (d : PyData) (p : Bool) (e : PyData) : Prop :=
  ∀ (x : V) (av' : List Addr) (H1 : Hp), (∀ b ∈ av, b ∈ av') → Avs av' H1 → Same (wos av H0) (wos av' H1) → Dq K (wos av' H1) x d → ∀ (R : VK) (N : Hp → Prop), (∀ y H', Same H1 H' → Dq K (wos av' H') y e → p = true → R y H') → (∀ H', Same H1 H' → p = false → N H') →
    g x (wipe σ vs) H1 fun σ2 H2 => wipe σ2 vs = wipe σ vs ∧ tt σ2 H2 fun b H3 => if b = true then te σ2 H3 R else N H3
variable {α : Type} {f F : α → PyData} {p : α → Bool} {l : List α}
theorem lc_step {g : TG} {tt : TT} {te : TE} {vs : List Nat} {i : Nat} {x : V} {a : α} {D : Addr} {H3 : Hp} {us : List V} (hp1 : Avs av H1) (hD : H1 D = none) (ed : l[i]? = some a) (hx : Dq K (wos av H1) x (f a)) (hl : l.length ≤ 10000)
    (hs : LcTurn K av H1 σ vs g tt te (f a) (p a) (F a)) (s3 : Same H1 H3) (eD : H3 D = some (.lst us)) (hus : DqAll K (wos (D :: av) H3) us (((l.take i).filter p).map F)) :
    g x (wipe σ vs) H3 fun σ2 H2 => wipe σ2 vs = wipe σ vs ∧ tt σ2 H2 fun b H4 => if b = true then te σ2 H4 fun y H5 => ∃ acc, H5 D = some (.lst acc) ∧ acc.length < sizeLine ∧ (Same H1 (upd H5 D (.lst (acc ++ [y]))) ∧ ∃ us, upd H5 D (.lst (acc ++ [y])) D = some (.lst us) ∧ DqAll K (wos (D :: av) (upd H5 D (.lst (acc ++ [y])))) us (((l.take (i + 1)).filter p).map F))
      else (Same H1 H4 ∧ ∃ us, H4 D = some (.lst us) ∧ DqAll K (wos (D :: av) H4) us (((l.take (i + 1)).filter p).map F)) := by
  have hav3 : Avs (D :: av) H3 := fun b hb => by
    rcases List.mem_cons.mp hb with rfl | hb
    · exact ⟨_, eD⟩
    · exact hp1.same s3 b hb
  have hmore : Same (wos av H1) (wos (D :: av) H3) := fun b o e => by
    obtain ⟨n, e⟩ := wos_some e
    have nb : b ≠ D := fun z => by
      rw [z, hD] at e
      cases e
    rw [wos_in (by rw [List.mem_cons, not_or]; exact ⟨nb, n⟩)]
    exact s3 _ _ e
  refine hs x (D :: av) H3 (fun b hb => List.mem_cons_of_mem _ hb) hav3 hmore (Dq.same hmore hx) (fun y H5 => ∃ acc, H5 D = some (.lst acc) ∧ acc.length < sizeLine ∧ (Same H1 (upd H5 D (.lst (acc ++ [y]))) ∧ ∃ us, upd H5 D (.lst (acc ++ [y])) D = some (.lst us) ∧ DqAll K (wos (D :: av) (upd H5 D (.lst (acc ++ [y])))) us (((l.take (i + 1)).filter p).map F)))
    (fun H4 => Same H1 H4 ∧ ∃ us, H4 D = some (.lst us) ∧ DqAll K (wos (D :: av) H4) us (((l.take (i + 1)).filter p).map F)) (fun y H4 s4 hy hp => ?_) (fun H4 s4 hp => ?_)
  · have hul := hus.len
    rw [List.length_map] at hul
    have hfl := List.length_filter_le p (l.take i)
    have hdl : (l.take i).length ≤ l.length := by rw [List.length_take]; omega
    have k3 : Same (wos (D :: av) H4) (wos (D :: av) (upd H4 D (.lst (us ++ [y])))) := wos_put
    refine ⟨us, s4 _ _ eD, by rw [hul, sizeLine_eq]; omega, My.Same.updD (s3.trans s4) hD, us ++ [y], upd_same, ?_⟩
    rw [take_filter ed, if_pos hp, List.map_append]
    exact DqAll.append (DqAll.same ((My.Same.wos s4).trans k3) hus) (.cons (Dq.same k3 hy) .nil)
  · refine ⟨s3.trans s4, us, s4 _ _ eD, ?_⟩
    rw [take_filter ed, if_neg (by rw [hp]; decide), List.append_nil]
    exact DqAll.same (My.Same.wos s4) hus
theorem lc_end {D : Addr} {H3 : Hp} {us : List V} (h : DqAll K (wos (D :: av) H3) us ds) : DqAll K (wos av H3) us ds := DqAll.same wos_less h
theorem map_at {i : Nat} {d : PyData} (h : (l.map f)[i]? = some d) : ∃ a, l[i]? = some a ∧ d = f a := by
  rw [List.getElem?_map] at h
  cases e : l[i]? with
  | none => rw [e] at h; cases h
  | some a => rw [e] at h; exact ⟨a, rfl, (Option.some.inj h).symm⟩
/-- [e for x in xs if ..], xs a list -/
theorem EvN.lcL {g : TG} {tt : TT} {te : TE} {vs : List Nat} (hp : Avs av H0) (h : EvL K av H0 σ t (l.map f)) (hl : l.length ≤ 10000) (hs : ∀ a ∈ l, ∀ H1, Same H0 H1 → LcTurn K av H1 σ vs g tt te (f a) (p a) (F a)) :
    EvN K av H0 σ (tLc (iList K t) g tt te vs) ((l.filter p).map F) := fun H s Q q => by
  refine h H s _ fun a xs H1 s1 ea na hxs => ?_
  refine ⟨a, rfl, ⟨xs, SqL.of ea⟩, fun D hD => ?_⟩
  have hlen := hxs.len
  rw [List.length_map] at hlen
  have hp1 := hp.same (s.trans s1)
  have nD := hp1.fresh hD
  refine lc_list (xs := xs) (fun j H3 => Same H1 H3 ∧ ∃ us, H3 D = some (.lst us) ∧ DqAll K (wos (D :: av) H3) us (((l.take j).filter p).map F)) ⟨My.Same.new hD, [], upd_same, .nil⟩ (fun j H3 _ hP => SqL.of (hP.1 _ _ ea)) ?_ ?_
  · rintro i x H3 ex ⟨s3, us, eD, hus⟩
    obtain ⟨d, ed, hd⟩ := hxs.get ex
    obtain ⟨a, ea, rfl⟩ := map_at ed
    exact lc_step hp1 hD ea hd hl (hs a (List.mem_of_getElem? ea) H1 (s.trans s1)) s3 eD hus
  · rintro H3 ⟨s3, us, eD, hus⟩
    rw [hlen, List.take_length] at hus
    exact q D us H3 (s1.free hD) (s1.trans s3) eD nD (lc_end hus)
/-- .. xs a tuple -/
theorem EvN.lcT {g : TG} {tt : TT} {te : TE} {vs : List Nat} (hp : Avs av H0) (h : EvQ K av H0 σ t (.tuple (l.map f))) (hl : l.length ≤ 10000) (hs : ∀ a ∈ l, ∀ H1, Same H0 H1 → LcTurn K av H1 σ vs g tt te (f a) (p a) (F a)) :
    EvN K av H0 σ (tLc (iTup K t) g tt te vs) ((l.filter p).map F) := fun H s Q q => by
  refine h H s _ fun x H1 s1 hx => ?_
  obtain ⟨a, xs, rfl, hT, hxs⟩ := hx.un_tup
  refine ⟨a, rfl, ⟨xs, My.Same.sqt wos_le hT⟩, fun D hD => ?_⟩
  have hlen := hxs.len
  rw [List.length_map] at hlen
  have hp1 := hp.same (s.trans s1)
  have nD := hp1.fresh hD
  refine lc_tup (xs := xs) (fun j H3 => Same H1 H3 ∧ ∃ us, H3 D = some (.lst us) ∧ DqAll K (wos (D :: av) H3) us (((l.take j).filter p).map F)) ⟨My.Same.new hD, [], upd_same, .nil⟩ (fun j H3 _ hP => My.Same.sqt hP.1 (My.Same.sqt wos_le hT)) ?_ ?_
  · rintro i x H3 ex ⟨s3, us, eD, hus⟩
    obtain ⟨d, ed, hd⟩ := hxs.get ex
    obtain ⟨a, ea, rfl⟩ := map_at ed
    exact lc_step hp1 hD ea hd hl (hs a (List.mem_of_getElem? ea) H1 (s.trans s1)) s3 eD hus
  · rintro H3 ⟨s3, us, eD, hus⟩
    rw [hlen, List.take_length] at hus
    exact q D us H3 (s1.free hD) (s1.trans s3) eD nD (lc_end hus)
end
section
variable {K : PySem.W.Frag} {av : List Addr} {H0 H1 : Hp} {σ : L2.St} {t t1 t2 t3 : TE} {ta tb : TA} {d e : PyData} {ds es : List PyData}
/-- .. xs a range -/
theorem EvN.lcR2 {g : TG} {tt : TT} {te : TE} {vs : List Nat} {F : Nat → PyData} {p : Nat → Bool} {lo hi : Int} (hp : Avs av H0) (h : EvA K av H0 σ ta [.int lo, .int hi]) (hb : -1000 ≤ lo ∧ lo ≤ 1000 ∧ -1000 ≤ hi ∧ hi ≤ 1000) (hs : ∀ j : Nat, j < (hi - lo).toNat → ∀ H1, Same H0 H1 → LcTurn K av H1 σ vs g tt te (.int (lo + (j : Int))) (p j) (F j)) :
    EvN K av H0 σ (tLc (iRng2 ta) g tt te vs) (((List.range (hi - lo).toNat).filter p).map F) := fun H s Q q => by
  refine h H s _ fun xs H1 s1 hx => ?_
  obtain rfl : xs = [.int lo, .int hi] := DqAll.intsV (ns := [lo, hi]) hx
  refine ⟨lo, hi, rfl, ⟨by omega, by omega, by omega, by omega⟩, fun D hD => ?_⟩
  have hp1 := hp.same (s.trans s1)
  have nD := hp1.fresh hD
  refine lc_range (fun j H3 => Same H1 H3 ∧ ∃ us, H3 D = some (.lst us) ∧ DqAll K (wos (D :: av) H3) us ((((List.range (hi - lo).toNat).take j).filter p).map F)) ⟨My.Same.new hD, [], upd_same, .nil⟩ ?_ ?_
  · rintro i H3 hi' ⟨s3, us, eD, hus⟩
    have ed := List.getElem?_range hi'
    exact lc_step (f := fun j : Nat => .int (lo + (j : Int))) hp1 hD ed (.int _) (by rw [List.length_range]; omega) (hs _ hi' H1 (s.trans s1)) s3 eD hus
  · rintro H3 ⟨s3, us, eD, hus⟩
    rw [List.take_of_length_le (by rw [List.length_range]; exact Nat.le_refl _)] at hus
    exact q D us H3 (s1.free hD) (s1.trans s3) eD nD (lc_end hus)
theorem EvN.lcR1 {g : TG} {tt : TT} {te : TE} {vs : List Nat} {F : Nat → PyData} {p : Nat → Bool} {n : Nat} (hp : Avs av H0) (h : EvQ K av H0 σ t (.int (n : Int))) (hb : n ≤ 1000) (hs : ∀ j : Nat, j < n → ∀ H1, Same H0 H1 → LcTurn K av H1 σ vs g tt te (.int (j : Int)) (p j) (F j)) :
    EvN K av H0 σ (tLc (iRng1 (tCons t tNil)) g tt te vs) (((List.range n).filter p).map F) := fun H s Q q => by
  refine h H s _ fun x H1 s1 hx => ?_
  cases hx
  refine ⟨(n : Int), rfl, by omega, by omega, fun D hD => ?_⟩
  rw [Int.toNat_natCast]
  have hp1 := hp.same (s.trans s1)
  have nD := hp1.fresh hD
  refine lc_range (fun j H3 => Same H1 H3 ∧ ∃ us, H3 D = some (.lst us) ∧ DqAll K (wos (D :: av) H3) us ((((List.range n).take j).filter p).map F)) ⟨My.Same.new hD, [], upd_same, .nil⟩ ?_ ?_
  · rintro i H3 hi' ⟨s3, us, eD, hus⟩
    have ed := List.getElem?_range hi'
    rw [Int.zero_add]
    exact lc_step (f := fun j : Nat => .int (j : Int)) hp1 hD ed (.int _) (by rw [List.length_range]; omega) (hs _ hi' H1 (s.trans s1)) s3 eD hus
  · rintro H3 ⟨s3, us, eD, hus⟩
    rw [List.take_of_length_le (by rw [List.length_range]; exact Nat.le_refl _)] at hus
    exact q D us H3 (s1.free hD) (s1.trans s3) eD nD (lc_end hus)
/-- a turn without a test -/
theorem LcTurn.plain {te : TE} {vs : List Nat} {i : Nat} (hw : ∀ x : V, wipe ((wipe σ vs).set i (some x)) vs = wipe σ vs) (hs : ∀ (x : V) (av' : List Addr) (H1 : Hp), (∀ b ∈ av, b ∈ av') → Avs av' H1 → Same (wos av H0) (wos av' H1) → Dq K (wos av' H1) x d → EvQ K av' H1 ((wipe σ vs).set i (some x)) te e) :
    LcTurn K av H0 σ vs (gName i) tYes te d true e := fun x av' H1 hin hav sw hx R N r _ =>
  ⟨hw x, hs x av' H1 hin hav sw hx H1 (Same.refl _) R fun y H' s hy => r y H' s hy rfl⟩
/-- a turn with a test by an expression -/
theorem LcTurn.test {te tt : TE} {vs : List Nat} {i : Nat} {b : Bool} (hw : ∀ x : V, wipe ((wipe σ vs).set i (some x)) vs = wipe σ vs) (hs : ∀ (x : V) (av' : List Addr) (H1 : Hp), (∀ b ∈ av, b ∈ av') → Avs av' H1 → Same (wos av H0) (wos av' H1) → Dq K (wos av' H1) x d → EvQ K av' H1 ((wipe σ vs).set i (some x)) tt (.bool b) ∧ (b = true → EvQ K av' H1 ((wipe σ vs).set i (some x)) te e)) :
    LcTurn K av H0 σ vs (gName i) (tTest tt) te d b e := fun x av' H1 hin hav sw hx R N r nn => by
  obtain ⟨h1, h2⟩ := hs x av' H1 hin hav sw hx
  refine ⟨hw x, h1 H1 (Same.refl _) _ fun y H' s hy => ?_⟩
  cases hy
  refine ⟨b, rfl, ?_⟩
  cases b with
  | true => exact iteT (h2 rfl H' s R fun y H'' s' hy => r y H'' (s.trans s') hy rfl)
  | false => exact iteF (nn H' s rfl)
theorem filter_true {α : Type} (l : List α) : l.filter (fun _ => true) = l := List.filter_eq_self.mpr fun _ _ => rfl
end
/-! ### the same, told twice -/
section
variable {K : PySem.W.Frag} {H : Hp}
mutual
theorem Dq.dp : ∀ {d : PyData} {v : V} {n : Nat}, Dq K H v d → Fit n d → Dp K H v d
  | _, _, _, .non, _ => .non
  | _, _, _, .bl b, _ => .bl b
  | _, _, _, .int i, _ => .int i
  | _, _, _, .str x, _ => .str x
  | _, _, n + 1, .lst h a, f => .lst h (DqAll.dp a f.2)
  | _, _, n + 1, .tup h a, f => .tup h (DqAll.dp a f.2)
  | _, _, n + 1, .dct _, f => f.elim
theorem DqAll.dp : ∀ {ds : List PyData} {vs : List V} {n : Nat}, DqAll K H vs ds → (∀ e ∈ ds, Fit n e) → DpAll K H vs ds
  | _, _, _, .nil, _ => .nil
  | _, _, _, .cons h t, f => .cons (Dq.dp h (f _ List.mem_cons_self)) (DqAll.dp t fun e he => f e (List.mem_cons_of_mem _ he))
end
end
theorem EvQ.same {K : PySem.W.Frag} {av : List Addr} {H0 : Hp} {σ : L2.St} {t1 t2 : TE} {d : PyData} {n : Nat} (h1 : EvQ K av H0 σ t1 d) (h2 : EvQ K av H0 σ t2 d) (f : Fit n d) : EvQ K av H0 σ (tCall (spSame K n) [] E0 (tCons t1 (tCons t2 tNil))) (.bool true) := fun H s Q q =>
  h1 H s _ fun x H1 s1 hx => h2 H1 (s.trans s1) _ fun y H2 s2 hy =>
    ⟨x, y, d, rfl, Dq.dp (Dq.same (wos_le.trans s2) hx) f, Dq.dp (Dq.same wos_le hy) f, f, fun H' s' => q _ _ (s1.trans (s2.trans s')) (.bl true)⟩
/-- if not (what is true): .. -/
theorem if_not {K : PySem.W.Frag} {av : List Addr} {σ : L2.St} {t : TE} {T U : TS} {D : Ends} {H : Hp} (h : EvQ K av H σ t (.bool true)) (r : ∀ H', Same H H' → U D σ H') : tIfS (tNot (tB t)) T U D σ H :=
  h H (Same.refl _) _ fun x H' s hx => by
    cases hx
    exact ⟨_, rfl, iteF (r H' s)⟩
end My
namespace My
open PySem PySem.Spec PyProof.Rows L2
/-! ### tests of a while: what they tell may be asked less -/
def MonoE (t : TE) : Prop := ∀ (σ : L2.St) (H : Hp) (Q Q' : VK), (∀ x H1, Q x H1 → Q' x H1) → t σ H Q → t σ H Q'
def MonoT (t : TT) : Prop := ∀ (σ : L2.St) (H : Hp) (Q Q' : Bool → Hp → Prop), (∀ x H1, Q x H1 → Q' x H1) → t σ H Q → t σ H Q'
theorem MonoE.var (i : Nat) : MonoE (tVar i) := fun _ _ _ _ h ⟨v, e, q⟩ => ⟨v, e, h _ _ q⟩
theorem MonoE.c (v : V) : MonoE (tC v) := fun _ _ _ _ h q => h _ _ q
theorem MonoE.op {t u : TE} {r : R2} (hr : ∀ x y H (Q Q' : VK), (∀ x H1, Q x H1 → Q' x H1) → r x y H Q → r x y H Q') (h1 : MonoE t) (h2 : MonoE u) : MonoE (tOp r t u) := fun _ _ _ _ h q =>
  h1 _ _ _ _ (fun _ _ q => h2 _ _ _ _ (fun _ _ q => hr _ _ _ _ _ h q) q) q
theorem MonoE.opI0 {t u : TE} {g : Int → Int → V} (h1 : MonoE t) (h2 : MonoE u) : MonoE (tOp (rI0 g) t u) := .op (fun _ _ _ _ _ h ⟨i, j, e1, e2, q⟩ => ⟨i, j, e1, e2, h _ _ q⟩) h1 h2
theorem MonoE.idxT {K : PySem.W.Frag} {t u : TE} (h1 : MonoE t) (h2 : MonoE u) : MonoE (tOp (rIxT K) t u) := .op (fun _ _ _ _ _ h ⟨a, b, c, d, e1, e2, e3, e4, q⟩ => ⟨a, b, c, d, e1, e2, e3, e4, h _ _ q⟩) h1 h2
theorem MonoE.idxL {K : PySem.W.Frag} {t u : TE} (h1 : MonoE t) (h2 : MonoE u) : MonoE (tOp (rIxL K) t u) := .op (fun _ _ _ _ _ h ⟨a, b, c, d, e1, e2, e3, e4, q⟩ => ⟨a, b, c, d, e1, e2, e3, e4, h _ _ q⟩) h1 h2
theorem MonoE.len {K : PySem.W.Frag} {t : TE} (h1 : MonoE t) : MonoE (tCB (rLenQ K) (tCons t tNil)) := fun _ _ _ _ h q => h1 _ _ _ _ (fun _ _ ⟨a, b, e1, e2, q⟩ => ⟨a, b, e1, e2, h _ _ q⟩) q
theorem MonoT.test {t : TE} (h1 : MonoE t) : MonoT (tTest t) := fun _ _ _ _ h q => h1 _ _ _ _ (fun _ _ ⟨k, e, q⟩ => ⟨k, e, h _ _ q⟩) q
theorem MonoT.and {t u : TT} (h1 : MonoT t) (h2 : MonoT u) : MonoT (tAnd t u) := fun _ _ _ _ h q => h1 _ _ _ _ (fun c _ q => by
  cases c with
  | true => exact iteT (h2 _ _ _ _ h (show if (true : Bool) = true then _ else _ from q))
  | false => exact iteF (h _ _ q)) q
/-- a test told by an expression -/
theorem testQ {K : PySem.W.Frag} {av : List Addr} {σ : L2.St} {t : TE} {b : Bool} {H : Hp} {Q : Bool → Hp → Prop} (h : EvQ K av H σ t (.bool b)) (r : ∀ H', Same H H' → Q b H') : tTest t σ H Q :=
  h H (Same.refl _) _ fun x H' s hx => by
    cases hx
    exact ⟨b, rfl, r H' s⟩
theorem EvQ.cmp {K : PySem.W.Frag} {av : List Addr} {H0 : Hp} {σ : L2.St} {t1 t2 : TE} {a b : Int} {f : Int → Int → Bool} (h1 : EvQ K av H0 σ t1 (.int a)) (h2 : EvQ K av H0 σ t2 (.int b)) : EvQ K av H0 σ (tOp (rI0 fun i j => V.bl (f i j)) t1 t2) (.bool (f a b)) :=
  EvQ.op (f := fun i j => .bool (f i j)) (fun _ _ _ => .bl _) h1 h2
/-- a < b <= c and its like -/
theorem EvQ.chain {K : PySem.W.Frag} {av : List Addr} {H0 : Hp} {σ : L2.St} {t1 t2 t3 : TE} {a b c : Int} {f g : Int → Int → Bool} (h1 : EvQ K av H0 σ t1 (.int a)) (h2 : EvQ K av H0 σ t2 (.int b)) (h3 : EvQ K av H0 σ t3 (.int c)) :
    EvQ K av H0 σ (tChain (rI0 fun i j => V.bl (f i j)) (rI0 fun i j => V.bl (g i j)) t1 t2 t3) (.bool (f a b && g b c)) := fun H s Q q =>
  h1 H s _ fun x H1 s1 hx => by
    cases hx
    exact h2 H1 (s.trans s1) _ fun y H2 s2 hy => by
      cases hy
      refine ⟨a, b, rfl, rfl, f a b, rfl, ?_⟩
      cases e : f a b with
      | false => exact iteF (q _ _ (s1.trans s2) (by rw [e]; exact .bl false))
      | true =>
        refine iteT (h3 H2 (s.trans (s1.trans s2)) _ fun z H3 s3 hz => ?_)
        cases hz
        exact ⟨b, c, rfl, rfl, q _ _ (s1.trans (s2.trans s3)) (by rw [e]; exact .bl _)⟩
/-- what is left of n, by the number in slot k -/
def fromN (n k : Nat) (σ : L2.St) : Nat := match σ[k]? with
  | some (some (V.int i)) => n - i.toNat
  | _ => 0
end My

set_option Elab.async false
set_option linter.all false
set_option maxRecDepth 100000
set_option maxHeartbeats 4000000
namespace My
open PySem PySem.Spec PyProof.Rows L2
/-! ### weights along an order -/
def wtL (ws : List Int) (x : Int) : Int := ws.getD x.toNat 0
def sumW (ws lot : List Int) : Int := (lot.map (wtL ws)).sum
def cutW (ws os : List Int) (j : Nat) : Int × Int := (sumW ws (os.take (j + 1)), sumW ws (os.drop (j + 1)))
def cutsW (ws os : List Int) : List (Int × Int) := (List.range (os.length - 1)).map (cutW ws os)
def maxP (t : Int × Int) : Int := [t.2].foldl max t.1
def evenS (ws os : List Int) : Int := (ixOf ((cutsW ws os).map maxP) (minI ((cutsW ws os).map maxP)) : Nat) + 1
/-- how many first ones fit below t -/
def fitN (ws : List Int) : List Int → Int → Nat
  | [], _ => 0
  | x :: r, t => if wtL ws x ≤ t then fitN ws r (t - wtL ws x) + 1 else 0
def prD (t : Int × Int) : PyData := .tuple [.int t.1, .int t.2]
def spWeight (K : PySem.W.Frag) : Sp := fun vs H Q _ => ∃ (x y : V) (ws lot : List Int), vs = [x, y] ∧ Dq K H x (.tuple (ws.map PyData.int)) ∧ Dq K H y (.tuple (lot.map PyData.int)) ∧ lot.length ≤ 1000 ∧ (∀ z ∈ lot, 0 ≤ z ∧ z < ws.length) ∧ ∀ H', Same H H' → Q (.int (sumW ws lot)) H'
def spCuts (K : PySem.W.Frag) : Sp := fun vs H Q _ => ∃ (x y : V) (ws os : List Int), vs = [x, y] ∧ Dq K H x (.tuple (ws.map PyData.int)) ∧ Dq K H y (.tuple (os.map PyData.int)) ∧ 1 ≤ os.length ∧ os.length ≤ 1000 ∧ (∀ z ∈ os, 0 ≤ z ∧ z < ws.length) ∧
  ∀ (a : Addr) (us : List V) H', H a = none → Same H H' → H' a = some (.lst us) → DqAll K H' us ((cutsW ws os).map prD) → Q (.ref a) H'
def spEven (K : PySem.W.Frag) : Sp := fun vs H Q _ => ∃ (x y : V) (ws os : List Int), vs = [x, y] ∧ Dq K H x (.tuple (ws.map PyData.int)) ∧ Dq K H y (.tuple (os.map PyData.int)) ∧ 2 ≤ os.length ∧ os.length ≤ 1000 ∧ (∀ z ∈ os, 0 ≤ z ∧ z < ws.length) ∧ ∀ H', Same H H' → Q (.int (evenS ws os)) H'
def spFit (K : PySem.W.Frag) : Sp := fun vs H Q _ => ∃ (x y : V) (ws os : List Int) (t : Int), vs = [x, y, .int t] ∧ Dq K H x (.tuple (ws.map PyData.int)) ∧ Dq K H y (.tuple (os.map PyData.int)) ∧ os.length ≤ 1000 ∧ (∀ z ∈ os, 0 ≤ z ∧ z < ws.length) ∧ ∀ H', Same H H' → Q (.int (fitN ws os t : Nat)) H'
section
variable {K : PySem.W.Frag} {av : List Addr} {H0 : Hp} {σ : L2.St} {t1 t2 t3 : TE} {ws os : List Int} {t : Int}
theorem EvQ.weight (h1 : EvQ K av H0 σ t1 (.tuple (ws.map PyData.int))) (h2 : EvQ K av H0 σ t2 (.tuple (os.map PyData.int))) (hl : os.length ≤ 1000) (hb : ∀ z ∈ os, 0 ≤ z ∧ z < ws.length) : EvQ K av H0 σ (tCall (spWeight K) [] E0 (tCons t1 (tCons t2 tNil))) (.int (sumW ws os)) := fun H s Q q =>
  h1 H s _ fun x H1 s1 hx => h2 H1 (s.trans s1) _ fun y H2 s2 hy => ⟨x, y, ws, os, rfl, Dq.same (wos_le.trans s2) hx, Dq.same wos_le hy, hl, hb, fun H' s' => q _ _ (s1.trans (s2.trans s')) (.int _)⟩
theorem EvQ.even (h1 : EvQ K av H0 σ t1 (.tuple (ws.map PyData.int))) (h2 : EvQ K av H0 σ t2 (.tuple (os.map PyData.int))) (hl2 : 2 ≤ os.length) (hl : os.length ≤ 1000) (hb : ∀ z ∈ os, 0 ≤ z ∧ z < ws.length) : EvQ K av H0 σ (tCall (spEven K) [] E0 (tCons t1 (tCons t2 tNil))) (.int (evenS ws os)) := fun H s Q q =>
  h1 H s _ fun x H1 s1 hx => h2 H1 (s.trans s1) _ fun y H2 s2 hy => ⟨x, y, ws, os, rfl, Dq.same (wos_le.trans s2) hx, Dq.same wos_le hy, hl2, hl, hb, fun H' s' => q _ _ (s1.trans (s2.trans s')) (.int _)⟩
theorem EvQ.fit (h1 : EvQ K av H0 σ t1 (.tuple (ws.map PyData.int))) (h2 : EvQ K av H0 σ t2 (.tuple (os.map PyData.int))) (h3 : EvQ K av H0 σ t3 (.int t)) (hl : os.length ≤ 1000) (hb : ∀ z ∈ os, 0 ≤ z ∧ z < ws.length) : EvQ K av H0 σ (tCall (spFit K) [] E0 (tCons t1 (tCons t2 (tCons t3 tNil)))) (.int (fitN ws os t : Nat)) := fun H s Q q =>
  h1 H s _ fun x H1 s1 hx => h2 H1 (s.trans s1) _ fun y H2 s2 hy => h3 H2 (s.trans (s1.trans s2)) _ fun z H3 s3 hz => by
    cases hz
    exact ⟨x, y, ws, os, t, rfl, Dq.same (wos_le.trans (s2.trans s3)) hx, Dq.same (wos_le.trans s3) hy, hl, hb, fun H' s' => q _ _ (s1.trans (s2.trans (s3.trans s'))) (.int _)⟩
theorem noL_prs (T : List (Int × Int)) : noLAll (T.map prD) = true := by
  induction T with
  | nil => simp [noLAll]
  | cons t T ih => simp [noLAll, noL, prD, ih]
/-- a call that tells the cuts, apart from one list -/
theorem EvN.cuts {p : Addr} (hlst : ∃ us, H0 p = some (.lst us)) (h1 : EvQ K [p] H0 σ t1 (.tuple (ws.map PyData.int))) (h2 : EvQ K [p] H0 σ t2 (.tuple (os.map PyData.int))) (hl1 : 1 ≤ os.length) (hl : os.length ≤ 1000) (hb : ∀ z ∈ os, 0 ≤ z ∧ z < ws.length) :
    EvN K [p] H0 σ (tCall (spCuts K) [] E0 (tCons t1 (tCons t2 tNil))) ((cutsW ws os).map prD) := fun H s Q q =>
  h1 H s _ fun x H1 s1 hx => h2 H1 (s.trans s1) _ fun y H2 s2 hy => by
    refine ⟨x, y, ws, os, rfl, Dq.same (wos_le.trans s2) hx, Dq.same wos_le hy, hl1, hl, hb, fun a us H' na s' ea hus => ?_⟩
    obtain ⟨vs, hvs⟩ := hlst
    have hp := (s.trans (s1.trans s2)) _ _ hvs
    refine q a us H' ((s1.trans s2).free na) (s1.trans (s2.trans s')) ea (fun m => ?_) ?_
    · rw [List.mem_singleton.mp m, hp] at na
      cases na
    · exact DqAll.same wo_wos (DqAll.woL (s' _ _ hp) hus (noL_prs _))
theorem EvN.cuts0 (h1 : EvQ K [] H0 σ t1 (.tuple (ws.map PyData.int))) (h2 : EvQ K [] H0 σ t2 (.tuple (os.map PyData.int))) (hl1 : 1 ≤ os.length) (hl : os.length ≤ 1000) (hb : ∀ z ∈ os, 0 ≤ z ∧ z < ws.length) :
    EvN K [] H0 σ (tCall (spCuts K) [] E0 (tCons t1 (tCons t2 tNil))) ((cutsW ws os).map prD) := fun H s Q q =>
  h1 H s _ fun x H1 s1 hx => h2 H1 (s.trans s1) _ fun y H2 s2 hy =>
    ⟨x, y, ws, os, rfl, Dq.same (wos_le.trans s2) hx, Dq.same wos_le hy, hl1, hl, hb, fun a us H' na s' ea hus => q a us H' ((s1.trans s2).free na) (s1.trans (s2.trans s')) ea List.not_mem_nil (DqAll.same wo_nil hus)⟩
end
/-! the sums along an order of positive weights -/
theorem sumW_cons {ws : List Int} {x : Int} {r : List Int} : sumW ws (x :: r) = wtL ws x + sumW ws r := by
  unfold sumW
  rw [List.map_cons, List.sum_cons]
theorem sumW_append {ws l r : List Int} : sumW ws (l ++ r) = sumW ws l + sumW ws r := by
  unfold sumW
  rw [List.map_append, List.sum_append]
theorem sumW_take {ws os : List Int} {j : Nat} : sumW ws (os.take j) + sumW ws (os.drop j) = sumW ws os := by
  rw [← sumW_append, List.take_append_drop]
theorem sumW_pos {ws : List Int} : ∀ {l : List Int}, (∀ x ∈ l, 1 ≤ wtL ws x) → 0 ≤ sumW ws l
  | [], _ => by simp [sumW]
  | x :: r, h => by
    have h1 := h x List.mem_cons_self
    have h2 := sumW_pos (l := r) fun y hy => h y (List.mem_cons_of_mem _ hy)
    rw [sumW_cons]
    omega
/-- a sum of first ones lies at most at t just for those that fit -/
theorem fit_iff {ws : List Int} : ∀ {os : List Int} {t : Int}, (∀ x ∈ os, 1 ≤ wtL ws x) → 0 ≤ t → ∀ j, j ≤ os.length → (sumW ws (os.take j) ≤ t ↔ j ≤ fitN ws os t)
  | [], t, _, h0, j, hj => by
    have : j = 0 := by simpa using hj
    subst this
    simp [sumW, fitN]
    exact h0
  | x :: r, t, hp, h0, 0, hj => by
    simp [sumW]
    exact h0
  | x :: r, t, hp, h0, j + 1, hj => by
    have h1 := hp x List.mem_cons_self
    have hr : ∀ y ∈ r, 1 ≤ wtL ws y := fun y hy => hp y (List.mem_cons_of_mem _ hy)
    rw [List.take_succ_cons, sumW_cons]
    have h3 := sumW_pos (ws := ws) (l := r.take j) fun y hy => hr y (List.mem_of_mem_take hy)
    unfold fitN
    by_cases h : wtL ws x ≤ t
    · rw [if_pos h]
      have := fit_iff (os := r) (t := t - wtL ws x) hr (by omega) j (by simpa using hj)
      omega
    · rw [if_neg h]
      omega
theorem fitN_cons {ws : List Int} {x : Int} {r : List Int} {t : Int} : fitN ws (x :: r) t = if wtL ws x ≤ t then fitN ws r (t - wtL ws x) + 1 else 0 := rfl
theorem fitN_nil {ws : List Int} {t : Int} : fitN ws [] t = 0 := rfl
theorem fitN_le {ws : List Int} : ∀ {os : List Int} {t : Int}, fitN ws os t ≤ os.length
  | [], _ => Nat.le_refl _
  | x :: r, t => by
    unfold fitN
    split
    · have := fitN_le (ws := ws) (os := r) (t := t - wtL ws x)
      rw [List.length_cons]
      omega
    · omega
/-- how many of the first sums lie at most at t -/
theorem count_fit {n m : Nat} (h : m ≤ n) : ((List.range n).filter fun j => decide (j + 1 ≤ m)).length = m := by
  induction n generalizing m with
  | zero => simp; omega
  | succ n ih =>
    rw [List.range_succ, List.filter_append, List.length_append]
    by_cases e : m = n + 1
    · subst e
      have h1 : (List.range n).filter (fun j => decide (j + 1 ≤ n + 1)) = List.range n := List.filter_eq_self.mpr fun j hj => by
        have := List.mem_range.mp hj
        exact decide_eq_true (by omega)
      rw [h1, List.length_range, List.filter_cons_of_pos (by exact decide_eq_true (Nat.le_refl _))]
      rfl
    · have h2 := ih (m := m) (by omega)
      rw [h2, List.filter_cons_of_neg (by rw [decide_eq_true_eq]; omega)]
      rfl
end My

set_option Elab.async false
set_option linter.all false
set_option maxRecDepth 100000
set_option maxHeartbeats 4000000
namespace My
open PySem PySem.Spec PyProof.Rows L2
/-! ### a list of such data at an address -/
def LAt (K : PySem.W.Frag) (av : List Addr) (H : Hp) (a : Addr) (ds : List PyData) : Prop := a ∉ av ∧ ∃ xs, H a = some (.lst xs) ∧ DqAll K (wos av H) xs ds
section
variable {K : PySem.W.Frag} {av : List Addr} {H0 H H' : Hp} {σ : L2.St} {a p c : Addr} {ds : List PyData}
theorem LAt.same (hp : p ∈ av) (s : Same (wo p H) (wo p H')) (h : LAt K av H a ds) : LAt K av H' a ds := by
  obtain ⟨n, xs, e, hx⟩ := h
  exact ⟨n, xs, (wo_some (s _ _ ((wo_ne fun z => n (by rw [z]; exact hp)).trans e))).2, DqAll.same (My.Same.wos_of hp s) hx⟩
theorem LAt.same0 (s : Same H H') (h : LAt K av H a ds) : LAt K av H' a ds := by
  obtain ⟨n, xs, e, hx⟩ := h
  exact ⟨n, xs, s _ _ e, DqAll.same (My.Same.wos s) hx⟩
theorem LAt.ev {i : Nat} (e : σ[i]? = some (some (.ref a))) (h : LAt K av H a ds) : EvL K av H σ (tVar i) ds := by
  obtain ⟨n, xs, ea, hx⟩ := h
  exact EvL.var e ea n hx
theorem EvL.to (h : EvL K av H σ t ds) {Q : VK} (q : ∀ a H', Same H H' → LAt K av H' a ds → Q (.ref a) H') : t σ H Q := h H (Same.refl _) Q fun a xs H' s ea na hx => q a H' s ⟨na, xs, ea, hx⟩
/-- [.. for _ in range(n)], each item told by an expression that may take from the pen, with what holds of each -/
theorem lc_penP {te : TE} {ta : TA} {Q : VK} {i n0 n st : Nat} {Pr : PyData → Prop} (hta : ∀ (H : Hp) (Q : List V → Hp → Prop), Q [.int (n : Int)] H → ta σ H Q) (hpav : p ∈ av) (hav : Avs av H) (pen : Pen H p c n0) (hn : n ≤ 1000)
    (hs : ∀ (k : Nat) (_ : k < n) (av' : List Addr) (H1 : Hp) (n1 : Nat), (∀ b ∈ av, b ∈ av') → Avs av' H1 → Same (wos av H) (wos av' H1) → Pen H1 p c n1 → n1 ≤ n0 + n * st → ∀ R : VK, (∀ x d H', Dq K (wos av' H') x d → Pr d → Pen H' p c (n1 + st) → Same (wo p H1) (wo p H') → R x H') → te ((wipe σ [i]).set i (some (.int k))) H1 R)
    (hw : ∀ k : Nat, wipe ((wipe σ [i]).set i (some (.int k))) [i] = wipe σ [i])
    (q : ∀ a ds H', LAt K av H' a ds → (∀ d ∈ ds, Pr d) → ds.length = n → Pen H' p c (n0 + n * st) → Same (wo p H) (wo p H') → Q (.ref a) H') : tLc (iRng1 ta) (gName i) tYes te [i] σ H Q := by
  refine hta H _ ⟨n, rfl, by omega, by omega, fun D0 hD => ?_⟩
  rw [Int.toNat_natCast]
  have nD := hav.fresh hD
  have npc := Pen.ne pen hD
  have hDw : wo p H D0 = none := wo_none hD
  refine lc_range (fun k H3 => Pen H3 p c (n0 + k * st) ∧ Same (wo p H) (wo p H3) ∧ ∃ (us : List V) (ds : List PyData), H3 D0 = some (.lst us) ∧ DqAll K (wos (D0 :: av) H3) us ds ∧ (∀ d ∈ ds, Pr d) ∧ ds.length = k) ?_ ?_ ?_
  · refine ⟨(Pen.upd pen npc).mono (by omega), My.Same.wo (My.Same.new hD), [], [], upd_same, .nil, (fun d hd => nomatch hd), rfl⟩
  · rintro k H3 hk ⟨pen3, s3, us, ds, eD, hus, hds, hl⟩
    have hav3 : Avs (D0 :: av) H3 := fun b hb => by
      rcases List.mem_cons.mp hb with rfl | hb
      · exact ⟨_, eD⟩
      · exact hav.of s3 (Pen.at pen3) b hb
    have hmul : (k + 1) * st = k * st + st := Nat.succ_mul k st
    have hmul2 : k * st ≤ n * st := Nat.mul_le_mul_right st (by omega)
    rw [Int.zero_add]
    refine ⟨hw k, ?_⟩
    show te ((wipe σ [i]).set i (some (.int k))) H3 _
    refine hs k (by omega) (D0 :: av) H3 (n0 + k * st) (fun b hb => List.mem_cons_of_mem _ hb) hav3 (wos_more hpav hDw s3) pen3 (by omega) _ (fun y d H4 hy hd pen4 s4 => ?_)
    have k3 : Same (wos (D0 :: av) H4) (wos (D0 :: av) (upd H4 D0 (.lst (us ++ [y])))) := wos_put
    refine ⟨us, (wo_some (s4 _ _ ((wo_ne npc.1).trans eD))).2, ?_, (Pen.upd pen4 npc).mono (by omega), wo_updD (s3.trans s4) hDw, us ++ [y], ds ++ [d], upd_same, ?_, fun e he => ?_, by rw [List.length_append, hl]; rfl⟩
    · rw [hus.len, sizeLine_eq]
      omega
    · exact DqAll.append (DqAll.same ((My.Same.wos_of (List.mem_cons_of_mem _ hpav) s4).trans k3) hus) (.cons (Dq.same k3 hy) .nil)
    · rcases List.mem_append.mp he with he | he
      · exact hds e he
      · rw [List.mem_singleton.mp he]
        exact hd
  · rintro H3 ⟨pen3, s3, us, ds, eD, hus, hds, hl⟩
    exact q D0 ds H3 ⟨nD, us, eD, lc_end hus⟩ hds hl pen3 s3
end
theorem smInts50 : ∀ ns : List Int, (∀ x ∈ ns, x.natAbs < 10 ^ 50) → SmAll ns.length 0 (ns.map PyData.int)
  | [], _ => SmAll.nil
  | n :: ns, h => by
    have := SmAll.cons (Sm.int (h n List.mem_cons_self)) (smInts50 ns fun x hx => h x (List.mem_cons_of_mem _ hx))
    exact this.mono (by rw [List.length_cons]; omega) (Nat.le_refl 0)
/-! ### sums over all places -/
theorem sumW_perm {ws l r : List Int} (h : l.Perm r) : sumW ws l = sumW ws r := by
  unfold sumW
  have := h.map (wtL ws)
  generalize l.map (wtL ws) = A at this ⊢
  generalize r.map (wtL ws) = B at this ⊢
  induction this with
  | nil => rfl
  | cons x _ ih => rw [List.sum_cons, List.sum_cons, ih]
  | swap x y l => rw [List.sum_cons, List.sum_cons, List.sum_cons, List.sum_cons]; omega
  | trans _ _ h1 h2 => exact h1.trans h2
theorem sumW_ups (ws : List Int) : sumW ws (ups ws.length) = ws.sum := by
  unfold sumW
  congr 1
  refine List.ext_getElem? fun i => ?_
  rw [List.getElem?_map]
  unfold ups
  rw [List.getElem?_map]
  by_cases h : i < ws.length
  · rw [List.getElem?_range h, List.getElem?_eq_getElem h]
    show some (wtL ws (i : Int)) = _
    unfold wtL
    rw [Int.toNat_natCast, List.getD_eq_getElem?_getD, List.getElem?_eq_getElem h]
    rfl
  · rw [List.getElem?_eq_none (l := List.range ws.length) (by rw [List.length_range]; omega), List.getElem?_eq_none (l := ws) (by omega)]
    rfl
theorem wt_mem {ws : List Int} {x : Int} (h0 : 0 ≤ x) (h1 : x < ws.length) : wtL ws x ∈ ws := by
  unfold wtL
  rw [List.getD_eq_getElem?_getD, List.getElem?_eq_getElem (by omega)]
  exact List.getElem_mem _
end My
namespace My
open PySem PySem.Spec PyProof.Rows L2
theorem ints_pr {Pr : Int → Prop} : ∀ {ds : List PyData}, (∀ d ∈ ds, ∃ z, d = .int z ∧ Pr z) → ∃ zs : List Int, ds = zs.map PyData.int ∧ ∀ z ∈ zs, Pr z
  | [], _ => ⟨[], rfl, fun z hz => nomatch hz⟩
  | d :: ds, h => by
    obtain ⟨z, rfl, hz⟩ := h d List.mem_cons_self
    obtain ⟨zs, rfl, hzs⟩ := ints_pr fun e he => h e (List.mem_cons_of_mem _ he)
    refine ⟨z :: zs, rfl, fun y hy => ?_⟩
    rcases List.mem_cons.mp hy with rfl | hy
    · exact hz
    · exact hzs y hy
theorem fit_prs {T : List (Int × Int)} (h : T.length ≤ 100000) : Fit 4 (.list (T.map prD)) := by
  refine ⟨by rw [List.length_map]; exact h, fun e he => ?_⟩
  obtain ⟨t, _, rfl⟩ := List.mem_map.mp he
  refine ⟨by simp, fun x hx => ?_⟩
  simp only [List.mem_cons, List.not_mem_nil, or_false] at hx
  rcases hx with rfl | rfl <;> exact trivial
theorem EvQ.repr {K : PySem.W.Frag} {av : List Addr} {H0 : Hp} {σ : L2.St} {t : TE} {d : PyData} {W D : Nat} (h : EvQ K av H0 σ t d) (sm : Sm W D d) (hW : W ≤ 100000) (hD : D ≤ 60) : EvQ K av H0 σ (tCB (rRepr K) (tCons t tNil)) (.str d.shown) := fun H s Q q =>
  h H s _ fun x H1 s1 hx => ⟨x, d, rfl, Dq.same wos_le hx, sm.2.1, Nat.le_trans sm.2.2.2 hD, by have := sm.fits hW; omega, q _ _ s1 (.str _)⟩
end My
namespace My
open PySem PySem.Spec PyProof.Rows L2
theorem if_notN {K : PySem.W.Frag} {av : List Addr} {σ : L2.St} {t : TE} {T : TS} {D : Ends} {H : Hp} (h : EvQ K av H σ t (.bool true)) (r : ∀ H', Same H H' → D.nx σ H') : tIfS (tNot (tB t)) T tNext D σ H := if_not h r
end My
namespace My
open PySem PySem.Spec PyProof.Rows L2
theorem if_notC {K : PySem.W.Frag} {av : List Addr} {σ : L2.St} {t : TE} {T : TS} {D : Ends} {H : Hp} (h : EvQ K av H σ t (.bool true)) (r : ∀ H', Same H H' → D.nx σ H') : tIfS (tNot (tTest t)) T tNext D σ H :=
  h H (Same.refl _) _ fun x H' s hx => by
    cases hx
    exact ⟨_, rfl, iteF (r H' s)⟩
theorem getD_inI {os : List Int} {j : Nat} (h : j < os.length) : os.getD j 0 ∈ os := by
  rw [List.getD_eq_getElem?_getD, List.getElem?_eq_getElem h]
  exact List.getElem_mem _
theorem sumW_next {ws os : List Int} {j : Nat} (h : j < os.length) : sumW ws (os.take (j + 1)) = sumW ws (os.take j) + wtL ws (os.getD j 0) := by
  rw [List.take_add_one, sumW_append, List.getElem?_eq_getElem h, List.getD_eq_getElem?_getD, List.getElem?_eq_getElem h]
  congr 1
  show sumW ws [os[j]] = _
  rw [sumW_cons]
  simp [sumW]
theorem sumW_nil {ws : List Int} : sumW ws [] = 0 := rfl
theorem fit_bounds {ws os : List Int} {t : Int} (hp : ∀ x ∈ os, 1 ≤ wtL ws x) (h1 : sumW ws (os.take 1) ≤ t) (h2 : t < sumW ws (os.take (os.length - 1))) (hl : 2 ≤ os.length) :
    1 ≤ fitN ws os t ∧ fitN ws os t + 1 ≤ os.length - 1 ∧ sumW ws (os.take (fitN ws os t)) ≤ t ∧ t < sumW ws (os.take (fitN ws os t + 1)) := by
  have h0 : 0 ≤ t := Int.le_trans (sumW_pos fun x hx => hp x (List.mem_of_mem_take hx)) h1
  have hle := fitN_le (ws := ws) (os := os) (t := t)
  have a := (fit_iff hp h0 1 (by omega)).mp h1
  have b : ¬ (os.length - 1 ≤ fitN ws os t) := fun z => by
    have := (fit_iff hp h0 (os.length - 1) (by omega)).mpr z
    omega
  have c := (fit_iff hp h0 (fitN ws os t) hle).mpr (Nat.le_refl _)
  have d : ¬ sumW ws (os.take (fitN ws os t + 1)) ≤ t := fun z => by
    have := (fit_iff hp h0 (fitN ws os t + 1) (by omega)).mp z
    omega
  omega
theorem firsts_count {ws os : List Int} {t : Int} (hp : ∀ x ∈ os, 1 ≤ wtL ws x) (h1 : sumW ws (os.take 1) ≤ t) (h2 : t < sumW ws (os.take (os.length - 1))) (hl : 2 ≤ os.length) :
    (((List.range (os.length - 1)).map fun j => sumW ws (os.take (j + 1))).filter fun z => decide (z ≤ t)).length = fitN ws os t := by
  have h0 : 0 ≤ t := Int.le_trans (sumW_pos fun x hx => hp x (List.mem_of_mem_take hx)) h1
  obtain ⟨_, b, _, _⟩ := fit_bounds hp h1 h2 hl
  rw [List.filter_map, List.length_map, ← count_fit (n := os.length - 1) (m := fitN ws os t) (by omega)]
  congr 1
  refine List.filter_congr fun j hj => ?_
  have hj := List.mem_range.mp hj
  show decide (sumW ws (os.take (j + 1)) ≤ t) = _
  have := fit_iff hp h0 (j + 1) (by omega)
  rw [Bool.eq_iff_iff, decide_eq_true_eq, decide_eq_true_eq]
  rw [this]
theorem firsts_at {ws os : List Int} {j : Nat} (h : j < os.length - 1) : ((List.range (os.length - 1)).map fun j => sumW ws (os.take (j + 1))).getD j 0 = sumW ws (os.take (j + 1)) := by
  rw [List.getD_eq_getElem?_getD, List.getElem?_map, List.getElem?_range h]
  rfl
theorem max_ge {w0 : Int} {wr : List Int} {x : Int} (h : x ∈ w0 :: wr) : x ≤ wr.foldl max w0 := by
  obtain ⟨_, h2, h3⟩ := foldl_max wr w0
  rcases List.mem_cons.mp h with rfl | h
  · exact h2
  · exact h3 x h
end My
namespace My
open PySem PySem.Spec PyProof.Rows L2
theorem tForL_e {K : PySem.W.Frag} {te : TE} {g : TG} {tb : TS} {D : Ends} {σ : L2.St} {H : Hp} (h : te σ H fun x H1 => ∃ a, x = .ref a ∧ (∃ xs, SqL K H1 a xs) ∧ ∃ W : Nat → Nat → L2.St → Hp → Prop, (∃ m, W 0 m σ H1) ∧ ∀ i m σ H, W i m σ H →
      ((Itl K a).stop i H ∧ D.nx σ H) ∨ ((Itl K a).go i H ∧ ∃ N : L2.St → Hp → Prop, (∀ σ' H', N σ' H' → ∃ m', m' < m ∧ W (i + 1) m' σ' H') ∧ ∀ v H', (Itl K a).yld i H v H' → g v σ H' fun σ2 H2 => tb { D with nx := N, ct := N, bk := D.nx } σ2 H2)) : tFor (iList K te) g tb D σ H := h
end My

set_option Elab.async false
set_option linter.all false
set_option maxRecDepth 100000
set_option maxHeartbeats 4000000
namespace My
open PySem PySem.Spec PyProof.Rows L2
/-! ### t.count(k); sum of truths; the least of some tuples of numbers -/
theorem preSum_bools (bs : List Bool) : ∀ j, j ≤ bs.length → preSum (fun i => if bs.getD i false = true then 1 else 0) j = (((bs.take j).countP id : Nat) : Int)
  | 0, _ => by simp [preSum]
  | j + 1, h => by
    rw [preSum, preSum_bools bs j (by omega), List.take_add_one, List.countP_append, List.getD_eq_getElem?_getD, List.getElem?_eq_getElem (by omega)]
    simp only [Option.getD_some, Option.toList_some]
    cases bs[j] <;> simp [List.countP_cons]
theorem sum_listB {prog : Program} {w : World} {A : Around} {E : Value → Shared → Prop} {s : Shared} {l : Addr} {vs : Array Value} {bs : List Bool} {Q : Value → Shared → Prop} (hh : A.handled = none) (hl : s.heap.IsList l vs) (hz : vs.size = bs.length) (hb : ∀ (i : Nat) v, vs[i]? = some v → ∃ b, v = .bool b ∧ bs[i]? = some b)
    (h : ∀ h' tk t', (∀ b o, s.heap.get? b = some o → h'.get? b = some o) → Q (.int ((bs.countP id : Nat) : Int) t') { s with heap := h', toks := tk }) : wpAny (model prog w) A (call (.builtin "sum") [.ref l]) Q E s := by
  refine call_sum_walkAnyB (PySem.W.iter_listW (A := A.in1) hh hl fun s₂ e W st hfp hw hk => ?_)
  refine ⟨_, _, _, _, _, _, _, (fun i => if bs.getD i false = true then 1 else 0), rfl, W, st, hfp, fun i v hP => ?_, fun s' t' hm => ?_⟩
  · obtain ⟨b, rfl, e2⟩ := hb i v hP
    refine .inr ⟨b, rfl, ?_⟩
    show (if bs.getD i false = true then (1 : Int) else 0) = _
    rw [List.getD_eq_getElem?_getD, e2]
    rfl
  · obtain ⟨h', tk, rfl, hk'⟩ := PySem.W.moved_old e rfl hm
    rw [preSum_bools bs _ (by omega), List.take_of_length_le (by omega)]
    exact h h' tk t' hk'
variable {X : Cx}
def rSumB (K : PySem.W.Frag) : List V → Hp → VK → Prop := fun vs H Q => ∃ (a : Addr) (bs : List Bool), vs = [V.ref a] ∧ SqL K H a (bs.map V.bl) ∧ Q (.int ((bs.countP id : Nat) : Int)) H
theorem cr_sumB (hc : X.calm = true) : CallR X (.builtin "sum") (rSumB X.K) := by
  intro pins s σ H vs us Q I r h
  obtain ⟨a, bs, rfl, hs, q⟩ := h
  obtain ⟨its, rv, hl, _⟩ := I.list hs
  rw [Vals.ref1 r]
  have e := Vals.bls rv
  subst e
  refine sum_listB (bs := bs) (I.ok.hd hc) hl.isList (by simp) (fun i v hv => ?_) fun h' tk t' hk => ⟨.int _, H, I.kept hk, ⟨_, rfl⟩, q⟩
  rw [List.getElem?_toArray, List.getElem?_map] at hv
  cases e : bs[i]? with
  | none => rw [e] at hv; cases hv
  | some b => rw [e] at hv; exact ⟨b, (Option.some.inj hv).symm, rfl⟩
theorem sumBK (K : PySem.W.Frag) (hc : X.calm = true) (h : X.K = K := by rfl) : CallR X (.builtin "sum") (rSumB K) := by subst h; exact cr_sumB hc
def rCountT (K : PySem.W.Frag) : V → List V → Hp → VK → Prop := fun x xs H Q => ∃ (a : Addr) (ns : List Int) (k : Int), x = V.ref a ∧ xs = [.int k] ∧ SqT K H a (ns.map V.int) ∧ Q (.int ((ns.count k : Nat) : Int)) H
theorem plain_ints : ∀ ns : List Int, PyData.plainAll (ns.map PyData.int) = true
  | [] => by simp [PyData.plainAll]
  | n :: ns => by
    have := plain_ints ns
    simp [PyData.plainAll, PyData.plain, this]
theorem count_eqv (k : Int) : ∀ ns : List Int, (ns.map PyData.int).countP (fun y => PyData.eqv y (.int k)) = ns.count k
  | [] => by simp
  | n :: ns => by
    rw [List.map_cons, List.countP_cons, List.count_cons, count_eqv k ns]
    congr 1
theorem mt_countT (hu : X.A.units + 64 < cLine) : MtR X "tuple.count" (rCountT X.K) := by
  intro pins s σ H x xs v us Q I rx rxs h
  obtain ⟨a, ns, k, rfl, rfl, hs, q⟩ := h
  cases rx
  obtain ⟨u, rfl, ru⟩ := rxs.one
  obtain ⟨tk, rfl⟩ := ru
  obtain ⟨its, rv, hl, _⟩ := I.tuple hs
  obtain ⟨as, ra⟩ := DqAll.reads I (DqAll.ints ns) rv
  have hl2 : s.heap.IsTuple a its.toArray := hl
  refine PySem.SeqAt.count_tuple_data (xs := ns.map PyData.int) (d := .int k) (as := as) (bs := []) hl2 (by simpa using ra) (.int k tk) (plain_ints ns) (by simp [PyData.plain]) ?_ ?_
  · have : PyData.depth (.int k) = 0 := by simp [PyData.depth]
    rw [this, Nat.min_zero]
    omega
  · rw [count_eqv]
    exact ⟨.int _, H, I.tok _, ⟨_, rfl⟩, q⟩
theorem countT (K : PySem.W.Frag) (hu : X.A.units + 64 < cLine) (h : X.K = K := by rfl) : MtR X "tuple.count" (rCountT K) := by subst h; exact mt_countT hu
/-- the least of some alike tuples: one of them -/
def rMinTI (K : PySem.W.Frag) : List V → Hp → VK → Prop := fun vs H Q => ∃ (a : Addr) (us : List V) (rs : List (List Int)) (m : Nat), vs = [V.ref a] ∧ SqL K H a us ∧ DqAll K H us (rs.map tI) ∧ (∀ r ∈ rs, r.length = m) ∧ rs ≠ [] ∧ ∀ (i : Nat) (x : V), us[i]? = some x → Q x H
theorem depth_tIs : ∀ rs : List (List Int), PyData.depthAll (rs.map tI) ≤ 1
  | [] => by simp [PyData.depthAll]
  | r :: rs => by
    have h1 := depth_tIs rs
    have h2 := depth_intsA r
    simp [PyData.depthAll, PyData.depth, tI, h2]
    omega
theorem alikeAll_ints : ∀ a b : List Int, PySem.W.alikeAll (a.map PyData.int) (b.map PyData.int) = true
  | [], _ => by simp [PySem.W.alikeAll]
  | _ :: _, [] => by simp [PySem.W.alikeAll]
  | x :: a, y :: b => by
    have := alikeAll_ints a b
    simp [PySem.W.alikeAll, PySem.W.alike, this]
theorem cr_minTI (hc : X.calm = true) (hu : X.A.units + 64 < cLine) : CallR X (.builtin "min") (rMinTI X.K) := by
  intro pins s σ H vs us Q I r h
  obtain ⟨a, xs, rs, m, rfl, hs, hd, hm, hne, q⟩ := h
  obtain ⟨its, rv, hl, _⟩ := I.list hs
  rw [Vals.ref1 r]
  obtain ⟨as, ra⟩ := DqAll.reads I hd rv
  cases rs with
  | nil => exact absurd rfl hne
  | cons r0 rs =>
    refine PySem.W.min_list_data (x := tI r0) (xs := rs.map tI) (as := as) (I.ok.hd hc) hl.isList (by simpa using ra) ⟨?_, ?_⟩ ?_ fun i v h' tk bs hv hr hk => ?_
    · intro x hx y hy
      rw [← List.map_cons] at hx hy
      obtain ⟨a, _, rfl⟩ := List.mem_map.mp hx
      obtain ⟨b, _, rfl⟩ := List.mem_map.mp hy
      show PySem.W.alike (.tuple (a.map PyData.int)) (.tuple (b.map PyData.int)) = true
      simp [PySem.W.alike, alikeAll_ints]
    · intro x hx
      rw [← List.map_cons] at hx
      obtain ⟨a, _, rfl⟩ := List.mem_map.mp hx
      intro z
      cases z
    · have := depth_tIs (r0 :: rs)
      rw [List.map_cons] at this
      omega
    · have hv : its[i]? = some v := by simpa using hv
      have hlen := rv.length
      have hi : i < xs.length := by
        have := (List.getElem?_eq_some_iff.mp hv).1
        omega
      obtain ⟨x, ex⟩ : ∃ x, xs[i]? = some x := ⟨_, List.getElem?_eq_getElem hi⟩
      obtain ⟨u, e1, e2⟩ := Vals.get rv ex
      rw [hv] at e1
      cases e1
      exact ⟨x, H, I.kept hk, e2, q i x ex⟩
theorem minTI (K : PySem.W.Frag) (hc : X.calm = true) (hu : X.A.units + 64 < cLine) (h : X.K = K := by rfl) : CallR X (.builtin "min") (rMinTI K) := by subst h; exact cr_minTI hc hu
end My

set_option Elab.async false
set_option linter.all false
set_option maxRecDepth 100000
set_option maxHeartbeats 4000000
namespace My
open PySem PySem.Spec PyProof.Rows L2
/-! ### states, leaves and trees -/
def lI (r : List Int) : PyData := .list (r.map PyData.int)
def RoomsOk (T : List (Int × Int)) (rs ss : List Int) (rooms : List (List Int)) : Prop := rooms.length = rs.length ∧ ∀ (i : Nat) r z, rooms[i]? = some r → rs[i]? = some z → r.Nodup ∧ (∀ x, x ∈ r ↔ Reach T (lotN ss i) z x) ∧ r.length ≤ 12
def fullB (sz ss : List Int) (i : Nat) : Bool := decide (sz.getD i 0 < (ss.count (i : Int) : Nat))
def shortB (sz ss : List Int) (room : List Int) (i : Nat) : Bool := decide ((room.length : Int) < sz.getD i 0) || (List.range ss.length).any fun p => decide (ss.getD p 0 = (i : Int)) && !decide ((p : Int) ∈ room)
def takeB (sz ss : List Int) (rooms : List (List Int)) (p : Int) (i : Nat) : Bool := decide (((ss.count (i : Int) : Nat) : Int) < sz.getD i 0) && decide (p ∈ rooms.getD i [])
def takersN (sz ss : List Int) (rooms : List (List Int)) (p : Int) : Nat := ((List.range rooms.length).map (takeB sz ss rooms p)).countP id
def lostB (sz ss : List Int) (rooms : List (List Int)) (p : Nat) : Bool := decide (ss.getD p 0 = -1) && decide (takersN sz ss rooms (p : Int) = 0)
/-- a leaf of a tree, of the rooms -/
inductive LeafIs (sz ss : List Int) (rooms : List (List Int)) : PyData → Prop
  | full {i : Nat} : i < rooms.length → fullB sz ss i = true → LeafIs sz ss rooms (.tuple [.str "full", .int (i : Int)])
  | short {i : Nat} : i < rooms.length → shortB sz ss (rooms.getD i []) i = true → LeafIs sz ss rooms (.tuple [.str "short", .int (i : Int)])
  | lost {p : Nat} : p < ss.length → lostB sz ss rooms p = true → LeafIs sz ss rooms (.tuple [.str "lost", .int (p : Int)])
inductive TreeOk (T : List (Int × Int)) (rs sz : List Int) : List Int → PyData → Prop
  | leaf {ss : List Int} {rooms : List (List Int)} {d : PyData} : RoomsOk T rs ss rooms → LeafIs sz ss rooms d → TreeOk T rs sz ss d
  | cases {ss : List Int} {p : Nat} {pages : List PyData} : ss[p]? = some (-1) → pages.length = rs.length → (∀ (i : Nat) d, pages[i]? = some d → TreeOk T rs sz (ss.set p (i : Int)) d) → TreeOk T rs sz ss (.tuple [.str "cases", .int (p : Int), .tuple pages])
structure StateOk (n k : Nat) (rs ss : List Int) : Prop where
  len : ss.length = n
  bd : ∀ z ∈ ss, -1 ≤ z ∧ z < k
  root : ∀ (i : Nat) z, rs[i]? = some z → ss[z.toNat]? = some (i : Int)
/-- what the dealing keeps of the state -/
def Ext (ss zs : List Int) : Prop := zs.length = ss.length ∧ ∀ (j : Nat) z, ss[j]? = some z → z ≠ -1 → zs[j]? = some z
theorem mem_part {zs : List Int} {i x : Int} : x ∈ partL zs i ↔ 0 ≤ x ∧ zs[x.toNat]? = some i := by
  unfold partL
  rw [List.mem_filter, mem_ups]
  unfold inP
  rw [decide_eq_true_eq]
  constructor
  · rintro ⟨⟨h0, _⟩, h⟩
    exact ⟨h0, h⟩
  · rintro ⟨h0, h⟩
    have := (List.getElem?_eq_some_iff.mp h).1
    exact ⟨⟨h0, by omega⟩, h⟩
theorem mem_lotN_iff {ss : List Int} {i x : Int} : x ∈ lotN ss i ↔ 0 ≤ x ∧ (ss[x.toNat]? = some i ∨ ss[x.toNat]? = some (-1)) := by
  unfold lotN
  rw [List.mem_filter, mem_ups]
  unfold okP
  constructor
  · rintro ⟨⟨h0, h1⟩, h⟩
    refine ⟨h0, ?_⟩
    rw [List.getElem?_eq_getElem (by omega)] at h ⊢
    simp only [Bool.or_eq_true, decide_eq_true_eq] at h
    rcases h with h | h
    · exact .inl (congrArg some h)
    · exact .inr (congrArg some h)
  · rintro ⟨h0, h⟩
    rcases h with h | h
    · have := (List.getElem?_eq_some_iff.mp h).1
      refine ⟨⟨h0, by omega⟩, ?_⟩
      rw [h]
      simp
    · have := (List.getElem?_eq_some_iff.mp h).1
      refine ⟨⟨h0, by omega⟩, ?_⟩
      rw [h]
      simp
theorem part_count_aux (zs : List Int) (i : Int) : ∀ k, k ≤ zs.length → (((ups k).filter (inP zs i)).length = (zs.take k).count i)
  | 0, _ => by simp [ups]
  | k + 1, h => by
    rw [ups_succ, List.filter_append, List.length_append, part_count_aux zs i k (by omega), List.take_add_one, List.count_append, List.getElem?_eq_getElem (by omega)]
    congr 1
    have e : inP zs i (k : Int) = decide (zs[k] = i) := inP_at (List.getElem?_eq_getElem (by omega))
    by_cases hz : zs[k] = i
    · rw [List.filter_cons_of_pos (by rw [e]; exact decide_eq_true hz)]
      simp [hz]
    · rw [List.filter_cons_of_neg (by rw [e, decide_eq_false hz]; decide)]
      simp [List.count_cons, hz]
theorem part_count (zs : List Int) (i : Int) : (partL zs i).length = zs.count i := by
  have := part_count_aux zs i zs.length (Nat.le_refl _)
  rw [List.take_length] at this
  exact this
/-- a lot hangs: each of its places is reached from each -/
theorem hangs_reach {T : List (Int × Int)} {n : Nat} {lot : List Int} (hl : ∀ y ∈ lot, 0 ≤ y ∧ y < n) (h : hangsB T lot = true) {x y : Int} (hx : x ∈ lot) (hy : y ∈ lot) : Reach T lot x y := by
  unfold hangsB at h
  rw [@decide_eq_true_eq _ (Classical.propDecidable _)] at h
  obtain ⟨ps, hp, h1⟩ := h
  obtain ⟨rx, hrx⟩ := piece_ex (T := T) hl (hl x hx)
  obtain ⟨ry, hry⟩ := piece_ex (T := T) hl (hl y hy)
  have m1 := (hp.2.2 rx).mpr ⟨x, hx, hrx⟩
  have m2 := (hp.2.2 ry).mpr ⟨y, hy, hry⟩
  match ps, h1, m1, m2 with
  | [r], _, m1, m2 =>
    rw [List.mem_singleton] at m1 m2
    subst m1
    have := hry.self
    rw [m2] at this
    exact (hrx.2 y).mp this
theorem hangs_of {T : List (Int × Int)} {n : Nat} {lot : List Int} {z : Int} (hl : ∀ y ∈ lot, 0 ≤ y ∧ y < n) (hz : z ∈ lot) (h : ∀ y ∈ lot, Reach T lot z y) : hangsB T lot = true := by
  unfold hangsB
  rw [@decide_eq_true_eq _ (Classical.propDecidable _)]
  obtain ⟨r, hr⟩ := piece_ex (T := T) hl (hl z hz)
  refine ⟨[r], ⟨?_, by simp, fun r' => ?_⟩, rfl⟩
  · exact List.pairwise_singleton _ _
  · rw [List.mem_singleton]
    constructor
    · rintro rfl
      exact ⟨z, hz, hr⟩
    · rintro ⟨x, hx, hp⟩
      exact hp.eq (hr.of hz ((hr.2 x).mpr (h x hx)))
/-- what parts are, of the numbers -/
theorem parts_iff {T : List (Int × Int)} {n : Nat} {rs sz zs : List Int} : partsD T n rs sz (tI zs) = true ↔ zs.length = n ∧ (∀ z ∈ zs, 0 ≤ z ∧ z < rs.length) ∧ ∀ i < rs.length, zs[(rs.getD i 0).toNat]? = some (i : Int) ∧ ((partL zs i).length : Int) = sz.getD i 0 ∧ hangsB T (partL zs i) = true := by
  unfold partsD tI dealingD
  simp only [Bool.and_eq_true, decide_eq_true_eq, List.all_eq_true, List.length_map, List.mem_range, intsOf_map]
  constructor
  · rintro ⟨⟨h1, h2⟩, h3⟩
    refine ⟨by omega, fun z hz => ?_, fun i hi => ?_⟩
    · have := h2 (.int z) (List.mem_map.mpr ⟨z, hz, rfl⟩)
      simpa [placeD] using this
    · have := h3 i hi
      unfold okPart at this
      simpa [Bool.and_eq_true] using this
  · rintro ⟨h1, h2, h3⟩
    refine ⟨⟨by omega, fun d hd => ?_⟩, fun i hi => ?_⟩
    · obtain ⟨z, hz, rfl⟩ := List.mem_map.mp hd
      have := h2 z hz
      simpa [placeD] using this
    · have := h3 i hi
      unfold okPart
      simpa [Bool.and_eq_true] using this
theorem count_le_ext {ss zs : List Int} (h : Ext ss zs) {i : Int} (hi : i ≠ -1) : ss.count i ≤ zs.count i := by
  have : ∀ (ss zs : List Int), zs.length = ss.length → (∀ (j : Nat) z, ss[j]? = some z → z ≠ -1 → zs[j]? = some z) → ss.count i ≤ zs.count i := by
    intro ss
    induction ss with
    | nil => intro zs _ _; simp
    | cons s ss ih =>
      intro zs hl h
      cases zs with
      | nil => simp at hl
      | cons z zs =>
        have h1 := ih zs (by simpa using hl) fun j y e n => h (j + 1) y (by simpa using e) n
        rw [List.count_cons, List.count_cons]
        by_cases e : s = i
        · have := h 0 s (by simp) (by rw [e]; exact hi)
          have e2 : z = s := by simpa using this
          rw [e2]
          omega
        · have : ¬ (s == i) = true := by simpa using e
          rw [if_neg this]
          omega
  exact this ss zs h.1 h.2
theorem part_sub_lot {ss zs : List Int} (h : Ext ss zs) {i : Int} {x : Int} (hx : x ∈ partL zs i) : x ∈ lotN ss i := by
  obtain ⟨h0, hz⟩ := mem_part.mp hx
  refine mem_lotN_iff.mpr ⟨h0, ?_⟩
  have hl := (List.getElem?_eq_some_iff.mp hz).1
  rw [h.1] at hl
  have e := List.getElem?_eq_getElem hl
  by_cases hm : ss[x.toNat] = -1
  · exact .inr (by rw [e, hm])
  · have := h.2 _ _ e hm
    rw [this] at hz
    exact .inl (by rw [e]; exact hz)
/-- the places of part i are in its room -/
theorem part_room {T : List (Int × Int)} {n : Nat} {rs sz ss zs r : List Int} {rooms : List (List Int)} {i : Nat} (hp : partsD T n rs sz (tI zs) = true) (he : Ext ss zs) (hR : RoomsOk T rs ss rooms) (hi : i < rs.length) (hr : rooms[i]? = some r) (hb : ∀ z ∈ rs, 0 ≤ z) : ∀ x ∈ partL zs i, x ∈ r := by
  obtain ⟨h1, h2, h3⟩ := parts_iff.mp hp
  obtain ⟨a, b, c⟩ := h3 i hi
  have ez : rs[i]? = some (rs.getD i 0) := by
    rw [List.getD_eq_getElem?_getD, List.getElem?_eq_getElem hi]
    rfl
  obtain ⟨_, hm, _⟩ := hR.2 i r _ hr ez
  intro x hx
  have hroot : rs.getD i 0 ∈ partL zs i := mem_part.mpr ⟨hb _ (List.mem_of_getElem? ez), a⟩
  have hbd : ∀ y ∈ partL zs (i : Int), 0 ≤ y ∧ y < zs.length := fun y hy => mem_partL hy
  exact (hm x).mpr (reach_mono (hangs_reach hbd c hroot hx) fun y hy => part_sub_lot he hy)
theorem part_nodup {zs : List Int} {i : Int} : (partL zs i).Nodup := lt_nodup partL_up
/-- a leaf: no dealing that goes on from the state is parts -/
theorem LeafIs.no {T : List (Int × Int)} {n : Nat} {rs sz ss zs : List Int} {rooms : List (List Int)} {d : PyData} (hR : RoomsOk T rs ss rooms) (hb : ∀ z ∈ rs, 0 ≤ z) (h : LeafIs sz ss rooms d) (hp : partsD T n rs sz (tI zs) = true) (he : Ext ss zs) : False := by
  obtain ⟨h1, h2, h3⟩ := parts_iff.mp hp
  cases h with
  | @full i hi hf =>
    rw [hR.1] at hi
    obtain ⟨_, b, _⟩ := h3 i hi
    have := count_le_ext he (i := (i : Int)) (by omega)
    rw [← part_count zs] at this
    unfold fullB at hf
    rw [decide_eq_true_eq] at hf
    omega
  | @short i hi hs =>
    have hik := hi
    rw [hR.1] at hik
    obtain ⟨_, b, _⟩ := h3 i hik
    have er : rooms[i]? = some (rooms.getD i []) := by
      rw [List.getD_eq_getElem?_getD, List.getElem?_eq_getElem hi]
      rfl
    have hin := part_room hp he hR hik er hb
    unfold shortB at hs
    rw [Bool.or_eq_true, decide_eq_true_eq, List.any_eq_true] at hs
    rcases hs with hs | ⟨p, hpr, hs⟩
    · have := len_sub part_nodup hin
      omega
    · rw [Bool.and_eq_true, decide_eq_true_eq, Bool.not_eq_true', decide_eq_false_iff_not] at hs
      have hpl := List.mem_range.mp hpr
      refine hs.2 (hin _ (mem_part.mpr ⟨by omega, ?_⟩))
      have e := List.getElem?_eq_getElem hpl
      have : ss.getD p 0 = ss[p] := by
        rw [List.getD_eq_getElem?_getD, e]
        rfl
      rw [this] at hs
      rw [Int.toNat_natCast, ← hs.1]
      exact he.2 p _ e (by omega)
  | @lost p hpl hl =>
    unfold lostB at hl
    rw [Bool.and_eq_true, decide_eq_true_eq, decide_eq_true_eq] at hl
    have e : zs[p]? = some (zs[p]'(by rw [he.1]; exact hpl)) := List.getElem?_eq_getElem _
    have hz := h2 _ (List.mem_of_getElem? e)
    generalize zs[p]'(by rw [he.1]; exact hpl) = z at e hz
    obtain ⟨i, rfl⟩ : ∃ i : Nat, z = (i : Int) := ⟨z.toNat, by omega⟩
    have hi : i < rs.length := by omega
    obtain ⟨_, b, _⟩ := h3 i hi
    have hi2 : i < rooms.length := by rw [hR.1]; exact hi
    have er : rooms[i]? = some (rooms.getD i []) := by
      rw [List.getD_eq_getElem?_getD, List.getElem?_eq_getElem hi2]
      rfl
    have hin := part_room hp he hR hi er hb (p : Int) (mem_part.mpr ⟨by omega, by rw [Int.toNat_natCast]; exact e⟩)
    have hlt : ss.count (i : Int) < zs.count (i : Int) := by
      have es : ss[p]? = some (-1) := by
        rw [List.getElem?_eq_getElem hpl]
        have : ss.getD p 0 = ss[p] := by
          rw [List.getD_eq_getElem?_getD, List.getElem?_eq_getElem hpl]
          rfl
        rw [← this, hl.1]
      have he2 : Ext (ss.set p (i : Int)) zs := ⟨by rw [List.length_set]; exact he.1, fun j y ey hy => by
        rw [List.getElem?_set] at ey
        split at ey
        · next h =>
          subst h
          cases ey
          exact e
        · exact he.2 j y ey hy⟩
      have h4 := count_le_ext he2 (i := (i : Int)) (by omega)
      have h5 : (ss.set p (i : Int)).count (i : Int) = ss.count (i : Int) + 1 := by
        rw [List.count_set hpl]
        have : ss[p] = -1 := by
          rw [List.getElem?_eq_getElem hpl] at es
          exact Option.some.inj es
        rw [this]
        simp
      omega
    have ht : takeB sz ss rooms (p : Int) i = true := by
      unfold takeB
      rw [Bool.and_eq_true, decide_eq_true_eq, decide_eq_true_eq]
      refine ⟨?_, hin⟩
      rw [← b, part_count]
      omega
    have := hl.2
    unfold takersN at this
    rw [List.countP_eq_zero] at this
    exact this true (List.mem_map.mpr ⟨i, List.mem_range.mpr hi2, ht⟩) rfl
theorem TreeOk.no {T : List (Int × Int)} {n : Nat} {rs sz : List Int} (hb : ∀ z ∈ rs, 0 ≤ z) {ss : List Int} {d : PyData} (h : TreeOk T rs sz ss d) : ∀ zs, partsD T n rs sz (tI zs) = true → Ext ss zs → False := by
  induction h with
  | leaf hR hL => exact fun zs hp he => hL.no hR hb hp he
  | @cases ss p pages hp hl hc ih =>
    intro zs hz he
    obtain ⟨h1, h2, h3⟩ := parts_iff.mp hz
    have hpl := (List.getElem?_eq_some_iff.mp hp).1
    have e : zs[p]? = some (zs[p]'(by rw [he.1]; exact hpl)) := List.getElem?_eq_getElem _
    have hzz := h2 _ (List.mem_of_getElem? e)
    generalize zs[p]'(by rw [he.1]; exact hpl) = z at e hzz
    obtain ⟨i, rfl⟩ : ∃ i : Nat, z = (i : Int) := ⟨z.toNat, by omega⟩
    have hi : i < pages.length := by rw [hl]; omega
    refine ih i _ (List.getElem?_eq_getElem hi) zs hz ⟨by rw [List.length_set]; exact he.1, fun j y ey hy => ?_⟩
    rw [List.getElem?_set] at ey
    split at ey
    · next h =>
      subst h
      cases ey
      exact e
    · exact he.2 j y ey hy
theorem sum_counts (k : Nat) : ∀ zs : List Int, (∀ z ∈ zs, 0 ≤ z ∧ z < k) → ((List.range k).map fun i : Nat => ((zs.count (i : Int) : Nat) : Int)).sum = zs.length
  | [], _ => by
    have : ∀ l : List Nat, (l.map fun i : Nat => (((([] : List Int)).count (i : Int) : Nat) : Int)).sum = 0 := fun l => by
      induction l with
      | nil => rfl
      | cons a l ih => rw [List.map_cons, List.sum_cons, ih]; simp
    rw [this]
    rfl
  | z :: zs, h => by
    have ih := sum_counts k zs fun y hy => h y (List.mem_cons_of_mem _ hy)
    have hz := h z List.mem_cons_self
    have step : ∀ l : List Nat, l.Nodup → (l.map fun i : Nat => (((z :: zs).count (i : Int) : Nat) : Int)).sum = (l.map fun i : Nat => ((zs.count (i : Int) : Nat) : Int)).sum + (if z.toNat ∈ l then 1 else 0) := fun l => by
      induction l with
      | nil => intro _; simp
      | cons a l ih =>
        intro hn
        obtain ⟨h1, h2⟩ := List.nodup_cons.mp hn
        rw [List.map_cons, List.sum_cons, List.map_cons, List.sum_cons, ih h2, List.count_cons]
        by_cases e : z = (a : Int)
        · have e2 : z.toNat = a := by omega
          rw [if_pos (by simpa using e), e2, if_neg h1, if_pos List.mem_cons_self]
          omega
        · have e2 : z.toNat ≠ a := by omega
          have e3 : ¬ (z == (a : Int)) = true := by simpa using e
          rw [if_neg e3]
          by_cases e4 : z.toNat ∈ l
          · rw [if_pos e4, if_pos (List.mem_cons_of_mem _ e4)]
            omega
          · rw [if_neg e4, if_neg (by rw [List.mem_cons, not_or]; exact ⟨e2, e4⟩)]
            omega
    rw [step _ List.nodup_range, ih, if_pos (List.mem_range.mpr (by omega)), List.length_cons]
    omega
theorem eq_of_sums : ∀ {a b : List Int}, a.length = b.length → (∀ (i : Nat) x y, a[i]? = some x → b[i]? = some y → x ≤ y) → b.sum ≤ a.sum → a = b
  | [], [], _, _, _ => rfl
  | [], _ :: _, h, _, _ => by simp at h
  | _ :: _, [], h, _, _ => by simp at h
  | x :: a, y :: b, hl, hle, hs => by
    have h0 := hle 0 x y (by simp) (by simp)
    have hle' : ∀ (i : Nat) u v, a[i]? = some u → b[i]? = some v → u ≤ v := fun i u v e1 e2 => hle (i + 1) u v (by simpa using e1) (by simpa using e2)
    have hsum : ∀ {a b : List Int}, a.length = b.length → (∀ (i : Nat) u v, a[i]? = some u → b[i]? = some v → u ≤ v) → a.sum ≤ b.sum := fun {a} => by
      induction a with
      | nil => intro b hb _; cases b with | nil => exact Int.le_refl _ | cons _ _ => simp at hb
      | cons u a ih =>
        intro b hb h
        cases b with
        | nil => simp at hb
        | cons v b =>
          have := h 0 u v (by simp) (by simp)
          have := ih (b := b) (by simpa using hb) fun i p q e1 e2 => h (i + 1) p q (by simpa using e1) (by simpa using e2)
          rw [List.sum_cons, List.sum_cons]
          omega
    rw [List.sum_cons, List.sum_cons] at hs
    have h1 := hsum (by simpa using hl) hle'
    have e : x = y := by omega
    subst e
    rw [eq_of_sums (a := a) (b := b) (by simpa using hl) hle' (by omega)]
end My

set_option Elab.async false
set_option linter.all false
set_option maxRecDepth 100000
set_option maxHeartbeats 4000000
namespace My
open PySem PySem.Spec PyProof.Rows L2
theorem getD_of {l : List Int} {i : Nat} (h : i < l.length) : l[i]? = some (l.getD i 0) := by
  rw [List.getD_eq_getElem?_getD, List.getElem?_eq_getElem h]
  rfl
/-- a state without an open place, neither full nor short anywhere, is parts -/
theorem done_parts {T : List (Int × Int)} {n : Nat} {rs sz ss : List Int} {rooms : List (List Int)} (hS : StateOk n rs.length rs ss) (hR : RoomsOk T rs ss rooms) (hz : sz.length = rs.length) (hsum : sz.sum = n) (hb : ∀ z ∈ rs, 0 ≤ z ∧ z < n) (ho : ∀ z ∈ ss, z ≠ -1)
    (hf : ∀ i < rooms.length, fullB sz ss i = false) (hs : ∀ i < rooms.length, shortB sz ss (rooms.getD i []) i = false) : partsD T n rs sz (tI ss) = true := by
  have hbd : ∀ z ∈ ss, 0 ≤ z ∧ z < rs.length := fun z h => by
    have := hS.bd z h
    have := ho z h
    omega
  have hcounts : (List.range rs.length).map (fun i : Nat => ((ss.count (i : Int) : Nat) : Int)) = sz := by
    refine eq_of_sums (by rw [List.length_map, List.length_range, hz]) (fun i x y ex ey => ?_) ?_
    · rw [List.getElem?_map] at ex
      have hi : i < rs.length := by
        have := (List.getElem?_eq_some_iff.mp ey).1
        omega
      rw [List.getElem?_range hi] at ex
      cases ex
      have := hf i (by rw [hR.1]; exact hi)
      unfold fullB at this
      rw [decide_eq_false_iff_not, getD_at ey] at this
      show ((ss.count (i : Int) : Nat) : Int) ≤ y
      omega
    · rw [sum_counts rs.length ss hbd, hS.len, hsum]
      exact Int.le_refl _
  refine parts_iff.mpr ⟨hS.len, hbd, fun i hi => ?_⟩
  have er := hS.root i _ (getD_of hi)
  refine ⟨er, ?_, ?_⟩
  · rw [part_count]
    have : sz[i]? = some ((ss.count (i : Int) : Nat) : Int) := by
      rw [← hcounts, List.getElem?_map, List.getElem?_range hi]
      rfl
    rw [getD_at this]
  · have hi2 : i < rooms.length := by rw [hR.1]; exact hi
    have hns := hs i hi2
    unfold shortB at hns
    rw [Bool.or_eq_false_iff, List.any_eq_false] at hns
    have er2 : rooms[i]? = some (rooms.getD i []) := by
      rw [List.getD_eq_getElem?_getD, List.getElem?_eq_getElem hi2]
      rfl
    obtain ⟨_, hm, _⟩ := hR.2 i _ _ er2 (getD_of hi)
    have hroot : rs.getD i 0 ∈ partL ss (i : Int) := mem_part.mpr ⟨(hb _ (List.mem_of_getElem? (getD_of hi))).1, er⟩
    have hpb : ∀ y ∈ partL ss (i : Int), 0 ≤ y ∧ y < ss.length := fun y hy => mem_partL hy
    refine hangs_of hpb hroot fun y hy => ?_
    obtain ⟨y0, ey⟩ := mem_part.mp hy
    have hyl := (List.getElem?_eq_some_iff.mp ey).1
    have := hns.2 y.toNat (List.mem_range.mpr hyl)
    rw [Bool.and_eq_true, not_and, decide_eq_true_eq] at this
    have h3 := this (getD_at ey)
    rw [Bool.not_eq_true', decide_eq_false_iff_not, Classical.not_not, show ((y.toNat : Nat) : Int) = y by omega] at h3
    refine reach_mono ((hm y).mp h3) fun x hx => ?_
    obtain ⟨x0, ex⟩ := mem_lotN_iff.mp hx
    refine mem_part.mpr ⟨x0, ?_⟩
    rcases ex with ex | ex
    · exact ex
    · exact absurd rfl (ho (-1) (List.mem_of_getElem? ex))
theorem StateOk.put {n k : Nat} {rs ss : List Int} {p i : Nat} (h : StateOk n k rs ss) (hp : ss[p]? = some (-1)) (hi : i < k) : StateOk n k rs (ss.set p (i : Int)) := by
  refine ⟨by rw [List.length_set]; exact h.len, fun z hz => ?_, fun j z ej => ?_⟩
  · rcases List.mem_or_eq_of_mem_set hz with hz | rfl
    · exact h.bd z hz
    · omega
  · have := h.root j z ej
    rw [List.getElem?_set]
    split
    · next e =>
      subst e
      rw [hp] at this
      have := Option.some.inj this
      omega
    · exact this
theorem opens_put {ss : List Int} {p i : Nat} (hp : ss[p]? = some (-1)) : (ss.set p (i : Int)).count (-1) < ss.count (-1) := by
  have hpl := (List.getElem?_eq_some_iff.mp hp).1
  have e : ss[p] = -1 := by
    rw [List.getElem?_eq_getElem hpl] at hp
    exact Option.some.inj hp
  have hc : 0 < ss.count (-1) := List.count_pos_iff.mpr (List.mem_of_getElem? hp)
  rw [List.count_set hpl, e]
  have : ¬ (((i : Int)) == -1) = true := by simp
  simp [this]
  omega
theorem ixOf_of {rs : List Int} (nd : rs.Nodup) {i : Nat} {z : Int} (h : rs[i]? = some z) : ixOf rs z = i := by
  obtain ⟨h1, h2⟩ := ixOf_at (List.mem_of_getElem? h)
  have hl := (List.getElem?_eq_some_iff.mp h1).1
  rw [List.getElem?_eq_getElem hl] at h1
  have hl2 := (List.getElem?_eq_some_iff.mp h).1
  rw [List.getElem?_eq_getElem hl2] at h
  have h1 := Option.some.inj h1
  have h := Option.some.inj h
  rcases Nat.lt_trichotomy (ixOf rs z) i with hlt | e | hlt
  · exact absurd (h1.trans h.symm) (List.pairwise_iff_getElem.mp nd _ _ hl hl2 hlt)
  · exact e
  · exact absurd (by rw [List.getElem?_eq_getElem hl2, h]) (h2 i hlt)
theorem firstS_at {n : Nat} {rs : List Int} {j : Nat} (h : j < n) : (firstS n rs)[j]? = some (firstP rs (j : Int)) := by
  unfold firstS ups
  rw [List.getElem?_map, List.getElem?_map, List.getElem?_range h]
  rfl
theorem firstS_len {n : Nat} {rs : List Int} : (firstS n rs).length = n := by
  unfold firstS
  rw [List.length_map, ups_len]
theorem firstS_ok {n : Nat} {rs : List Int} (nd : rs.Nodup) (hb : ∀ z ∈ rs, 0 ≤ z ∧ z < n) : StateOk n rs.length rs (firstS n rs) := by
  refine ⟨firstS_len, fun z hz => ?_, fun i z ez => ?_⟩
  · unfold firstS at hz
    obtain ⟨x, _, rfl⟩ := List.mem_map.mp hz
    unfold firstP
    split
    · next h =>
      have := ixOf_lt h
      omega
    · omega
  · have hz := List.mem_of_getElem? ez
    have := hb z hz
    rw [firstS_at (by omega), show ((z.toNat : Nat) : Int) = z by omega]
    unfold firstP
    rw [if_pos hz, ixOf_of nd ez]
/-- parts go on from the first state -/
theorem firstS_ext {T : List (Int × Int)} {n : Nat} {rs sz zs : List Int} (hp : partsD T n rs sz (tI zs) = true) : Ext (firstS n rs) zs := by
  obtain ⟨h1, h2, h3⟩ := parts_iff.mp hp
  refine ⟨by rw [firstS_len]; exact h1, fun j z ej hz => ?_⟩
  have hj : j < n := by
    have := (List.getElem?_eq_some_iff.mp ej).1
    rw [firstS_len] at this
    exact this
  rw [firstS_at hj] at ej
  have e := Option.some.inj ej
  unfold firstP at e
  split at e
  · next h =>
    have hl := ixOf_lt h
    have := (h3 (ixOf rs (j : Int)) hl).1
    rw [getD_at (ixOf_at h).1, Int.toNat_natCast] at this
    rw [this, e]
  · exact absurd e.symm hz
theorem opens_le {n k : Nat} {rs ss : List Int} (h : StateOk n k rs ss) : ss.count (-1) ≤ n := by
  have := List.count_le_length (a := (-1 : Int)) (l := ss)
  rw [h.len] at this
  exact this
/-! what the defs promise -/
structure TreeIn (K : PySem.W.Frag) (H : Hp) (nr dq st : Addr) (n : Nat) (T : List (Int × Int)) (rs sz ss : List Int) : Prop where
  near : NearAt K H nr n T
  web : WebOk n T
  n12 : n ≤ 12
  deal : DealAt K H dq rs sz
  bd : ∀ z ∈ rs, 0 ≤ z ∧ z < n
  k12 : rs.length ≤ 12
  sizes : sz.length = rs.length
  state : Plain H st (ss.map V.int)
  ok : StateOk n rs.length rs ss
theorem TreeIn.same {K : PySem.W.Frag} {H H' : Hp} {nr dq st : Addr} {n : Nat} {T : List (Int × Int)} {rs sz ss : List Int} (s : Same H H') (h : TreeIn K H nr dq st n T rs sz ss) : TreeIn K H' nr dq st n T rs sz ss :=
  ⟨h.near.same s, h.web, h.n12, h.deal.same s, h.bd, h.k12, h.sizes, h.state.same s, h.ok⟩
def spRooms (K : PySem.W.Frag) : Sp := fun vs H Q _ => ∃ (nr dq st : Addr) (n : Nat) (T : List (Int × Int)) (rs sz ss : List Int), vs = [.ref nr, .ref dq, .ref st] ∧ TreeIn K H nr dq st n T rs sz ss ∧
  ∀ (v : V) (rooms : List (List Int)) H', Same H H' → Dq K H' v (.list (rooms.map lI)) → RoomsOk T rs ss rooms → Q v H'
def spIsFull (K : PySem.W.Frag) : Sp := fun vs H Q _ => ∃ (dq st : Addr) (rs sz ss : List Int) (i : Nat), vs = [.ref dq, .ref st, .int i] ∧ DealAt K H dq rs sz ∧ Plain H st (ss.map V.int) ∧ i < sz.length ∧ ∀ H', Same H H' → Q (.bl (fullB sz ss i)) H'
def spIsShort (K : PySem.W.Frag) : Sp := fun vs H Q _ => ∃ (dq st : Addr) (v : V) (rs sz ss r : List Int) (i : Nat), vs = [.ref dq, .ref st, v, .int i] ∧ DealAt K H dq rs sz ∧ Plain H st (ss.map V.int) ∧ ss.length ≤ 100 ∧ Dq K H v (lI r) ∧ r.length ≤ 1000 ∧ i < sz.length ∧ ∀ H', Same H H' → Q (.bl (shortB sz ss r i)) H'
def spTakers (K : PySem.W.Frag) : Sp := fun vs H Q _ => ∃ (dq st : Addr) (v : V) (rs sz ss : List Int) (rooms : List (List Int)) (p : Int), vs = [.ref dq, .ref st, v, .int p] ∧ DealAt K H dq rs sz ∧ Plain H st (ss.map V.int) ∧ Dq K H v (.list (rooms.map lI)) ∧ rooms.length ≤ sz.length ∧ sz.length ≤ 100 ∧ ∀ H', Same H H' → Q (.int ((takersN sz ss rooms p : Nat) : Int)) H'
def spIsLost (K : PySem.W.Frag) : Sp := fun vs H Q _ => ∃ (dq st : Addr) (v : V) (rs sz ss : List Int) (rooms : List (List Int)) (p : Nat), vs = [.ref dq, .ref st, v, .int (p : Int)] ∧ DealAt K H dq rs sz ∧ Plain H st (ss.map V.int) ∧ Dq K H v (.list (rooms.map lI)) ∧ rooms.length ≤ sz.length ∧ sz.length ≤ 100 ∧ p < ss.length ∧ ∀ H', Same H H' → Q (.bl (lostB sz ss rooms p)) H'
def spLeaf (K : PySem.W.Frag) : Sp := fun vs H Q _ => ∃ (dq st : Addr) (v : V) (rs sz ss : List Int) (rooms : List (List Int)), vs = [.ref dq, .ref st, v] ∧ DealAt K H dq rs sz ∧ Plain H st (ss.map V.int) ∧ Dq K H v (.list (rooms.map lI)) ∧ (∀ r ∈ rooms, r.length ≤ 1000) ∧ rooms.length = sz.length ∧ sz.length ≤ 100 ∧ ss.length ≤ 100 ∧
  (∀ (q : Addr) d H', Same H H' → Dq K H' (.ref q) d → LeafIs sz ss rooms d → Q (.ref q) H') ∧ ((∀ i < rooms.length, fullB sz ss i = false ∧ shortB sz ss (rooms.getD i []) i = false) → (∀ p < ss.length, lostB sz ss rooms p = false) → ∀ H', Same H H' → Q .non H')
def spToPut (K : PySem.W.Frag) : Sp := fun vs H Q _ => ∃ (nr dq st : Addr) (v : V) (n : Nat) (T : List (Int × Int)) (rs sz ss : List Int) (rooms : List (List Int)), vs = [.ref nr, .ref dq, .ref st, v] ∧ TreeIn K H nr dq st n T rs sz ss ∧ Dq K H v (.list (rooms.map lI)) ∧ rooms.length ≤ sz.length ∧ (-1) ∈ ss ∧
  ∀ (p : Nat) H', Same H H' → ss[p]? = some (-1) → Q (.int (p : Int)) H'
def spPutF : Sp := fun vs H Q _ => ∃ (st : Addr) (ss : List Int) (p : Nat) (i : Int), vs = [.ref st, .int p, .int i] ∧ Plain H st (ss.map V.int) ∧ p < ss.length ∧ ss.length ≤ 1000 ∧
  ∀ (a : Addr) H', Same H H' → Plain H' a ((ss.set p i).map V.int) → Q (.ref a) H'
/-- parts that go on from the state, or a tree -/
def PorT (K : PySem.W.Frag) (H : Hp) (T : List (Int × Int)) (n : Nat) (rs sz ss : List Int) (x y : V) : Prop :=
  (∃ (pq : Addr) (zs : List Int), x = .ref pq ∧ y = .non ∧ Plain H pq (zs.map V.int) ∧ partsD T n rs sz (tI zs) = true) ∨ (∃ (tq : Addr) (d : PyData), x = .non ∧ y = .ref tq ∧ Dq K H y d ∧ TreeOk T rs sz ss d)
theorem PorT.same {K : PySem.W.Frag} {H H' : Hp} {T : List (Int × Int)} {n : Nat} {rs sz ss : List Int} {x y : V} (s : Same H H') (h : PorT K H T n rs sz ss x y) : PorT K H' T n rs sz ss x y := by
  rcases h with ⟨pq, zs, rfl, rfl, h1, h2⟩ | ⟨tq, d, rfl, rfl, h1, h2⟩
  · exact .inl ⟨pq, zs, rfl, rfl, h1.same s, h2⟩
  · exact .inr ⟨tq, d, rfl, rfl, Dq.same s h1, h2⟩
def spPT (K : PySem.W.Frag) (m : Nat) : Sp := fun vs H Q _ => ∃ (nr dq st : Addr) (n : Nat) (T : List (Int × Int)) (rs sz ss : List Int), vs = [.ref nr, .ref dq, .ref st] ∧ TreeIn K H nr dq st n T rs sz ss ∧ sz.sum = n ∧ ss.count (-1) < m ∧
  ∀ (q : Addr) (x y : V) H', Same H H' → SqT K H' q [x, y] → PorT K H' T n rs sz ss x y → Q (.ref q) H'
def spFindParts (K : PySem.W.Frag) : Sp := fun vs H Q _ => ∃ (v : V) (dq : Addr) (n : Nat) (T : List (Int × Int)) (rs sz : List Int), vs = [v, .ref dq] ∧ Dq K H v (webD n T) ∧ WebOk n T ∧ 1 ≤ n ∧ n ≤ 12 ∧ DealAt K H dq rs sz ∧ DealOk n rs sz ∧
  (∀ (pq : Addr) (zs : List Int) H', Same H H' → Plain H' pq (zs.map V.int) → partsD T n rs sz (tI zs) = true → Q (.ref pq) H') ∧ ((∀ zs, partsD T n rs sz (tI zs) = false) → ∀ H', Same H H' → Q .non H')
def spFindTree (K : PySem.W.Frag) : Sp := fun vs H Q _ => ∃ (v : V) (dq : Addr) (n : Nat) (T : List (Int × Int)) (rs sz : List Int), vs = [v, .ref dq] ∧ Dq K H v (webD n T) ∧ WebOk n T ∧ 1 ≤ n ∧ n ≤ 12 ∧ DealAt K H dq rs sz ∧ DealOk n rs sz ∧
  (∀ (tq : Addr) d H', Same H H' → Dq K H' (.ref tq) d → TreeOk T rs sz (firstS n rs) d → (∀ zs, partsD T n rs sz (tI zs) = false) → Q (.ref tq) H') ∧ (∀ zs, partsD T n rs sz (tI zs) = true → ∀ H', Same H H' → Q .non H')
end My

set_option Elab.async false
set_option linter.all false
set_option maxRecDepth 100000
set_option maxHeartbeats 4000000
namespace My
open PySem PySem.Spec PyProof.Rows L2
/-! ### comprehensions over enumerate, and with a pair as the target -/
theorem lc_enumL {K : PySem.W.Frag} {a : Addr} {xs : List V} {g : TG} {tt : TT} {te : TE} {vs : List Nat} {σ : L2.St} {H1 : Hp} {D : Addr} {Qd : Hp → Prop} (Pv : Nat → Hp → Prop) (h0 : Pv 0 (upd H1 D (.lst [])))
    (hq : ∀ i H, Pv i H → SqL K H a xs)
    (hs : ∀ (i : Nat) (x : V) (T : Addr) (H : Hp), xs[i]? = some x → Pv i H → H T = none → g (.ref T) (wipe σ vs) (upd H T (.tup [.int (i : Nat), x])) fun σ2 H2 => wipe σ2 vs = wipe σ vs ∧ tt σ2 H2 fun b H3 =>
      if b = true then te σ2 H3 fun z H4 => ∃ acc, H4 D = some (.lst acc) ∧ acc.length < sizeLine ∧ Pv (i + 1) (upd H4 D (.lst (acc ++ [z]))) else Pv (i + 1) H3) (hd : ∀ H, Pv xs.length H → Qd H) :
    ∃ W : Nat → Nat → Hp → Prop, (∃ m, W 0 m (upd H1 D (.lst []))) ∧ ∀ i m H, W i m H →
      ((Ite K a).stop i H ∧ Qd H) ∨ ((Ite K a).go i H ∧ ∃ Nx : Hp → Prop, (∀ H', Nx H' → ∃ m', m' < m ∧ W (i + 1) m' H') ∧ ∀ x H', (Ite K a).yld i H x H' → g x (wipe σ vs) H' fun σ2 H2 => wipe σ2 vs = wipe σ vs ∧ tt σ2 H2 fun b H3 =>
        if b = true then te σ2 H3 fun y H4 => ∃ acc, H4 D = some (.lst acc) ∧ acc.length < sizeLine ∧ Nx (upd H4 D (.lst (acc ++ [y]))) else Nx H3) := by
  refine ⟨fun i m H => m = xs.length - i ∧ i ≤ xs.length ∧ Pv i H, ⟨xs.length, rfl, Nat.zero_le _, h0⟩, ?_⟩
  rintro i m H ⟨rfl, hi, p⟩
  have qx := hq i H p
  by_cases hlt : i < xs.length
  · have hx : xs[i]? = some xs[i] := List.getElem?_eq_getElem hlt
    refine .inr ⟨⟨xs, _, qx, hx⟩, Pv (i + 1), fun H' p' => ⟨xs.length - (i + 1), by omega, rfl, hlt, p'⟩, fun v H' y => ?_⟩
    obtain ⟨T, x', rfl, hT, rfl, f1⟩ := y
    exact hs i x' T H (f1 xs qx) p hT
  · have e : i = xs.length := by omega
    subst e
    exact .inl ⟨⟨xs, qx, Nat.le_refl _⟩, hd H p⟩
section
variable {K : PySem.W.Frag} {av : List Addr} {H0 H1 : Hp} {σ : L2.St} {t t1 t2 t3 : TE} {ta tb : TA} {d e d1 d2 : PyData} {ds es : List PyData} {α : Type} {f F : α → PyData} {p : α → Bool} {l : List α}
theorem lc_step2 {g : TG} {tt : TT} {te : TE} {vs : List Nat} {i : Nat} {x : V} {a : α} {d : PyData} {D : Addr} {H3 : Hp} {us : List V} (hp1 : Avs av H1) (hD : H1 D = none) (ed : l[i]? = some a) (hl : l.length ≤ 10000)
    (hs : LcTurn K av H1 σ vs g tt te d (p a) (F a)) (s3 : Same H1 H3) (hx : Dq K (wos (D :: av) H3) x d) (eD : H3 D = some (.lst us)) (hus : DqAll K (wos (D :: av) H3) us (((l.take i).filter p).map F)) :
    g x (wipe σ vs) H3 fun σ2 H2 => wipe σ2 vs = wipe σ vs ∧ tt σ2 H2 fun b H4 => if b = true then te σ2 H4 fun y H5 => ∃ acc, H5 D = some (.lst acc) ∧ acc.length < sizeLine ∧ (Same H1 (upd H5 D (.lst (acc ++ [y]))) ∧ ∃ us, upd H5 D (.lst (acc ++ [y])) D = some (.lst us) ∧ DqAll K (wos (D :: av) (upd H5 D (.lst (acc ++ [y])))) us (((l.take (i + 1)).filter p).map F))
      else (Same H1 H4 ∧ ∃ us, H4 D = some (.lst us) ∧ DqAll K (wos (D :: av) H4) us (((l.take (i + 1)).filter p).map F)) := by
  have hav3 : Avs (D :: av) H3 := fun b hb => by
    rcases List.mem_cons.mp hb with rfl | hb
    · exact ⟨_, eD⟩
    · exact hp1.same s3 b hb
  have hmore : Same (wos av H1) (wos (D :: av) H3) := fun b o e => by
    obtain ⟨n, e⟩ := wos_some e
    have nb : b ≠ D := fun z => by
      rw [z, hD] at e
      cases e
    rw [wos_in (by rw [List.mem_cons, not_or]; exact ⟨nb, n⟩)]
    exact s3 _ _ e
  refine hs x (D :: av) H3 (fun b hb => List.mem_cons_of_mem _ hb) hav3 hmore hx (fun y H5 => ∃ acc, H5 D = some (.lst acc) ∧ acc.length < sizeLine ∧ (Same H1 (upd H5 D (.lst (acc ++ [y]))) ∧ ∃ us, upd H5 D (.lst (acc ++ [y])) D = some (.lst us) ∧ DqAll K (wos (D :: av) (upd H5 D (.lst (acc ++ [y])))) us (((l.take (i + 1)).filter p).map F)))
    (fun H4 => Same H1 H4 ∧ ∃ us, H4 D = some (.lst us) ∧ DqAll K (wos (D :: av) H4) us (((l.take (i + 1)).filter p).map F)) (fun y H4 s4 hy hp => ?_) (fun H4 s4 hp => ?_)
  · have hul := hus.len
    rw [List.length_map] at hul
    have hfl := List.length_filter_le p (l.take i)
    have hdl : (l.take i).length ≤ l.length := by rw [List.length_take]; omega
    have k3 : Same (wos (D :: av) H4) (wos (D :: av) (upd H4 D (.lst (us ++ [y])))) := wos_put
    refine ⟨us, s4 _ _ eD, by rw [hul, sizeLine_eq]; omega, My.Same.updD (s3.trans s4) hD, us ++ [y], upd_same, ?_⟩
    rw [take_filter ed, if_pos hp, List.map_append]
    exact DqAll.append (DqAll.same ((My.Same.wos s4).trans k3) hus) (.cons (Dq.same k3 hy) .nil)
  · refine ⟨s3.trans s4, us, s4 _ _ eD, ?_⟩
    rw [take_filter ed, if_neg (by rw [hp]; decide), List.append_nil]
    exact DqAll.same (My.Same.wos s4) hus
end
section
variable {K : PySem.W.Frag} {av : List Addr} {H0 H1 : Hp} {σ : L2.St} {t t1 t2 t3 : TE} {ta tb : TA} {d e d1 d2 : PyData} {ds es : List PyData} {α : Type} {f : α → PyData} {F : α × Nat → PyData} {p : α × Nat → Bool} {l : List α}
theorem zipIdx_at {i : Nat} {a : α} (h : l[i]? = some a) : l.zipIdx[i]? = some (a, i) := by
  rw [List.getElem?_zipIdx, h]
  simp
/-- .. for i, x in enumerate(t), t a tuple -/
theorem EvN.lcET {g : TG} {tt : TT} {te : TE} {vs : List Nat} (hp : Avs av H0) (h : EvQ K av H0 σ t (.tuple (l.map f))) (hl : l.length ≤ 10000) (hs : ∀ a i, l[i]? = some a → ∀ H1, Same H0 H1 → LcTurn K av H1 σ vs g tt te (.tuple [.int (i : Nat), f a]) (p (a, i)) (F (a, i))) :
    EvN K av H0 σ (tLc (iEnumT K (tCons t tNil)) g tt te vs) ((l.zipIdx.filter p).map F) := fun H s Q q => by
  refine h H s _ fun x H1 s1 hx => ?_
  obtain ⟨a, xs, rfl, hT, hxs⟩ := hx.un_tup
  refine ⟨a, xs, rfl, My.Same.sqt wos_le hT, fun D hD => ?_⟩
  have hlen := hxs.len
  rw [List.length_map] at hlen
  have hp1 := hp.same (s.trans s1)
  have nD := hp1.fresh hD
  refine lc_enumT (xs := xs) (fun j H3 => Same H1 H3 ∧ ∃ us, H3 D = some (.lst us) ∧ DqAll K (wos (D :: av) H3) us (((l.zipIdx.take j).filter p).map F)) ⟨My.Same.new hD, [], upd_same, .nil⟩ (fun j H3 hP => My.Same.sqt hP.1 (My.Same.sqt wos_le hT)) ?_ ?_
  · rintro i x T H3 ex ⟨s3, us, eD, hus⟩ hT3
    obtain ⟨d, ed, hd⟩ := hxs.get ex
    obtain ⟨a, ea, rfl⟩ := map_at ed
    have sT := My.Same.new (o := HO.tup [V.int (i : Nat), x]) hT3
    have nT : T ∉ D :: av := fun h => by
      rcases List.mem_cons.mp h with rfl | h
      · rw [eD] at hT3
        cases hT3
      · obtain ⟨o, ho⟩ := hp1 T h
        rw [s3 _ _ ho] at hT3
        cases hT3
    have hmore : Same (wos av H1) (wos (D :: av) (upd H3 T (.tup [.int (i : Nat), x]))) := fun b o e => by
      obtain ⟨n, e⟩ := wos_some e
      have nb : b ≠ D := fun z => by
        rw [z, hD] at e
        cases e
      rw [wos_in (by rw [List.mem_cons, not_or]; exact ⟨nb, n⟩)]
      exact sT _ _ (s3 _ _ e)
    exact lc_step2 hp1 hD (zipIdx_at ea) (by rw [List.length_zipIdx]; omega) (hs a i ea H1 (s.trans s1)) (s3.trans sT) (.tup (SqT.of ((wos_in nT).trans upd_same)) (.cons (.int _) (.cons (Dq.same hmore hd) .nil))) (sT _ _ eD) (DqAll.same (My.Same.wos sT) hus)
  · rintro H3 ⟨s3, us, eD, hus⟩
    rw [hlen, List.take_of_length_le (by rw [List.length_zipIdx]; exact Nat.le_refl _)] at hus
    exact q D us H3 (s1.free hD) (s1.trans s3) eD nD (lc_end hus)
/-- a turn whose target is a pair -/
theorem LcTurn.pair {te tt : TE} {vs : List Nat} {i j : Nat} {b : Bool} (hw : ∀ x y : V, wipe (((wipe σ vs).set i (some x)).set j (some y)) vs = wipe σ vs) (hs : ∀ (x y : V) (av' : List Addr) (H1 : Hp), (∀ b ∈ av, b ∈ av') → Avs av' H1 → Same (wos av H0) (wos av' H1) → Dq K (wos av' H1) x d1 → Dq K (wos av' H1) y d2 → EvQ K av' H1 (((wipe σ vs).set i (some x)).set j (some y)) tt (.bool b) ∧ (b = true → EvQ K av' H1 (((wipe σ vs).set i (some x)).set j (some y)) te e)) :
    LcTurn K av H0 σ vs (gTup K 2 (gCons (gName i) (gCons (gName j) gNil))) (tTest tt) te (.tuple [d1, d2]) b e := fun x av' H1 hin hav sw hx R N r nn => by
  obtain ⟨T, xs, rfl, hT, hxs⟩ := hx.un_tup
  cases hxs with
  | cons hv1 hxs =>
    cases hxs with
    | cons hv2 hxs =>
      cases hxs
      obtain ⟨h1, h2⟩ := hs _ _ av' H1 hin hav sw hv1 hv2
      refine ⟨T, _, rfl, My.Same.sqt wos_le hT, rfl, _, _, rfl, _, _, rfl, rfl, hw _ _, h1 H1 (Same.refl _) _ fun y H' s hy => ?_⟩
      cases hy
      refine ⟨b, rfl, ?_⟩
      cases b with
      | true => exact iteT (h2 rfl H' s R fun y H'' s' hy => r y H'' (s.trans s') hy rfl)
      | false => exact iteF (nn H' s rfl)
theorem LcTurn.pairY {te : TE} {vs : List Nat} {i j : Nat} (hw : ∀ x y : V, wipe (((wipe σ vs).set i (some x)).set j (some y)) vs = wipe σ vs) (hs : ∀ (x y : V) (av' : List Addr) (H1 : Hp), (∀ b ∈ av, b ∈ av') → Avs av' H1 → Same (wos av H0) (wos av' H1) → Dq K (wos av' H1) x d1 → Dq K (wos av' H1) y d2 → EvQ K av' H1 (((wipe σ vs).set i (some x)).set j (some y)) te e) :
    LcTurn K av H0 σ vs (gTup K 2 (gCons (gName i) (gCons (gName j) gNil))) tYes te (.tuple [d1, d2]) true e := fun x av' H1 hin hav sw hx R N r _ => by
  obtain ⟨T, xs, rfl, hT, hxs⟩ := hx.un_tup
  cases hxs with
  | cons hv1 hxs =>
    cases hxs with
    | cons hv2 hxs =>
      cases hxs
      exact ⟨T, _, rfl, My.Same.sqt wos_le hT, rfl, _, _, rfl, _, _, rfl, rfl, hw _ _, hs _ _ av' H1 hin hav sw hv1 hv2 H1 (Same.refl _) R fun y H' s hy => r y H' s hy rfl⟩
end
section
variable {K : PySem.W.Frag} {av : List Addr} {H0 H1 : Hp} {σ : L2.St} {t t1 t2 t3 : TE} {d e : PyData} {ds es : List PyData}
/-- .. for i, x in enumerate(xs), xs a list that is data -/
theorem Dq.lst_at {H : Hp} {v : V} (h : Dq K H v (.list ds)) : ∃ a xs, v = .ref a ∧ SqL K H a xs ∧ DqAll K H xs ds := Dq.un_lst h
theorem EvN.lcEL {α : Type} {f : α → PyData} {F : α × Nat → PyData} {p : α × Nat → Bool} {l : List α} {g : TG} {tt : TT} {te : TE} {vs : List Nat} (hp : Avs av H0) (h : EvQ K av H0 σ t (.list (l.map f))) (hl : l.length ≤ 10000) (hs : ∀ a i, l[i]? = some a → ∀ H1, Same H0 H1 → LcTurn K av H1 σ vs g tt te (.tuple [.int (i : Nat), f a]) (p (a, i)) (F (a, i))) :
    EvN K av H0 σ (tLc (iEnum K (tCons t tNil)) g tt te vs) ((l.zipIdx.filter p).map F) := fun H s Q q => by
  refine h H s _ fun x H1 s1 hx => ?_
  obtain ⟨a, xs, rfl, hT, hxs⟩ := hx.un_lst
  have hT := wos_le.seq hT
  refine ⟨a, xs, rfl, hT, fun D hD => ?_⟩
  have hlen := hxs.len
  rw [List.length_map] at hlen
  have hp1 := hp.same (s.trans s1)
  have nD := hp1.fresh hD
  refine lc_enumL (xs := xs) (fun j H3 => Same H1 H3 ∧ ∃ us, H3 D = some (.lst us) ∧ DqAll K (wos (D :: av) H3) us (((l.zipIdx.take j).filter p).map F)) ⟨My.Same.new hD, [], upd_same, .nil⟩ (fun j H3 hP => hP.1.seq hT) ?_ ?_
  · rintro i x T H3 ex ⟨s3, us, eD, hus⟩ hT3
    obtain ⟨d, ed, hd⟩ := hxs.get ex
    obtain ⟨a, ea, rfl⟩ := map_at ed
    have sT := My.Same.new (o := HO.tup [V.int (i : Nat), x]) hT3
    have nT : T ∉ D :: av := fun h => by
      rcases List.mem_cons.mp h with rfl | h
      · rw [eD] at hT3
        cases hT3
      · obtain ⟨o, ho⟩ := hp1 T h
        rw [s3 _ _ ho] at hT3
        cases hT3
    have hmore : Same (wos av H1) (wos (D :: av) (upd H3 T (.tup [.int (i : Nat), x]))) := fun b o e => by
      obtain ⟨n, e⟩ := wos_some e
      have nb : b ≠ D := fun z => by
        rw [z, hD] at e
        cases e
      rw [wos_in (by rw [List.mem_cons, not_or]; exact ⟨nb, n⟩)]
      exact sT _ _ (s3 _ _ e)
    exact lc_step2 hp1 hD (zipIdx_at ea) (by rw [List.length_zipIdx]; omega) (hs a i ea H1 (s.trans s1)) (s3.trans sT) (.tup (SqT.of ((wos_in nT).trans upd_same)) (.cons (.int _) (.cons (Dq.same hmore hd) .nil))) (sT _ _ eD) (DqAll.same (My.Same.wos sT) hus)
  · rintro H3 ⟨s3, us, eD, hus⟩
    rw [hlen, List.take_of_length_le (by rw [List.length_zipIdx]; exact Nat.le_refl _)] at hus
    exact q D us H3 (s1.free hD) (s1.trans s3) eD nD (lc_end hus)
/-- x in t, x in xs -/
theorem EvQ.inT {k : Int} {ns : List Int} (h1 : EvQ K av H0 σ t1 (.int k)) (h2 : EvQ K av H0 σ t2 (.tuple (ns.map PyData.int))) : EvQ K av H0 σ (tOp (rIn K false) t1 t2) (.bool (decide (k ∈ ns))) := fun H s Q q =>
  h1 H s _ fun x H1 s1 hx => by
    cases hx
    refine h2 H1 (s.trans s1) _ fun y H2 s2 hy => ?_
    obtain ⟨a, rfl, hT⟩ := Dq.sqI2 hy
    refine ⟨a, _, rfl, .inr (My.Same.sqt wos_le hT), rfl, flat_ints, ?_⟩
    show Q (V.bl (inV (.int k) (ns.map V.int))) H2
    rw [inV_ints]
    exact q _ _ (s1.trans s2) (.bl _)
theorem EvQ.inLs {k : Int} {ns : List Int} (h1 : EvQ K av H0 σ t1 (.int k)) (h2 : EvQ K av H0 σ t2 (.list (ns.map PyData.int))) : EvQ K av H0 σ (tOp (rIn K false) t1 t2) (.bool (decide (k ∈ ns))) := fun H s Q q =>
  h1 H s _ fun x H1 s1 hx => by
    cases hx
    refine h2 H1 (s.trans s1) _ fun y H2 s2 hy => ?_
    obtain ⟨a, xs, rfl, hT, hxs⟩ := hy.un_lst
    have e := hxs.intsV
    subst e
    refine ⟨a, _, rfl, .inl (wos_le.seq hT), rfl, flat_ints, ?_⟩
    show Q (V.bl (inV (.int k) (ns.map V.int))) H2
    rw [inV_ints]
    exact q _ _ (s1.trans s2) (.bl _)
theorem EvQ.notInLs {k : Int} {ns : List Int} (h1 : EvQ K av H0 σ t1 (.int k)) (h2 : EvQ K av H0 σ t2 (.list (ns.map PyData.int))) : EvQ K av H0 σ (tOp (rIn K true) t1 t2) (.bool (!decide (k ∈ ns))) := fun H s Q q =>
  h1 H s _ fun x H1 s1 hx => by
    cases hx
    refine h2 H1 (s.trans s1) _ fun y H2 s2 hy => ?_
    obtain ⟨a, xs, rfl, hT, hxs⟩ := hy.un_lst
    have e := hxs.intsV
    subst e
    refine ⟨a, _, rfl, .inl (wos_le.seq hT), rfl, flat_ints, ?_⟩
    show Q (V.bl (!inV (.int k) (ns.map V.int))) H2
    rw [inV_ints]
    exact q _ _ (s1.trans s2) (.bl _)
theorem EvQ.notInT {k : Int} {ns : List Int} (h1 : EvQ K av H0 σ t1 (.int k)) (h2 : EvQ K av H0 σ t2 (.tuple (ns.map PyData.int))) : EvQ K av H0 σ (tOp (rIn K true) t1 t2) (.bool (!decide (k ∈ ns))) := fun H s Q q =>
  h1 H s _ fun x H1 s1 hx => by
    cases hx
    refine h2 H1 (s.trans s1) _ fun y H2 s2 hy => ?_
    obtain ⟨a, rfl, hT⟩ := Dq.sqI2 hy
    refine ⟨a, _, rfl, .inr (My.Same.sqt wos_le hT), rfl, flat_ints, ?_⟩
    show Q (V.bl (!inV (.int k) (ns.map V.int))) H2
    rw [inV_ints]
    exact q _ _ (s1.trans s2) (.bl _)
theorem EvQ.lenLs (h : EvQ K av H0 σ t (.list ds)) : EvQ K av H0 σ (tCB (rLenQ K) (tCons t tNil)) (.int (ds.length : Int)) := fun H s Q q =>
  h H s _ fun x H1 s1 hx => by
    obtain ⟨a, xs, rfl, hT, hxs⟩ := hx.un_lst
    refine ⟨a, xs, rfl, .inl (wos_le.seq hT), ?_⟩
    rw [hxs.len]
    exact q _ _ s1 (.int _)
/-- a and b, as a value -/
theorem EvQ.and {b c : Bool} (h1 : EvQ K av H0 σ t1 (.bool b)) (h2 : EvQ K av H0 σ t2 (.bool c)) : EvQ K av H0 σ (tAndV t1 t2) (.bool (b && c)) := fun H s Q q =>
  h1 H s _ fun x H1 s1 hx => by
    cases hx
    refine ⟨b, rfl, ?_⟩
    cases b with
    | true => exact iteT (h2 H1 (s.trans s1) _ fun y H2 s2 hy => q y H2 (s1.trans s2) (by simpa using hy))
    | false => exact iteF (q _ _ s1 (.bl false))
theorem EvQ.anyL {bs : List Bool} (h : EvL K av H0 σ t (bs.map PyData.bool)) : EvQ K av H0 σ (tCB (rAny K) (tCons t tNil)) (.bool (bs.any id)) := fun H s Q q =>
  h H s _ fun a xs H1 s1 ea _ hx => by
    have e : xs = bs.map V.bl := by
      clear q h ea
      induction bs generalizing xs with
      | nil => cases hx; rfl
      | cons b bs ih =>
        cases hx with
        | cons h1 h2 =>
          cases h1
          rw [ih _ h2]
          rfl
    subst e
    exact ⟨a, bs, rfl, SqL.of ea, q _ _ s1 (.bl _)⟩
theorem EvQ.sumB {bs : List Bool} (h : EvL K av H0 σ t (bs.map PyData.bool)) : EvQ K av H0 σ (tCB (rSumB K) (tCons t tNil)) (.int ((bs.countP id : Nat) : Int)) := fun H s Q q =>
  h H s _ fun a xs H1 s1 ea _ hx => by
    have e : xs = bs.map V.bl := by
      clear q h ea
      induction bs generalizing xs with
      | nil => cases hx; rfl
      | cons b bs ih =>
        cases hx with
        | cons h1 h2 =>
          cases h1
          rw [ih _ h2]
          rfl
    subst e
    exact ⟨a, bs, rfl, SqL.of ea, q _ _ s1 (.int _)⟩
end
end My

set_option Elab.async false
set_option linter.all false
set_option maxRecDepth 100000
set_option maxHeartbeats 4000000
namespace My
open PySem PySem.Spec PyProof.Rows L2
section
variable {K : PySem.W.Frag} {av : List Addr} {H0 H1 : Hp} {σ : L2.St} {t t1 t2 t3 : TE} {d e : PyData} {ds es : List PyData}
theorem EvQ.idxD {j : Nat} (h1 : EvQ K av H0 σ t1 (.tuple ds)) (h2 : EvQ K av H0 σ t2 (.int (j : Int))) (hd : ds[j]? = some d) : EvQ K av H0 σ (tOp (rIxT K) t1 t2) d := fun H s Q q =>
  h1 H s _ fun x H1 s1 hx => by
    obtain ⟨a, xs, rfl, hT, hxs⟩ := hx.un_tup
    refine h2 H1 (s.trans s1) _ fun y H2 s2 hy => ?_
    cases hy
    have hj : j < xs.length := by
      rw [hxs.len]
      exact (List.getElem?_eq_some_iff.mp hd).1
    obtain ⟨v, e1, e2⟩ := at_get (xs := xs) (i := (j : Int)) (by omega) (by omega)
    rw [Int.toNat_natCast] at e1
    obtain ⟨d', e3, e4⟩ := hxs.get e1
    rw [hd] at e3
    cases e3
    exact ⟨a, xs, _, v, rfl, rfl, My.Same.sqt (wos_le.trans s2) hT, e2, q _ _ (s1.trans s2) (Dq.same (My.Same.wos s2) e4)⟩
theorem EvQ.idxLs {j : Nat} (h1 : EvQ K av H0 σ t1 (.list ds)) (h2 : EvQ K av H0 σ t2 (.int (j : Int))) (hd : ds[j]? = some d) : EvQ K av H0 σ (tOp (rIxL K) t1 t2) d := fun H s Q q =>
  h1 H s _ fun x H1 s1 hx => by
    obtain ⟨a, xs, rfl, hT, hxs⟩ := hx.un_lst
    refine h2 H1 (s.trans s1) _ fun y H2 s2 hy => ?_
    cases hy
    have hj : j < xs.length := by
      rw [hxs.len]
      exact (List.getElem?_eq_some_iff.mp hd).1
    obtain ⟨v, e1, e2⟩ := at_get (xs := xs) (i := (j : Int)) (by omega) (by omega)
    rw [Int.toNat_natCast] at e1
    obtain ⟨d', e3, e4⟩ := hxs.get e1
    rw [hd] at e3
    cases e3
    exact ⟨a, xs, _, v, rfl, rfl, (wos_le.trans s2).seq hT, e2, q _ _ (s1.trans s2) (Dq.same (My.Same.wos s2) e4)⟩
theorem EvQ.count {i : Nat} {st : Addr} {ss : List Int} {k : Int} (e : σ[i]? = some (some (.ref st))) (hP : Plain (wos av H0) st (ss.map V.int)) (h2 : EvQ K av H0 σ t2 (.int k)) : EvQ K av H0 σ (tBF (rCountT K) (tVar i) (tCons t2 tNil)) (.int ((ss.count k : Nat) : Int)) := fun H s Q q => by
  have hP2 := hP.same (wos_le.trans s)
  refine ⟨_, e, ⟨st, _, rfl, hP2⟩, h2 H s _ fun y H2 s2 hy => ?_⟩
  cases hy
  exact ⟨st, ss, k, rfl, rfl, (hP2.same s2).sqt, q _ _ s2 (.int _)⟩
theorem EvQ.eqI {a b : Int} (h1 : EvQ K av H0 σ t1 (.int a)) (h2 : EvQ K av H0 σ t2 (.int b)) : EvQ K av H0 σ (tOp rEq t1 t2) (.bool (decide (a = b))) := fun H s Q q =>
  h1 H s _ fun x H1 s1 hx => by
    cases hx
    exact h2 H1 (s.trans s1) _ fun y H2 s2 hy => by
      cases hy
      refine ⟨rfl, ?_⟩
      rw [dInt_iff (p := a = b) Iff.rfl]
      exact q _ _ (s1.trans s2) (.bl _)
theorem EvQ.plain {i : Nat} {st : Addr} {ss : List Int} (e : σ[i]? = some (some (.ref st))) (hP : Plain (wos av H0) st (ss.map V.int)) : EvQ K av H0 σ (tVar i) (.tuple (ss.map PyData.int)) := EvQ.var e (Dq.ofTI hP.sqt)
/-- data as an expression's value, told by a name -/
theorem DealAt.nil {H : Hp} {a : Addr} {rs sz : List Int} (h : DealAt K H a rs sz) : Dq K (wos [] H) (.ref a) (.tuple [tI rs, tI sz]) := Dq.same wo_nil h.dq
end
theorem zipIdx_mapG {α β : Type} (G : α → Nat → β) (l : List α) (d : α) : (l.zipIdx.map fun q => G q.1 q.2) = (List.range l.length).map fun p => G (l.getD p d) p := by
  refine List.ext_getElem? fun i => ?_
  rw [List.getElem?_map, List.getElem?_map]
  by_cases h : i < l.length
  · rw [zipIdx_at (List.getElem?_eq_getElem h), List.getElem?_range h]
    show some (G l[i] i) = some (G (l.getD i d) i)
    rw [List.getD_eq_getElem?_getD, List.getElem?_eq_getElem h]
    rfl
  · rw [List.getElem?_eq_none (l := l.zipIdx) (by rw [List.length_zipIdx]; omega), List.getElem?_eq_none (l := List.range l.length) (by rw [List.length_range]; omega)]
    rfl
/-- an if told by an expression -/
theorem if_Q {K : PySem.W.Frag} {av : List Addr} {σ : L2.St} {t : TE} {T U : TS} {D : Ends} {H : Hp} {b : Bool} (h : EvQ K av H σ t (.bool b)) (r : ∀ H', Same H H' → if b = true then T D σ H' else U D σ H') : tIfS (tTest t) T U D σ H :=
  h H (Same.refl _) _ fun x H' s hx => by
    cases hx
    exact ⟨b, rfl, r H' s⟩
theorem if_B {K : PySem.W.Frag} {av : List Addr} {σ : L2.St} {t : TE} {T U : TS} {D : Ends} {H : Hp} {b : Bool} (h : EvQ K av H σ t (.bool b)) (r : ∀ H', Same H H' → if b = true then T D σ H' else U D σ H') : tIfS (tB t) T U D σ H :=
  h H (Same.refl _) _ fun x H' s hx => by
    cases hx
    exact ⟨b, rfl, r H' s⟩
def spFirstP (K : PySem.W.Frag) : Sp := fun vs H Q _ => ∃ (v : V) (da : Addr) (n : Nat) (e : PyData) (rs ss : List Int), vs = [v, .ref da] ∧ Dq K H v (.tuple [.int n, e]) ∧ DealAt K H da rs ss ∧ n ≤ 100 ∧
  ∀ (a : Addr) H', Same H H' → Plain H' a ((firstS n rs).map V.int) → Q (.ref a) H'
end My
namespace My
open PySem PySem.Spec PyProof.Rows L2
theorem EvQ.neg {K : PySem.W.Frag} {av : List Addr} {H0 : Hp} {σ : L2.St} {t : TE} {a : Int} (h : EvQ K av H0 σ t (.int a)) : EvQ K av H0 σ (tUn (rU fun i => V.int (-i)) t) (.int (-a)) := fun H s Q q =>
  h H s _ fun x H1 s1 hx => by
    cases hx
    exact ⟨a, rfl, q _ _ s1 (.int _)⟩
theorem NearAt.dq {K : PySem.W.Frag} {H : Hp} {a : Addr} {n : Nat} {T : List (Int × Int)} (h : NearAt K H a n T) : Dq K H (.ref a) (.list ((List.range n).map fun i : Nat => .tuple ((nearS T (i : Int)).map PyData.int))) := by
  obtain ⟨us, h1, h2, h3⟩ := h
  refine .lst h1 ?_
  have : ∀ (us : List V) (k m : Nat), us.length = m → (∀ (i : Nat) (x : V), us[i]? = some x → ∃ t, x = .ref t ∧ SqT K H t ((nearS T ((k + i : Nat) : Int)).map V.int)) → DqAll K H us ((List.range' k m).map fun i : Nat => .tuple ((nearS T (i : Int)).map PyData.int)) := fun us => by
    induction us with
    | nil => intro k m hm _; subst hm; exact .nil
    | cons u us ih =>
      intro k m hm h
      subst hm
      rw [List.length_cons, List.range'_succ, List.map_cons]
      obtain ⟨t, rfl, ht⟩ := h 0 u rfl
      refine .cons (Dq.ofTI ht) (ih (k + 1) us.length rfl fun i x e => ?_)
      have := h (i + 1) x (by simpa using e)
      rw [show k + (i + 1) = k + 1 + i by omega] at this
      exact this
  rw [List.range_eq_range']
  exact this us 0 n h2 fun i x e => by
    rw [Nat.zero_add]
    exact h3 i x e
theorem wos_one {D : Addr} {H : Hp} : Same (wos [D] H) (wo D H) := fun b o e => by
  obtain ⟨n, e⟩ := wos_some e
  rw [wo_ne fun z => n (List.mem_singleton.mpr z)]
  exact e
/-- one more item of data at a list that grows -/
theorem grow {K : PySem.W.Frag} {D : Addr} {H : Hp} {us : List V} {ds : List PyData} {y : V} {d : PyData} (hus : DqAll K (wo D H) us ds) (hy : Dq K (wo D H) y d) : DqAll K (wo D (upd H D (.lst (us ++ [y])))) (us ++ [y]) (ds ++ [d]) :=
  DqAll.append (DqAll.same My.Same.put hus) (.cons (Dq.same My.Same.put hy) .nil)
end My

set_option Elab.async false
set_option linter.all false
set_option maxRecDepth 100000
set_option maxHeartbeats 4000000
namespace My
open PySem PySem.Spec PyProof.Rows L2
theorem noLAll_of : ∀ {ds : List PyData}, (∀ (i : Nat) d, ds[i]? = some d → noL d = true) → noLAll ds = true
  | [], _ => by simp [noLAll]
  | d :: ds, h => by
    have h1 := h 0 d (by simp)
    have h2 := noLAll_of (ds := ds) fun i d e => h (i + 1) d (by simpa using e)
    simp [noLAll, h1, h2]
theorem TreeOk.noL {T : List (Int × Int)} {rs sz ss : List Int} {d : PyData} (h : TreeOk T rs sz ss d) : My.noL d = true := by
  induction h with
  | leaf _ hl => cases hl <;> simp [My.noL, noLAll]
  | cases _ _ _ ih =>
    have := noLAll_of ih
    simp [My.noL, noLAll, this]
theorem len_range {rs : List Int} {n : Nat} (nd : rs.Nodup) (h : ∀ x ∈ rs, 0 ≤ x ∧ x < n) : rs.length ≤ n := by
  have := len_sub (L := rs) (ns := ups n) nd fun x hx => mem_ups.mpr (h x hx)
  rw [ups_len] at this
  exact this
theorem DealOk.tree {K : PySem.W.Frag} {H : Hp} {nr dq st : Addr} {n : Nat} {T : List (Int × Int)} {rs sz : List Int} (h1 : NearAt K H nr n T) (hw : WebOk n T) (hn : n ≤ 12) (hd : DealAt K H dq rs sz) (h : DealOk n rs sz) (hs : Plain H st ((firstS n rs).map V.int)) : TreeIn K H nr dq st n T rs sz (firstS n rs) := by
  obtain ⟨a, b, c, d, e, g⟩ := h
  have := len_range a b
  exact ⟨h1, hw, hn, hd, b, by omega, d, hs, firstS_ok a b⟩
end My

set_option Elab.async false
set_option linter.all false
set_option maxRecDepth 100000
set_option maxHeartbeats 4000000
namespace My
open PySem PySem.Spec PyProof.Rows L2
/-! ### x not in l, l a list of data -/
section
variable {X : Cx}
def rNotInDL (K : PySem.W.Frag) : R2 := fun x y H Q => ∃ d ds, Dp K H x d ∧ Dp K H y (.list ds) ∧ d.canLay0 = true ∧ d.depth ≤ 8 ∧ PyData.canLayAll0 ds = true ∧ Q (.bl (!ds.any fun z => PyData.eqv z d)) H
theorem op_notInDL (hu : X.A.units + 64 < cLine) : OpR X (compareOp .NotIn) (rNotInDL X.K) := by
  intro pins s σ H x y v u Q I rx ry h
  obtain ⟨d, ds, hd, he, sd, dd, se, q⟩ := h
  obtain ⟨as, r1⟩ := Dp.reads I d x v hd rx
  obtain ⟨bs, r2⟩ := Dp.reads I (.list ds) y u he ry
  refine SeqAt.notIn_list_reads r2 r1 se sd ?_ ⟨.bl _, H, I, rfl, q⟩
  have : min (PyData.depthAll ds) d.depth ≤ d.depth := Nat.min_le_right _ _
  omega
theorem notInDL (K : PySem.W.Frag) (hu : X.A.units + 64 < cLine) (h : X.K = K := by rfl) : OpR X (compareOp .NotIn) (rNotInDL K) := by subst h; exact op_notInDL hu
end
theorem eqv_tIs : ∀ a b : List Int, PyData.eqv (tI a) (tI b) = decide (a = b) := by
  have h : ∀ a b : List Int, PyData.eqvAll (a.map PyData.int) (b.map PyData.int) = decide (a = b) := fun a => by
    induction a with
    | nil =>
      intro b
      cases b with
      | nil => rfl
      | cons y b => rfl
    | cons x a ih =>
      intro b
      cases b with
      | nil => rfl
      | cons y b =>
        rw [List.map_cons, List.map_cons]
        show ((x == y) && PyData.eqvAll _ _) = _
        rw [ih, Bool.eq_iff_iff, Bool.and_eq_true, decide_eq_true_eq, decide_eq_true_eq, List.cons.injEq, beq_iff_eq]
  intro a b
  exact h a b
theorem any_eqv {L : List (List Int)} {r : List Int} : ((L.map tI).any fun z => PyData.eqv z (tI r)) = decide (r ∈ L) := by
  induction L with
  | nil => rfl
  | cons t L ih =>
    rw [List.map_cons, List.any_cons, ih, eqv_tIs, Bool.eq_iff_iff, Bool.or_eq_true, decide_eq_true_eq, decide_eq_true_eq, decide_eq_true_eq, List.mem_cons]
    constructor
    · rintro (h | h)
      · exact .inl h.symm
      · exact .inr h
    · rintro (h | h)
      · exact .inl h.symm
      · exact .inr h
theorem notInTs {K : PySem.W.Frag} {H : Hp} {t : Addr} {v : V} {r : List Int} {L : List (List Int)} {Q : VK} (hp : SqT K H t (r.map V.int)) (hq : Dp K H v (.list (L.map tI))) (h : Q (.bl (!decide (r ∈ L))) H) : rNotInDL K (.ref t) v H Q :=
  ⟨tI r, L.map tI, Dp.ofTI hp, hq, by simpa only [tI, PyData.canLay0] using canLay_ints r, Nat.le_trans (depth_ints r) (by decide), (lay_tIs _).1, by rw [any_eqv]; exact h⟩
theorem eqv_nil {ds : List PyData} : PyData.eqv (.list ds) (.list []) = decide (ds = []) := by
  cases ds <;> rfl
/-- l == [] -/
theorem eq_nilD {K : PySem.W.Frag} {H : Hp} {v b : V} {ds : List (List Int)} {Q : VK} (ha : Dp K H v (.list (ds.map tI))) (hb : Dp K H b (.list [])) (q : Q (.bl (decide (ds = []))) H) : rEqD K v b H Q := by
  refine ⟨.list (ds.map tI), .list [], ha, hb, shaped_tIs, by decide, ?_⟩
  cases ds with
  | nil => exact q
  | cons d ds => exact q
theorem ne_nilD {K : PySem.W.Frag} {H : Hp} {v b : V} {ds : List (List Int)} {Q : VK} (ha : Dp K H v (.list (ds.map tI))) (hb : Dp K H b (.list [])) (q : Q (.bl (!decide (ds = []))) H) : rNeD K v b H Q := by
  refine ⟨.list (ds.map tI), .list [], ha, hb, shaped_tIs, by decide, ?_⟩
  cases ds with
  | nil => exact q
  | cons d ds => exact q
/-! ### all dealings with the roots in their parts -/
def optsL (k : Nat) (rs : List Int) (j : Int) : List Int := if j ∈ rs then [((ixOf rs j : Nat) : Int)] else ups k
def dealsL (k : Nat) (rs : List Int) : Nat → List (List Int)
  | 0 => [[]]
  | j + 1 => (dealsL k rs j).flatMap fun d => (optsL k rs (j : Int)).map fun i => d ++ [i]
theorem mem_dealsL {k : Nat} {rs : List Int} : ∀ {n : Nat} {r : List Int}, r ∈ dealsL k rs n ↔ r.length = n ∧ ∀ (j : Nat) z, r[j]? = some z → z ∈ optsL k rs (j : Int)
  | 0, r => by
    unfold dealsL
    rw [List.mem_singleton]
    constructor
    · rintro rfl
      exact ⟨rfl, fun j z e => by simp at e⟩
    · rintro ⟨h, _⟩
      exact List.length_eq_zero_iff.mp h
  | n + 1, r => by
    unfold dealsL
    rw [List.mem_flatMap]
    constructor
    · rintro ⟨d, hd, hr⟩
      obtain ⟨i, hi, rfl⟩ := List.mem_map.mp hr
      obtain ⟨h1, h2⟩ := mem_dealsL.mp hd
      refine ⟨by rw [List.length_append, h1]; rfl, fun j z e => ?_⟩
      by_cases hj : j < d.length
      · rw [List.getElem?_append_left hj] at e
        exact h2 j z e
      · have hjl := (List.getElem?_eq_some_iff.mp e).1
        rw [List.length_append] at hjl
        simp at hjl
        have : j = d.length := by omega
        subst this
        rw [List.getElem?_append_right (Nat.le_refl _), Nat.sub_self] at e
        cases e
        rw [h1]
        exact hi
    · rintro ⟨h1, h2⟩
      have hl : n < r.length := by omega
      refine ⟨r.take n, mem_dealsL.mpr ⟨by rw [List.length_take]; omega, fun j z e => ?_⟩, List.mem_map.mpr ⟨r[n], h2 n _ (List.getElem?_eq_getElem hl), ?_⟩⟩
      · rw [List.getElem?_take] at e
        split at e
        · exact h2 j z e
        · cases e
      · rw [← List.take_succ_eq_append_getElem hl, List.take_of_length_le (by omega)]
theorem mem_optsL {k : Nat} {rs : List Int} {j z : Int} (hk : rs.length = k) (h : z ∈ optsL k rs j) : 0 ≤ z ∧ z < k := by
  unfold optsL at h
  split at h
  · next hm =>
    rw [List.mem_singleton] at h
    have := ixOf_lt hm
    omega
  · exact mem_ups.mp h
theorem dealsL_bd {k n : Nat} {rs r : List Int} (hk : rs.length = k) (h : r ∈ dealsL k rs n) : DealtTo n k r := by
  obtain ⟨h1, h2⟩ := mem_dealsL.mp h
  refine ⟨h1, fun x hx => ?_⟩
  obtain ⟨j, hj, e⟩ := List.getElem_of_mem hx
  exact mem_optsL hk (h2 j x (by rw [List.getElem?_eq_getElem hj, e]))
/-- what is parts is among them -/
theorem parts_dealsL {T : List (Int × Int)} {n : Nat} {rs sz r : List Int} (hb : ∀ z ∈ rs, 0 ≤ z ∧ z < n) (h : partsD T n rs sz (tI r) = true) : r ∈ dealsL rs.length rs n := by
  obtain ⟨h1, h2, h3⟩ := parts_iff.mp h
  refine mem_dealsL.mpr ⟨h1, fun j z e => ?_⟩
  unfold optsL
  split
  · next hm =>
    have hl := ixOf_lt hm
    have := (h3 _ hl).1
    rw [getD_at (ixOf_at hm).1, Int.toNat_natCast, e] at this
    rw [List.mem_singleton]
    exact Option.some.inj this
  · exact mem_ups.mpr (h2 z (List.mem_of_getElem? e))
noncomputable def allPL (T : List (Int × Int)) (n : Nat) (rs sz : List Int) : List (List Int) := (dealsL rs.length rs n).filter fun r => partsD T n rs sz (tI r)
theorem mem_allPL {T : List (Int × Int)} {n : Nat} {rs sz r : List Int} (hb : ∀ z ∈ rs, 0 ≤ z ∧ z < n) : r ∈ allPL T n rs sz ↔ partsD T n rs sz (tI r) = true := by
  unfold allPL
  rw [List.mem_filter]
  exact ⟨fun h => h.2, fun h => ⟨parts_dealsL hb h, h⟩⟩
theorem allPL_nil {T : List (Int × Int)} {n : Nat} {rs sz : List Int} (hb : ∀ z ∈ rs, 0 ≤ z ∧ z < n) (h : ∀ zs, partsD T n rs sz (tI zs) = false) : allPL T n rs sz = [] := by
  refine List.eq_nil_iff_forall_not_mem.mpr fun r hr => ?_
  have := (mem_allPL hb).mp hr
  rw [h] at this
  cases this
/-! how many -/
theorem optsL_len {k : Nat} {rs : List Int} (j : Int) : (optsL k rs j).length = if j ∈ rs then 1 else k := by
  unfold optsL
  split
  · rfl
  · exact ups_len k
theorem dealsL_step {k : Nat} {rs : List Int} (j : Nat) : (dealsL k rs (j + 1)).length = (dealsL k rs j).length * (optsL k rs (j : Int)).length := by
  show ((dealsL k rs j).flatMap _).length = _
  generalize dealsL k rs j = L
  induction L with
  | nil => simp
  | cons d L ih =>
    rw [List.flatMap_cons, List.length_append, ih, List.length_map, List.length_cons, Nat.succ_mul]
    omega
theorem dealsL_mono {k : Nat} {rs : List Int} (hk : 1 ≤ k) (j : Nat) : ∀ m, (dealsL k rs j).length ≤ (dealsL k rs (j + m)).length
  | 0 => Nat.le_refl _
  | m + 1 => by
    refine Nat.le_trans (dealsL_mono hk j m) ?_
    rw [show j + (m + 1) = (j + m) + 1 by omega, dealsL_step]
    refine Nat.le_mul_of_pos_right _ ?_
    rw [optsL_len]
    split <;> omega
theorem countP_step {rs : List Int} (j : Nat) : rs.countP (fun z => decide (0 ≤ z ∧ z < ((j + 1 : Nat) : Int))) = rs.countP (fun z => decide (0 ≤ z ∧ z < (j : Int))) + rs.count (j : Int) := by
  induction rs with
  | nil => rfl
  | cons z rs ih =>
    rw [List.countP_cons, List.countP_cons, List.count_cons, ih]
    by_cases h1 : z = (j : Int)
    · subst h1
      rw [if_pos (decide_eq_true (by omega)), if_neg (by rw [decide_eq_true_eq]; omega), if_pos (by simp)]
      omega
    · rw [if_neg (show ¬ (z == (j : Int)) = true by simpa using h1)]
      by_cases h2 : 0 ≤ z ∧ z < (j : Int)
      · rw [if_pos (decide_eq_true (by omega)), if_pos (decide_eq_true h2)]
        omega
      · rw [if_neg (by rw [decide_eq_true_eq]; omega), if_neg (by rw [decide_eq_true_eq]; exact h2)]
        omega
theorem dealsL_pow {k : Nat} {rs : List Int} (nd : rs.Nodup) : ∀ j, (dealsL k rs j).length * k ^ (rs.countP fun z => decide (0 ≤ z ∧ z < (j : Int))) = k ^ j
  | 0 => by
    have : rs.countP (fun z => decide (0 ≤ z ∧ z < ((0 : Nat) : Int))) = 0 := by
      rw [List.countP_eq_zero]
      intro z _
      rw [decide_eq_true_eq]
      omega
    rw [this]
    rfl
  | j + 1 => by
    have ih := dealsL_pow (k := k) nd j
    rw [dealsL_step, countP_step, optsL_len]
    by_cases hm : (j : Int) ∈ rs
    · rw [if_pos hm, nd.count, if_pos hm, Nat.mul_one, Nat.pow_succ, ← Nat.mul_assoc, ih, Nat.pow_succ]
    · rw [if_neg hm, nd.count, if_neg hm, Nat.add_zero, Nat.mul_assoc, Nat.mul_comm k, ← Nat.mul_assoc, ih, Nat.pow_succ]
/-- few of few places -/
theorem dealsL_few {n j : Nat} {rs : List Int} (nd : rs.Nodup) (hb : ∀ z ∈ rs, 0 ≤ z ∧ z < n) (h1 : 1 ≤ rs.length) (h4 : rs.length ≤ 4) (hn : n ≤ 7) (hj : j ≤ n) : (dealsL rs.length rs j).length ≤ 1000 := by
  refine Nat.le_trans (by have := dealsL_mono (rs := rs) h1 j (n - j); rwa [show j + (n - j) = n by omega] at this) ?_
  have h := dealsL_pow (k := rs.length) nd n
  have : rs.countP (fun z => decide (0 ≤ z ∧ z < (n : Int))) = rs.length := List.countP_eq_length.mpr fun z hz => decide_eq_true (hb z hz)
  rw [this] at h
  have hp : rs.length ^ n ≤ rs.length ^ 7 := Nat.pow_le_pow_right h1 hn
  generalize (dealsL rs.length rs n).length = L at h
  generalize rs.length = k at *
  match k, h1, h4 with
  | 1, _, _ => simp at h; omega
  | 2, _, _ => have : (2 : Nat) ^ 7 = 128 := by decide
               have : (2 : Nat) ^ 2 = 4 := by decide
               omega
  | 3, _, _ => have : (3 : Nat) ^ 7 = 2187 := by decide
               have : (3 : Nat) ^ 3 = 27 := by decide
               omega
  | 4, _, _ => have : (4 : Nat) ^ 7 = 16384 := by decide
               have : (4 : Nat) ^ 4 = 256 := by decide
               omega
/-! what the law's defs promise -/
def spDealsX (K : PySem.W.Frag) : Sp := fun vs H Q _ => ∃ (n k : Nat) (ra : Addr) (rs : List Int), vs = [.int n, .int k, .ref ra] ∧ Plain H ra (rs.map V.int) ∧ rs.length = k ∧ 1 ≤ k ∧ k ≤ 5 ∧ n ≤ 7 ∧ (∀ j ≤ n, (dealsL k rs j).length ≤ 1000) ∧
  ∀ (a : Addr) H', Same H H' → LAt K [] H' a ((dealsL k rs n).map tI) → Q (.ref a) H'
def spAllX (K : PySem.W.Frag) : Sp := fun vs H Q _ => ∃ (v : V) (da : Addr) (n : Nat) (T : List (Int × Int)) (rs ss : List Int), vs = [v, .ref da] ∧ Dq K H v (webD n T) ∧ WebOk n T ∧ 1 ≤ n ∧ n ≤ 7 ∧ DealAt K H da rs ss ∧ (∀ y ∈ rs, 0 ≤ y ∧ y < n) ∧ ss.length = rs.length ∧ 1 ≤ rs.length ∧ rs.length ≤ 5 ∧ (∀ j ≤ n, (dealsL rs.length rs j).length ≤ 1000) ∧
  ∀ (a : Addr) H', Same H H' → LAt K [] H' a ((allPL T n rs ss).map tI) → Q (.ref a) H'
end My

set_option Elab.async false
set_option linter.all false
set_option maxRecDepth 100000
set_option maxHeartbeats 4000000
namespace My
open PySem PySem.Spec PyProof.Rows L2
theorem DqAll.dpTs {K : PySem.W.Frag} {H : Hp} : ∀ {L : List (List Int)} {xs : List V}, DqAll K H xs (L.map tI) → DpAll K H xs (L.map tI)
  | [], _, .nil => .nil
  | r :: L, _, .cons h t => by
    obtain ⟨a, rfl, hs⟩ := Dq.sqI2 h
    exact .cons (Dp.ofTI hs) (DqAll.dpTs t)
theorem LAt.dpTs {K : PySem.W.Frag} {H : Hp} {a : Addr} {L : List (List Int)} (h : LAt K [] H a (L.map tI)) : Dp K H (.ref a) (.list (L.map tI)) := by
  obtain ⟨_, xs, ea, hx⟩ := h
  exact .lst (SqL.of ea) (DqAll.dpTs (DqAll.same wos_le hx))
end My

set_option Elab.async false
set_option linter.all false
set_option maxRecDepth 100000
set_option maxHeartbeats 4000000
namespace My
open PySem PySem.Spec PyProof.Rows L2
/-! ### an order and the dealings along it -/
def toldL (os : List Int) (size n : Nat) : List Int := (ups n).map fun p => if p ∈ os.take size then 0 else 1
theorem toldL_len {os : List Int} {size n : Nat} : (toldL os size n).length = n := by
  unfold toldL
  rw [List.length_map, ups_len]
theorem toldL_at {os : List Int} {size n : Nat} {p : Int} (h : 0 ≤ p ∧ p < n) : (toldL os size n)[p.toNat]? = some (if p ∈ os.take size then 0 else 1) := by
  unfold toldL ups
  rw [List.getElem?_map, List.getElem?_map, List.getElem?_range (by omega)]
  show some (if ((p.toNat : Nat) : Int) ∈ os.take size then (0 : Int) else 1) = _
  rw [show ((p.toNat : Nat) : Int) = p by omega]
theorem mem_part0 {os : List Int} {size n : Nat} (hb : ∀ x ∈ os, 0 ≤ x ∧ x < n) {p : Int} : p ∈ partL (toldL os size n) ((0 : Nat) : Int) ↔ p ∈ os.take size := by
  rw [mem_part]
  constructor
  · rintro ⟨h0, h⟩
    have hl := (List.getElem?_eq_some_iff.mp h).1
    rw [toldL_len] at hl
    rw [toldL_at (by omega)] at h
    have := Option.some.inj h
    apply Classical.byContradiction
    intro hn
    rw [if_neg hn] at this
    omega
  · intro h
    have := hb p (List.mem_of_mem_take h)
    refine ⟨this.1, ?_⟩
    rw [toldL_at this, if_pos h]
    rfl
theorem mem_part1 {os : List Int} {size n : Nat} (hb : ∀ x ∈ os, 0 ≤ x ∧ x < n) (hf : ∀ x : Int, 0 ≤ x ∧ x < n → x ∈ os) (nd : os.Nodup) {p : Int} : p ∈ partL (toldL os size n) ((1 : Nat) : Int) ↔ p ∈ os.drop size := by
  have hdis : ∀ x ∈ os.take size, x ∉ os.drop size := fun x h1 h2 => by
    rw [← List.take_append_drop size os] at nd
    exact (List.nodup_append.mp nd).2.2 x h1 x h2 rfl
  rw [mem_part]
  constructor
  · rintro ⟨h0, h⟩
    have hl := (List.getElem?_eq_some_iff.mp h).1
    rw [toldL_len] at hl
    rw [toldL_at (by omega)] at h
    have := Option.some.inj h
    have hm := hf p (by omega)
    rw [← List.take_append_drop size os, List.mem_append] at hm
    rcases hm with hm | hm
    · rw [if_pos hm] at this
      cases this
    · exact hm
  · intro h
    have := hb p (List.mem_of_mem_drop h)
    refine ⟨this.1, ?_⟩
    rw [toldL_at this, if_neg (fun z => hdis p z h)]
    rfl
theorem len_eq {l m : List Int} (h1 : l.Nodup) (h2 : m.Nodup) (h : ∀ p, p ∈ l ↔ p ∈ m) : l.length = m.length :=
  Nat.le_antisymm (len_sub h1 fun k hk => (h k).mp hk) (len_sub h2 fun k hk => (h k).mpr hk)
/-- from the first place all first places are reached -/
theorem first_reach {T : List (Int × Int)} {n : Nat} {a b : Int} {os : List Int} (h : PartOrd T n a b os) {size : Nat} (hs : size < os.length) : ∀ j x, os[j]? = some x → j < size → Reach T (os.take size) a x := by
  intro j
  induction j using Nat.strongRecOn with
  | _ j ih =>
    intro x ex hj
    have hm : x ∈ os.take size := List.mem_of_getElem? (i := j) (by rw [List.getElem?_take, if_pos hj]; exact ex)
    by_cases h0 : j = 0
    · subst h0
      obtain ⟨r, e⟩ := h.head
      rw [e] at ex
      have : a = x := by simpa using ex
      rw [this]
      exact .base
    · obtain ⟨ht, _⟩ := h.at ex (by omega) (by omega)
      obtain ⟨y, hy, hyt⟩ := touchB_iff.mp ht
      obtain ⟨i, hi, ey⟩ := List.getElem_of_mem hyt
      rw [List.length_take] at hi
      rw [List.getElem_take] at ey
      have hij : i < j := by omega
      exact .step (ih i hij y (by rw [List.getElem?_eq_getElem (by omega), ey]) (by omega)) (near_symm hy) hm
/-- .. and from the last one all last places -/
theorem last_reach {T : List (Int × Int)} {n : Nat} {a b : Int} {os : List Int} (h : PartOrd T n a b os) {size : Nat} (hs : 1 ≤ size) : ∀ m j x, os[j]? = some x → size ≤ j → os.length - j = m → Reach T (os.drop size) b x := by
  intro m
  induction m using Nat.strongRecOn with
  | _ m ih =>
    intro j x ex hj hm
    have hjl := (List.getElem?_eq_some_iff.mp ex).1
    have hmem : x ∈ os.drop size := List.mem_of_getElem? (i := j - size) (by rw [List.getElem?_drop, show size + (j - size) = j by omega]; exact ex)
    by_cases hl : j + 1 = os.length
    · obtain ⟨l, e⟩ := h.last
      have : os[j]? = some b := by
        have hll : l.length = j := by
          have := congrArg List.length e
          simp at this
          omega
        rw [e, List.getElem?_append_right (by omega), hll]
        simp
      rw [this] at ex
      cases ex
      exact .base
    · obtain ⟨_, ht⟩ := h.at ex (by omega) (by omega)
      obtain ⟨y, hy, hyt⟩ := touchB_iff.mp ht
      obtain ⟨i, hi, ey⟩ := List.getElem_of_mem hyt
      rw [List.length_drop] at hi
      rw [List.getElem_drop] at ey
      exact .step (ih (os.length - (j + 1 + i)) (by omega) (j + 1 + i) y (by rw [List.getElem?_eq_getElem (by omega), ey]) (by omega) rfl) (near_symm hy) hmem
theorem order_parts {T : List (Int × Int)} {n : Nat} {a b : Int} {os : List Int} (h : PartOrd T n a b os) (hl : os.length = n) {size : Nat} (h1 : 1 ≤ size) (h2 : size < n) : partsD T n [a, b] [(size : Int), ((n : Int) - size)] (tI (toldL os size n)) = true := by
  have hfull : ∀ x : Int, 0 ≤ x ∧ x < n → x ∈ os := fun x hx => h.full hl hx
  have ha : a ∈ os.take size := by
    obtain ⟨r, e⟩ := h.head
    rw [e]
    obtain ⟨s, rfl⟩ : ∃ s, size = s + 1 := ⟨size - 1, by omega⟩
    simp
  have hb : b ∈ os.drop size := by
    obtain ⟨l, e⟩ := h.last
    have hll : l.length + 1 = n := by
      rw [← hl, e]
      simp
    rw [e, List.drop_append_of_le_length (by omega)]
    simp
  have hdis : b ∉ os.take size := fun z => by
    have nd := h.nd
    rw [← List.take_append_drop size os] at nd
    exact (List.nodup_append.mp nd).2.2 b z b hb rfl
  have hab := h.bd a (List.mem_of_mem_take ha)
  have hbb := h.bd b (List.mem_of_mem_drop hb)
  refine parts_iff.mpr ⟨toldL_len, fun z hz => ?_, fun i hi => ?_⟩
  · unfold toldL at hz
    obtain ⟨p, _, rfl⟩ := List.mem_map.mp hz
    split <;> simp
  · match i, hi with
    | 0, _ =>
      refine ⟨?_, ?_, ?_⟩
      · show (toldL os size n)[a.toNat]? = _
        rw [toldL_at hab, if_pos ha]
        rfl
      · have := len_eq (part_nodup (zs := toldL os size n) (i := ((0 : Nat) : Int))) (List.Sublist.nodup (List.take_sublist size os) h.nd) fun p => mem_part0 h.bd
        rw [this, List.length_take]
        show ((min size os.length : Nat) : Int) = (size : Int)
        omega
      · refine hangs_of (n := n) (fun y hy => h.bd y (List.mem_of_mem_take ((mem_part0 h.bd).mp hy))) ((mem_part0 h.bd).mpr ha) fun y hy => ?_
        have hy := (mem_part0 h.bd).mp hy
        obtain ⟨j, hj, e⟩ := List.getElem_of_mem hy
        rw [List.length_take] at hj
        rw [List.getElem_take] at e
        exact reach_mono (first_reach h (by omega) j y (by rw [List.getElem?_eq_getElem (by omega), e]) (by omega)) fun z hz => (mem_part0 h.bd).mpr hz
    | 1, _ =>
      refine ⟨?_, ?_, ?_⟩
      · show (toldL os size n)[b.toNat]? = _
        rw [toldL_at hbb, if_neg hdis]
        rfl
      · have := len_eq (part_nodup (zs := toldL os size n) (i := ((1 : Nat) : Int))) (List.Sublist.nodup (List.drop_sublist size os) h.nd) fun p => mem_part1 h.bd hfull h.nd
        rw [this, List.length_drop]
        show ((os.length - size : Nat) : Int) = (n : Int) - size
        omega
      · refine hangs_of (n := n) (fun y hy => h.bd y (List.mem_of_mem_drop ((mem_part1 h.bd hfull h.nd).mp hy))) ((mem_part1 h.bd hfull h.nd).mpr hb) fun y hy => ?_
        have hy := (mem_part1 h.bd hfull h.nd).mp hy
        obtain ⟨j, hj, e⟩ := List.getElem_of_mem hy
        rw [List.length_drop] at hj
        rw [List.getElem_drop] at e
        exact reach_mono (last_reach h h1 _ (size + j) y (by rw [List.getElem?_eq_getElem (by omega), e]) (by omega) rfl) fun z hz => (mem_part1 h.bd hfull h.nd).mpr hz
/-- a loose end: no parts of one place and the rest -/
theorem loose_no_parts {T : List (Int × Int)} {n : Nat} {a b t c : Int} {r zs : List Int} (g : LooseIs T n a b t r) (hc : c = a ∨ c = b) (hct : c ≠ t) (hcb : 0 ≤ c ∧ c < n) : partsD T n [t, c] [1, (n : Int) - 1] (tI zs) = false := by
  cases e : partsD T n [t, c] [1, (n : Int) - 1] (tI zs) with
  | false => rfl
  | true =>
    exfalso
    obtain ⟨h1, h2, h3⟩ := parts_iff.mp e
    obtain ⟨ht, ⟨x, hx, hP⟩, har, hbr⟩ := g
    obtain ⟨a1, a2, _⟩ := h3 0 (show 0 < 2 by decide)
    obtain ⟨b1, b2, b3⟩ := h3 1 (show 1 < 2 by decide)
    have a1 : zs[t.toNat]? = some ((0 : Nat) : Int) := a1
    have b1 : zs[c.toNat]? = some ((1 : Nat) : Int) := b1
    have a2 : ((partL zs ((0 : Nat) : Int)).length : Int) = 1 := a2
    have ht0 : t ∈ partL zs ((0 : Nat) : Int) := mem_part.mpr ⟨ht.1, a1⟩
    have only : ∀ y ∈ partL zs ((0 : Nat) : Int), y = t := fun y hy => by
      match hl : partL zs ((0 : Nat) : Int), a2 with
      | [u], _ =>
        rw [hl] at hy ht0
        rw [List.mem_singleton.mp hy, List.mem_singleton.mp ht0]
    have in1 : ∀ y : Int, 0 ≤ y ∧ y < n → y ≠ t → y ∈ partL zs ((1 : Nat) : Int) := fun y hy hne => by
      obtain ⟨z, ez⟩ : ∃ z, zs[y.toNat]? = some z := ⟨_, List.getElem?_eq_getElem (by omega)⟩
      have hz := h2 z (List.mem_of_getElem? ez)
      have hz2 : 0 ≤ z ∧ z < 2 := hz
      by_cases h0 : z = 0
      · exact absurd (only y (mem_part.mpr ⟨hy.1, by rw [ez, h0]; rfl⟩)) hne
      · exact mem_part.mpr ⟨hy.1, by rw [ez, show z = 1 by omega]; rfl⟩
    obtain ⟨hxb, hxt⟩ := mem_others.mp hx
    have hxt : x ≠ t := fun z => hxt (List.mem_singleton.mpr z)
    have hbd : ∀ y ∈ partL zs ((1 : Nat) : Int), 0 ≤ y ∧ y < n := fun y hy => by
      have := mem_partL hy
      omega
    have hr := hangs_reach hbd b3 (in1 x hxb hxt) (in1 c hcb hct)
    have hsub : ∀ y ∈ partL zs ((1 : Nat) : Int), y ∈ othersL n [t] := fun y hy => mem_others.mpr ⟨hbd y hy, fun z => by
      rw [List.mem_singleton] at z
      subst z
      obtain ⟨_, e1⟩ := mem_part.mp hy
      rw [a1] at e1
      cases e1⟩
    have hcr : c ∈ r := (hP.2 c).mpr (reach_mono hr hsub)
    rcases hc with rfl | rfl
    · exact har hcr
    · exact hbr hcr
end My

set_option Elab.async false
set_option linter.all false
set_option maxRecDepth 100000
set_option maxHeartbeats 4000000
namespace My
open PySem PySem.Spec PyProof.Rows L2
theorem all_placeI {n : Int} : ∀ os : List Int, ((os.map PyData.int).all (placeD n) = true ↔ ∀ x ∈ os, 0 ≤ x ∧ x < n)
  | [] => by simp
  | x :: os => by
    rw [List.map_cons, List.all_cons, Bool.and_eq_true, all_placeI os, List.forall_mem_cons]
    simp only [placeD, Bool.and_eq_true, decide_eq_true_eq]
/-- what an order is, of the numbers -/
theorem order_iff {T : List (Int × Int)} {n : Nat} {a b : Int} {os : List Int} (hn : 2 ≤ n) : isOrderD T n a b (tI os) = true ↔ PartOrd T n a b os ∧ os.length = n := by
  unfold tI isOrderD
  simp only [Bool.and_eq_true, decide_eq_true_eq, List.all_eq_true, List.length_map, List.mem_range, intsOf_map]
  rw [show (∀ x ∈ os.map PyData.int, placeD (n : Int) x = true) ↔ ∀ x ∈ os, 0 ≤ x ∧ x < (n : Int) from by rw [← all_placeI, List.all_eq_true]]
  constructor
  · rintro ⟨h1, h2, h3, h4, h5, h6⟩
    refine ⟨⟨h3, h2, ?_, ?_, ?_⟩, h1⟩
    · cases os with
      | nil => cases h4
      | cons x r =>
        have : x = a := by simpa using h4
        exact ⟨r, by rw [this]⟩
    · have hne : os ≠ [] := fun z => by rw [z] at h1; simp at h1; omega
      refine ⟨os.dropLast, ?_⟩
      rw [h1] at h5
      have : os.getLast hne = b := by
        rw [List.getLast_eq_getElem]
        have := (List.getElem?_eq_some_iff.mp h5).2
        simpa [h1] using this
      rw [← this, List.dropLast_concat_getLast]
    · intro l x r e hl hr
      have hll : 1 ≤ l.length := List.length_pos_iff.mpr hl
      have hrl : 1 ≤ r.length := List.length_pos_iff.mpr hr
      have hlen : l.length + r.length + 1 = n := by
        rw [← h1, e]
        simp
        omega
      have := h6 (l.length - 1) (by omega)
      unfold sideB at this
      rw [Bool.and_eq_true, show 1 + (l.length - 1) = l.length by omega] at this
      have e1 : os.getD l.length 0 = x := by
        rw [List.getD_eq_getElem?_getD, e, List.getElem?_append_right (Nat.le_refl _), Nat.sub_self]
        rfl
      have e2 : os.take l.length = l := by
        rw [e, List.take_left]
      have e3 : os.drop (l.length + 1) = r := by
        rw [e, show l ++ x :: r = (l ++ [x]) ++ r by simp, List.drop_left' (by simp)]
      rw [e1, e2, e3] at this
      exact this
  · rintro ⟨h, h1⟩
    refine ⟨h1, h.bd, h.nd, ?_, ?_, fun j hj => ?_⟩
    · obtain ⟨r, e⟩ := h.head
      rw [e]
      rfl
    · obtain ⟨l, e⟩ := h.last
      have hll : os.length - 1 = l.length := by
        rw [e]
        simp
      rw [hll, e, List.getElem?_append_right (Nat.le_refl _), Nat.sub_self]
      rfl
    · have hjl : 1 + j < os.length := by omega
      obtain ⟨g1, g2⟩ := h.at (List.getElem?_eq_getElem hjl) (by omega) (by omega)
      unfold sideB
      rw [List.getD_eq_getElem?_getD, List.getElem?_eq_getElem hjl, Option.getD_some, g1, g2]
      rfl
/-! all orders, made place by place -/
def nextB (T : List (Int × Int)) (b : Int) (o : List Int) (p : Int) : Bool := (!decide (p = b) && !decide (p ∈ o)) && touchB T p o
def growL (T : List (Int × Int)) (n : Nat) (a b : Int) : Nat → List (List Int)
  | 0 => [[a]]
  | j + 1 => (growL T n a b j).flatMap fun o => ((ups n).filter (nextB T b o)).map fun p => o ++ [p]
def ordsL (T : List (Int × Int)) (n : Nat) (a b : Int) : List (List Int) := ((growL T n a b (n - 2)).filter fun o => isOrderD T n a b (tI (o ++ [b]))).map fun o => o ++ [b]
theorem growL_bd {T : List (Int × Int)} {n : Nat} {a b : Int} (ha : 0 ≤ a ∧ a < n) : ∀ {j : Nat} {o : List Int}, o ∈ growL T n a b j → o.length = j + 1 ∧ ∀ x ∈ o, 0 ≤ x ∧ x < n
  | 0, o, h => by
    unfold growL at h
    rw [List.mem_singleton.mp h]
    exact ⟨rfl, fun x hx => by rw [List.mem_singleton.mp hx]; exact ha⟩
  | j + 1, o, h => by
    unfold growL at h
    obtain ⟨d, hd, ho⟩ := List.mem_flatMap.mp h
    obtain ⟨p, hp, rfl⟩ := List.mem_map.mp ho
    obtain ⟨h1, h2⟩ := growL_bd ha hd
    refine ⟨by rw [List.length_append, h1]; rfl, fun x hx => ?_⟩
    rcases List.mem_append.mp hx with hx | hx
    · exact h2 x hx
    · rw [List.mem_singleton.mp hx]
      exact mem_ups.mp (List.mem_filter.mp hp).1
theorem growL_len {T : List (Int × Int)} {n : Nat} {a b : Int} : ∀ j : Nat, (growL T n a b j).length ≤ n ^ j
  | 0 => Nat.le_refl _
  | j + 1 => by
    have ih := growL_len (T := T) (n := n) (a := a) (b := b) j
    have : ∀ L : List (List Int), (L.flatMap fun o => ((ups n).filter (nextB T b o)).map fun p => o ++ [p]).length ≤ L.length * n := fun L => by
      induction L with
      | nil => simp
      | cons d L ih =>
        rw [List.flatMap_cons, List.length_append, List.length_map, List.length_cons, Nat.succ_mul]
        have := List.length_filter_le (nextB T b d) (ups n)
        rw [ups_len] at this
        omega
    refine Nat.le_trans (this _) ?_
    rw [Nat.pow_succ]
    exact Nat.mul_le_mul_right n ih
theorem growL_few {T : List (Int × Int)} {n : Nat} {a b : Int} (hn : n ≤ 6) {j : Nat} (hj : j ≤ 4) : (growL T n a b j).length ≤ 1296 := by
  refine Nat.le_trans (growL_len j) (Nat.le_trans (Nat.pow_le_pow_left hn j) ?_)
  have := Nat.pow_le_pow_right (show 0 < 6 by decide) hj
  have h : (6 : Nat) ^ 4 = 1296 := by decide
  omega
/-- each order is among them -/
theorem order_grow {T : List (Int × Int)} {n : Nat} {a b : Int} {os : List Int} (h : PartOrd T n a b os) (hl : os.length = n) : ∀ j : Nat, j + 2 ≤ n → os.take (j + 1) ∈ growL T n a b j
  | 0, hj => by
    obtain ⟨r, e⟩ := h.head
    rw [e]
    simp [growL]
  | j + 1, hj => by
    have ih := order_grow h hl j (by omega)
    have hjl : j + 1 < os.length := by omega
    have ex : os[j + 1]? = some os[j + 1] := List.getElem?_eq_getElem hjl
    obtain ⟨t1, _⟩ := h.at ex (by omega) (by omega)
    unfold growL
    refine List.mem_flatMap.mpr ⟨_, ih, List.mem_map.mpr ⟨os[j + 1], List.mem_filter.mpr ⟨mem_ups.mpr (h.bd _ (List.getElem_mem hjl)), ?_⟩, ?_⟩⟩
    · unfold nextB
      rw [t1, Bool.and_true, Bool.and_eq_true, Bool.not_eq_true', Bool.not_eq_true', decide_eq_false_iff_not, decide_eq_false_iff_not]
      constructor
      · intro e
        obtain ⟨l, e2⟩ := h.last
        have hll : l.length = os.length - 1 := by
          rw [e2]
          simp
        have eb : os[os.length - 1]? = some b := by
          rw [← hll, e2, List.getElem?_append_right (Nat.le_refl _), Nat.sub_self]
          rfl
        have hlt : os.length - 1 < os.length := by omega
        have := (List.getElem?_eq_some_iff.mp eb).2
        exact (List.pairwise_iff_getElem.mp h.nd (j + 1) (os.length - 1) hjl hlt (by omega)) (by rw [e, this])
      · intro hm
        have nd := h.nd
        rw [← List.take_append_drop (j + 1) os] at nd
        exact (List.nodup_append.mp nd).2.2 _ hm _ (by rw [List.drop_eq_getElem_cons hjl]; exact List.mem_cons_self) rfl
    · exact (List.take_succ_eq_append_getElem hjl).symm
theorem mem_ordsL {T : List (Int × Int)} {n : Nat} {a b : Int} (hn : 2 ≤ n) {o : List Int} : o ∈ ordsL T n a b ↔ PartOrd T n a b o ∧ o.length = n := by
  constructor
  · intro h
    unfold ordsL at h
    obtain ⟨o', ho, rfl⟩ := List.mem_map.mp h
    exact (order_iff hn).mp (List.mem_filter.mp ho).2
  · rintro ⟨h, hl⟩
    have e : o.take (n - 2 + 1) ++ [b] = o := by
      obtain ⟨l, e2⟩ := h.last
      have hll : l.length = n - 2 + 1 := by
        have := hl
        rw [e2] at this
        simp at this
        omega
      rw [e2, ← hll, List.take_left]
    unfold ordsL
    refine List.mem_map.mpr ⟨o.take (n - 2 + 1), List.mem_filter.mpr ⟨order_grow h hl _ (by omega), ?_⟩, e⟩
    rw [e]
    exact (order_iff hn).mpr ⟨h, hl⟩
/-! what the law's defs promise -/
def spPBO (K : PySem.W.Frag) : Sp := fun vs H Q _ => ∃ (oq : Addr) (os : List Int) (size : Nat), vs = [.ref oq, .int size] ∧ SqT K H oq (os.map V.int) ∧ os.length ≤ 100 ∧ ∀ (q : Addr) H', Same H H' → SqT K H' q ((toldL os size os.length).map V.int) → Q (.ref q) H'
def spOrds (K : PySem.W.Frag) : Sp := fun vs H Q _ => ∃ (v : V) (n : Nat) (T : List (Int × Int)) (a b : Int), vs = [v, .int a, .int b] ∧ Dq K H v (webD n T) ∧ WebOk n T ∧ 2 ≤ n ∧ n ≤ 6 ∧ (0 ≤ a ∧ a < n) ∧ (0 ≤ b ∧ b < n) ∧
  ∀ (q : Addr) H', H q = none → Same H H' → LAt K [] H' q ((ordsL T n a b).map tI) → Q (.ref q) H'
end My

set_option Elab.async false
set_option linter.all false
set_option maxRecDepth 100000
set_option maxHeartbeats 4000000
namespace My
open PySem PySem.Spec PyProof.Rows L2
section
variable {K : PySem.W.Frag} {av : List Addr} {H0 H1 : Hp} {σ : L2.St} {t t1 t2 : TE} {d e : PyData}
theorem fresh_wo {p : Addr} {H : Hp} (h : H p = none) : Same H (wo p H) := fun b o e => (wo_ne fun z => by rw [z, h] at e; cases e).trans e
theorem EvQ.neI {a b : Int} (h1 : EvQ K av H0 σ t1 (.int a)) (h2 : EvQ K av H0 σ t2 (.int b)) : EvQ K av H0 σ (tOp rNe t1 t2) (.bool (!decide (a = b))) := fun H s Q q =>
  h1 H s _ fun x H1 s1 hx => by
    cases hx
    refine h2 H1 (s.trans s1) _ fun y H2 s2 hy => ?_
    cases hy
    refine ⟨rfl, ?_⟩
    rw [dInt_iff (p := a = b) Iff.rfl]
    exact q _ _ (s1.trans s2) (.bl _)
theorem EvQ.neNilI {ns : List Int} (hp : Avs av H0) (h : EvL K av H0 σ t (ns.map PyData.int)) : EvQ K av H0 σ (tOp (rNeD K) t (tLst tNil)) (.bool (decide (1 ≤ ns.length))) := fun H s Q q =>
  h H s _ fun a xs H1 s1 ea na hxs => by
    refine ⟨by show 0 ≤ sizeLine; decide, fun z hz => ?_⟩
    have sz := My.Same.new (o := HO.lst []) hz
    have e := DqAll.intsV hxs
    subst e
    exact ne_nilI (SqL.of (sz _ _ ea)) (SqL.of upd_same) (q _ _ (s1.trans sz) (.bl _))
/-- a turn with two tests, joined by and -/
theorem LcTurn.and {te u1 u2 : TE} {vs : List Nat} {i : Nat} {b c : Bool} (hw : ∀ x : V, wipe ((wipe σ vs).set i (some x)) vs = wipe σ vs) (hs : ∀ (x : V) (av' : List Addr) (H1 : Hp), (∀ b ∈ av, b ∈ av') → Avs av' H1 → Same (wos av H0) (wos av' H1) → Dq K (wos av' H1) x d →
      EvQ K av' H1 ((wipe σ vs).set i (some x)) u1 (.bool b) ∧ EvQ K av' H1 ((wipe σ vs).set i (some x)) u2 (.bool c) ∧ EvQ K av' H1 ((wipe σ vs).set i (some x)) te e) :
    LcTurn K av H0 σ vs (gName i) (tAnd (tTest u1) (tTest u2)) te d (b && c) e := fun x av' H1 hin hav sw hx R N r nn => by
  obtain ⟨h1, h2, h3⟩ := hs x av' H1 hin hav sw hx
  refine ⟨hw x, h1 H1 (Same.refl _) _ fun y H' s hy => ?_⟩
  cases hy
  refine ⟨b, rfl, ?_⟩
  cases b with
  | false => exact iteF (iteF (nn H' s rfl))
  | true =>
    refine iteT (h2 H' s _ fun y H'' s2 hy => ?_)
    cases hy
    refine ⟨c, rfl, ?_⟩
    cases c with
    | false => exact iteF (nn H'' (s.trans s2) rfl)
    | true => exact iteT (h3 H'' (s.trans s2) R fun y H3 s3 hy => r y H3 (s.trans (s2.trans s3)) hy rfl)
end
theorem touch_len {T : List (Int × Int)} {x : Int} {o : List Int} : decide (1 ≤ ((nearS T x).filter fun y => decide (y ∈ o)).length) = touchB T x o := by
  rw [Bool.eq_iff_iff, decide_eq_true_eq, touchB_iff]
  constructor
  · intro h
    obtain ⟨y, hy⟩ := List.exists_mem_of_length_pos h
    obtain ⟨h1, h2⟩ := List.mem_filter.mp hy
    exact ⟨y, h1, of_decide_eq_true h2⟩
  · rintro ⟨y, h1, h2⟩
    exact List.length_pos_of_mem (List.mem_filter.mpr ⟨h1, decide_eq_true h2⟩)
end My

set_option Elab.async false
set_option linter.all false
set_option maxRecDepth 100000
set_option maxHeartbeats 4000000
namespace My
open PySem PySem.Spec PyProof.Rows L2
def AvL (av : List Addr) (H : Hp) : Prop := ∀ b ∈ av, ∃ us, H b = some (.lst us)
section
variable {K : PySem.W.Frag} {av : List Addr} {H0 H1 H H' : Hp} {σ : L2.St} {t t1 t2 t3 : TE} {d e : PyData} {ds : List PyData}
theorem AvL.same (s : Same H H') (h : AvL av H) : AvL av H' := fun b hb => by
  obtain ⟨us, e⟩ := h b hb
  exact ⟨us, s _ _ e⟩
theorem AvL.avs (h : AvL av H) : Avs av H := fun b hb => by
  obtain ⟨us, e⟩ := h b hb
  exact ⟨_, e⟩
theorem sqt_wos {a : Addr} {xs : List V} (hL : AvL av H) (h : SqT K H a xs) : SqT K (wos av H) a xs := by
  rcases h with (h | ⟨o, h⟩) | h
  · exact .inl (.inl ((wos_in fun hb => by
      obtain ⟨us, e⟩ := hL a hb
      rw [e] at h
      cases h).trans h))
  · exact .inl (.inr ⟨o, (wos_in fun hb => by
      obtain ⟨us, e⟩ := hL a hb
      rw [e] at h
      cases h).trans h⟩)
  · exact .inr h
/-- [.. for x in l], l a list of whole numbers, each item told: a tuple of whole numbers -/
theorem EvN.lcF {te : TE} {vs : List Nat} {i : Nat} {lot : List Int} {F : Int → List Int} (hL : AvL av H0) (h : EvL K av H0 σ t (lot.map PyData.int)) (hl : lot.length ≤ 1000) (hw : ∀ x : V, wipe ((wipe σ vs).set i (some x)) vs = wipe σ vs)
    (hs : ∀ x ∈ lot, ∀ H1, Same H0 H1 → ∀ R : VK, (∀ q H', Same H1 H' → SqT K H' q ((F x).map V.int) → R (.ref q) H') → te ((wipe σ vs).set i (some (.int x))) H1 R) :
    EvN K av H0 σ (tLc (iList K t) (gName i) tYes te vs) ((lot.map F).map tI) := fun H s Q q => by
  refine h H s _ fun a xs H1 s1 ea na hxs => ?_
  have e := DqAll.intsV hxs
  subst e
  refine ⟨a, rfl, ⟨_, SqL.of ea⟩, fun D hD => ?_⟩
  have hL1 := hL.same (s.trans s1)
  have nD := hL1.avs.fresh hD
  refine lc_list (xs := lot.map V.int) (fun j H3 => Same H1 H3 ∧ ∃ us, H3 D = some (.lst us) ∧ DqAll K (wos (D :: av) H3) us (((lot.take j).map F).map tI)) ⟨My.Same.new hD, [], upd_same, .nil⟩ (fun j H3 _ hP => SqL.of (hP.1 _ _ ea)) ?_ ?_
  · rintro j v H3 ev ⟨s3, us, eD, hus⟩
    obtain ⟨x, ex, rfl⟩ : ∃ x, lot[j]? = some x ∧ v = .int x := by
      rw [List.getElem?_map] at ev
      cases e : lot[j]? with
      | none => rw [e] at ev; cases ev
      | some y => rw [e] at ev; exact ⟨y, rfl, (Option.some.inj ev).symm⟩
    refine ⟨hw _, ?_⟩
    show te ((wipe σ vs).set i (some (.int x))) H3 _
    refine hs x (List.mem_of_getElem? ex) H3 (s.trans (s1.trans s3)) _ fun t' H4 s4 ht => ?_
    have e4 := s4 _ _ eD
    have hL4 : AvL (D :: av) H4 := fun b hb => by
      rcases List.mem_cons.mp hb with rfl | hb
      · exact ⟨_, e4⟩
      · exact hL1.same (s3.trans s4) b hb
    have hul := hus.len
    rw [List.length_map, List.length_map, List.length_take] at hul
    have k3 : Same (wos (D :: av) H4) (wos (D :: av) (upd H4 D (.lst (us ++ [.ref t'])))) := wos_put
    refine ⟨us, e4, smallT (by omega), My.Same.updD (s3.trans s4) hD, us ++ [.ref t'], upd_same, ?_⟩
    rw [List.take_add_one, ex, Option.toList_some, List.map_append, List.map_append]
    exact DqAll.append (DqAll.same ((My.Same.wos s4).trans k3) hus) (.cons (Dq.same k3 (Dq.ofTI (sqt_wos hL4 ht))) .nil)
  · rintro H3 ⟨s3, us, eD, hus⟩
    rw [List.length_map, List.take_length] at hus
    exact q D us H3 (s1.free hD) (s1.trans s3) eD nD (lc_end hus)
/-- l[:k], l a list -/
theorem EvL.takeL {k : Nat} {th : TO} (hp : Avs av H0) (he : EvL K av H0 σ t ds) (hh : ∀ (H : Hp) (Q : Option Int → Hp → Prop), Q (some (k : Int)) H → th σ H Q) :
    EvL K av H0 σ (tSl (rSlL K) t tNoPart th) (ds.take k) := fun H s Q q => by
  refine he H s _ fun a xs H1 s1 ea na hx => ?_
  refine hh H1 _ ⟨a, xs, rfl, SqL.of ea, fun c hc => ?_⟩
  rw [cut_take]
  have sc := My.Same.new (o := HO.lst (xs.take k)) hc
  exact q c _ _ (s1.trans sc) upd_same ((hp.same (s.trans s1)).fresh hc) (DqAll.take k (DqAll.same (My.Same.wos sc) hx))
theorem EvQ.isParts {n : Nat} {T : List (Int × Int)} {rs ss : List Int} {W D : Nat} (hW : WebOk n T) (n1 : 1 ≤ n) (n12 : n ≤ 12) (hrs : ∀ y ∈ rs, 0 ≤ y ∧ y < n) (hl : ss.length = rs.length) (hr : rs.length ≤ 12) (sm : Sm W D d) (hW4 : W ≤ 4000)
    (h1 : EvQ K av H0 σ t1 (webD n T)) (h2 : EvQ K av H0 σ t2 (.tuple [tI rs, tI ss])) (h3 : EvQ K av H0 σ t3 d) : EvQ K av H0 σ (tCall (spIsParts K) [] E0 (tCons t1 (tCons t2 (tCons t3 tNil)))) (.bool (partsD T n rs ss d)) := fun H s Q q =>
  h1 H s _ fun x H1 s1 hx => h2 H1 (s.trans s1) _ fun y H2 s2 hy => h3 H2 (s.trans (s1.trans s2)) _ fun z H3 s3 hz =>
    ⟨x, y, z, n, T, rs, ss, d, W, D, rfl, Dq.same (wos_le.trans (s2.trans s3)) hx, hW, n1, n12, Dq.same (wos_le.trans s3) hy, hrs, hl, hr, Dq.same wos_le hz, sm, hW4, fun H4 s4 => q _ _ (s1.trans (s2.trans (s3.trans s4))) (.bl _)⟩
theorem EvQ.border {p : Addr} {n : Nat} {T : List (Int × Int)} {zs : List Int} (hlst : ∃ us, H0 p = some (.lst us)) (hW : WebOk n T) (lT : T.length ≤ 1000) (lz : zs.length = n)
    (h1 : EvQ K [p] H0 σ t1 (webD n T)) (h2 : EvQ K [p] H0 σ t2 (.tuple (zs.map PyData.int))) : EvQ K [p] H0 σ (tCall (spBorder K) [] E0 (tCons t1 (tCons t2 tNil))) (.tuple (((T.filter (unlikeP zs)).map prI).map tI)) := fun H s Q q =>
  h1 H s _ fun x H1 s1 hx => h2 H1 (s.trans s1) _ fun y H2 s2 hy => by
    obtain ⟨st, rfl, hst⟩ := Dq.sqI2 hy
    obtain ⟨us, hus⟩ := hlst
    refine ⟨x, st, n, T, zs, rfl, Dq.same (wos_le.trans s2) hx, hW, lT, My.Same.sqt wos_le hst, lz, fun a H3 s3 ha => ?_⟩
    have s123 := s1.trans (s2.trans s3)
    exact q _ _ s123 (Dq.wosL (s123 _ _ (s _ _ hus)) (by rw [noL_tup]; exact noL_tIs _) (Dq.of ha))
theorem LAt.pen {p q : Addr} {L : List (List Int)} {us : List V} (hp : H p = some (.lst us)) (hne : q ≠ p) (h : LAt K [] H q (L.map tI)) : LAt K [p] H q (L.map tI) := by
  obtain ⟨_, xs, ea, hx⟩ := h
  exact ⟨fun z => hne (List.mem_singleton.mp z), xs, ea, DqAll.same wo_wos (DqAll.woL hp (DqAll.same wos_le hx) (noL_tIs L))⟩
end
end My

set_option Elab.async false
set_option linter.all false
set_option maxRecDepth 100000
set_option maxHeartbeats 4000000
namespace My
open PySem PySem.Spec PyProof.Rows L2
/-! ### standings -/
def bD (bs : List (Int × Int)) : PyData := .tuple ((bs.map prI).map tI)
def withinB (b : Int × Int) (l : Nat) : Bool := decide (b.1 ≤ (l : Int)) && decide ((l : Int) ≤ b.2)
noncomputable def okStand (T : List (Int × Int)) (rs : List Int) (bs : List (Int × Int)) (zs : List Int) (i : Nat) : Bool := decide (zs[(rs.getD i 0).toNat]? = some (i : Int)) && (withinB (bs.getD i (0, 0)) (partL zs i).length && hangsB T (partL zs i))
noncomputable def standD (T : List (Int × Int)) (n : Nat) (rs : List Int) (bs : List (Int × Int)) (d : PyData) : Bool := match d with
  | .tuple ds => dealingD n rs.length (.tuple ds) && (List.range rs.length).all (okStand T rs bs (intsOf ds))
  | _ => false
def spWithin (K : PySem.W.Frag) : Sp := fun vs H Q _ => ∃ (v : V) (n : Nat) (T : List (Int × Int)) (lq : Addr) (lot : List Int) (x : V) (b : Int × Int), vs = [v, .ref lq, x] ∧ Dq K H v (webD n T) ∧ WebOk n T ∧ 1 ≤ n ∧ n ≤ 12 ∧ SqT K H lq (lot.map V.int) ∧ lot.length ≤ 12 ∧ (∀ x ∈ lot, 0 ≤ x ∧ x < n) ∧ lot.Pairwise (· < ·) ∧ Dq K H x (tI (prI b)) ∧
  ∀ H', Same H H' → Q (.bl (withinB b lot.length && hangsB T lot)) H'
def spStanding (K : PySem.W.Frag) : Sp := fun vs H Q _ => ∃ (v : V) (ra : Addr) (bv x : V) (n : Nat) (T : List (Int × Int)) (rs : List Int) (bs : List (Int × Int)) (d : PyData) (W D : Nat), vs = [v, .ref ra, bv, x] ∧ Dq K H v (webD n T) ∧ WebOk n T ∧ 1 ≤ n ∧ n ≤ 12 ∧ SqT K H ra (rs.map V.int) ∧ Dq K H bv (bD bs) ∧ (∀ y ∈ rs, 0 ≤ y ∧ y < n) ∧ bs.length = rs.length ∧ rs.length ≤ 12 ∧
  Dq K H x d ∧ Sm W D d ∧ W ≤ 4000 ∧ ∀ H', Same H H' → Q (.bl (standD T n rs bs d)) H'
theorem bD_at {K : PySem.W.Frag} {H : Hp} {v : V} {bs : List (Int × Int)} (h : Dq K H v (bD bs)) : ∃ (a : Addr) (xs : List V), v = .ref a ∧ SqT K H a xs ∧ xs.length = bs.length ∧ ∀ (i : Nat) (b : Int × Int), bs[i]? = some b → ∃ x, xs[i]? = some x ∧ Dq K H x (tI (prI b)) := by
  obtain ⟨a, xs, rfl, hT, hxs⟩ := Dq.un_tup h
  have hl := hxs.len
  rw [List.length_map, List.length_map] at hl
  refine ⟨a, xs, rfl, hT, hl, fun i b e => ?_⟩
  have hi : i < xs.length := by
    rw [hl]
    exact (List.getElem?_eq_some_iff.mp e).1
  obtain ⟨d, ed, hd⟩ := hxs.get (List.getElem?_eq_getElem hi)
  rw [List.getElem?_map, List.getElem?_map, e] at ed
  cases ed
  exact ⟨_, List.getElem?_eq_getElem hi, hd⟩
theorem getD_bs {bs : List (Int × Int)} {i : Nat} {b : Int × Int} (e : bs[i]? = some b) : bs.getD i (0, 0) = b := by
  rw [List.getD_eq_getElem?_getD, e]
  rfl
end My

set_option Elab.async false
set_option linter.all false
set_option maxRecDepth 100000
set_option maxHeartbeats 4000000
namespace My
open PySem PySem.Spec PyProof.Rows L2
section
variable {K : PySem.W.Frag} {av : List Addr} {H0 : Hp} {σ : L2.St} {t1 t2 : TE} {α β : Type} {f : α → PyData} {g : β → PyData} {F : α → β → PyData} {l : List α} {l2 : List β}
def doneLL (l : List α) (l2 : List β) (F : α → β → PyData) (i j : Nat) : List PyData := ((l.take i).flatMap fun a => l2.map (F a)) ++ (l[i]?.toList.flatMap fun a => (l2.take j).map (F a))
theorem doneLL_next {i : Nat} {a : α} (h : l[i]? = some a) {j : Nat} {b : β} (e : l2[j]? = some b) : doneLL l l2 F i (j + 1) = doneLL l l2 F i j ++ [F a b] := by
  unfold doneLL
  rw [h, Option.toList_some, List.flatMap_cons, List.flatMap_nil, List.append_nil, List.flatMap_cons, List.flatMap_nil, List.append_nil, List.take_add_one, e, Option.toList_some, List.map_append, List.append_assoc]
  rfl
theorem doneLL_end {i : Nat} {a : α} (h : l[i]? = some a) : doneLL l l2 F i l2.length = doneLL l l2 F (i + 1) 0 := by
  unfold doneLL
  rw [h, Option.toList_some, List.flatMap_cons, List.flatMap_nil, List.append_nil, List.take_length, List.take_add_one, h, Option.toList_some, List.flatMap_append, List.flatMap_cons, List.flatMap_nil, List.append_nil]
  have : (l[i + 1]?.toList.flatMap fun a => (l2.take 0).map (F a)) = [] := by
    cases l[i + 1]? <;> simp
  rw [this, List.append_nil]
theorem doneLL_len {i j : Nat} : (doneLL l l2 F i j).length ≤ l.length * l2.length + l2.length := by
  unfold doneLL
  have h1 : ∀ L : List α, (L.flatMap fun a => l2.map (F a)).length = L.length * l2.length := fun L => by
    induction L with
    | nil => simp
    | cons a L ih => rw [List.flatMap_cons, List.length_append, ih, List.length_map, List.length_cons, Nat.succ_mul]; omega
  rw [List.length_append, h1, List.length_take]
  have h2 : (l[i]?.toList.flatMap fun a => (l2.take j).map (F a)).length ≤ l2.length := by
    cases l[i]? with
    | none => simp
    | some a =>
      rw [Option.toList_some, List.flatMap_cons, List.flatMap_nil, List.append_nil, List.length_map, List.length_take]
      omega
  have h3 : min i l.length * l2.length ≤ l.length * l2.length := Nat.mul_le_mul_right _ (by omega)
  omega
/-- [e for x in xs for y in ys], both lists -/
theorem EvN.lc2LL {te : TE} {vs vs1 : List Nat} {u v : Nat} (hp : Avs av H0) (h1 : EvL K av H0 σ t1 (l.map f)) (hl : l.length * l2.length + l2.length ≤ 10000)
    (hw : ∀ x : V, wipe ((wipe σ vs).set u (some x)) vs = wipe σ vs) (hw1 : ∀ x y : V, wipe ((wipe ((wipe σ vs).set u (some x)) vs1).set v (some y)) vs1 = wipe ((wipe σ vs).set u (some x)) vs1)
    (h2 : ∀ (x : V) (av' : List Addr) (H1 : Hp), Same H0 H1 → (∀ b ∈ av', b ∈ av ∨ H0 b = none) → Same (wos av H0) (wos av' H1) → EvL K av' H1 ((wipe σ vs).set u (some x)) t2 (l2.map g))
    (hs : ∀ a ∈ l, ∀ b ∈ l2, ∀ (x y : V) (av' : List Addr) (H1 : Hp), Avs av' H1 → Same (wos av H0) (wos av' H1) → Dq K (wos av' H1) x (f a) → Dq K (wos av' H1) y (g b) → EvQ K av' H1 ((wipe ((wipe σ vs).set u (some x)) vs1).set v (some y)) te (F a b)) :
    EvN K av H0 σ (tLc2 (iList K t1) (gName u) tYes (iList K t2) (gName v) tYes te vs vs1) (l.flatMap fun a => l2.map (F a)) := fun H s Q q => by
  refine h1 H s _ fun a xs H1 s1 ea na hxs => ?_
  refine ⟨a, rfl, ⟨xs, SqL.of ea⟩, fun D hD => ?_⟩
  have hlen := hxs.len
  rw [List.length_map] at hlen
  have hp1 := hp.same (s.trans s1)
  have nD := hp1.fresh hD
  have hmore : ∀ {H3 : Hp}, Same H1 H3 → Same (wos av H1) (wos (D :: av) H3) := fun s3 b o e => by
    obtain ⟨n, e⟩ := wos_some e
    have nb : b ≠ D := fun z => by
      rw [z, hD] at e
      cases e
    rw [wos_in (by rw [List.mem_cons, not_or]; exact ⟨nb, n⟩)]
    exact s3 _ _ e
  have hwos : Same (wos av H0) (wos av H1) := My.Same.wos (s.trans s1)
  have hDn : H0 D = none := (s.trans s1).free hD
  have hav3 : ∀ {H3 : Hp} {us : List V}, Same H1 H3 → H3 D = some (.lst us) → Avs (D :: av) H3 := fun s3 eD b hb => by
    rcases List.mem_cons.mp hb with rfl | hb
    · exact ⟨_, eD⟩
    · exact hp1.same s3 b hb
  let Pv : Nat → Nat → Hp → Prop := fun i j H3 => Same H1 H3 ∧ ∃ us, H3 D = some (.lst us) ∧ DqAll K (wos (D :: av) H3) us (doneLL l l2 F i j)
  have base : Pv 0 0 (upd H1 D (.lst [])) := ⟨My.Same.new hD, [], upd_same, by
    have : doneLL l l2 F 0 0 = [] := by
      unfold doneLL
      cases l[0]? <;> simp
    rw [this]
    exact .nil⟩
  refine ⟨fun i m H => m = xs.length - i ∧ i ≤ xs.length ∧ Pv i 0 H, ⟨xs.length, by simp, Nat.zero_le _, base⟩, ?_⟩
  rintro i m H2 ⟨rfl, hi, p⟩
  have qx : SqL K H2 a xs := SqL.of (p.1 _ _ ea)
  by_cases hlt : i < xs.length
  · refine .inr ⟨⟨xs, xs[i], qx, List.getElem?_eq_getElem hlt⟩, Pv (i + 1) 0, fun H' p' => ⟨xs.length - (i + 1), by omega, rfl, hlt, p'⟩, fun x H' y => ?_⟩
    obtain ⟨e, y⟩ := y
    subst e
    have ex := y xs qx
    obtain ⟨d, ed, hd⟩ := hxs.get ex
    obtain ⟨a', ea', rfl⟩ := map_at ed
    refine ⟨hw x, ?_⟩
    unfold tYes
    refine iteT ?_
    obtain ⟨s2, us, eD, hus⟩ := p
    refine h2 x (D :: av) H' (s.trans (s1.trans s2)) (fun b hb => ?_) (hwos.trans (hmore s2)) H' (Same.refl _) _ fun b ys H3 s3 eb nb hys => ⟨b, rfl, ⟨ys, SqL.of eb⟩, ?_⟩
    · rcases List.mem_cons.mp hb with rfl | hb
      · exact .inr hDn
      · exact .inl hb
    have lys := hys.len
    rw [List.length_map] at lys
    have nbD : b ≠ D := fun z => nb (by rw [z]; exact List.mem_cons_self)
    refine ⟨fun j k H => k = ys.length - j ∧ j ≤ ys.length ∧ Same (wo D H3) (wo D H) ∧ Pv i j H, ⟨ys.length, by simp, Nat.zero_le _, Same.refl _, s2.trans s3, us, s3 _ _ eD, DqAll.same (My.Same.wos s3) hus⟩, ?_⟩
    rintro j k H4 ⟨rfl, hj, s4, p4⟩
    have qy : SqL K H4 b ys := SqL.of (wo_some (s4 _ _ ((wo_ne nbD).trans eb))).2
    by_cases hjl : j < ys.length
    · refine .inr ⟨⟨ys, ys[j], qy, List.getElem?_eq_getElem hjl⟩, fun H => Same (wo D H3) (wo D H) ∧ Pv i (j + 1) H, fun H'' p' => ⟨ys.length - (j + 1), by omega, rfl, hjl, p'⟩, fun y' H'' yy => ?_⟩
      obtain ⟨e, yy⟩ := yy
      subst e
      have ey := yy ys qy
      obtain ⟨d2, ed2, hd2⟩ := hys.get ey
      obtain ⟨b', eb', rfl⟩ := map_at ed2
      obtain ⟨s5, us5, eD5, hus5⟩ := p4
      refine ⟨hw1 x y', ?_⟩
      show te ((wipe ((wipe σ vs).set u (some x)) vs1).set v (some y')) H'' _
      refine hs a' (List.mem_of_getElem? ea') b' (List.mem_of_getElem? eb') x y' (D :: av) H'' (hav3 s5 eD5) (hwos.trans (hmore s5)) (Dq.same (hmore s5) hd) (Dq.same (My.Same.wos_of List.mem_cons_self s4) hd2) H'' (Same.refl _) _ fun z H6 s6 hz => ?_
      have e6 := s6 _ _ eD5
      have hul := hus5.len
      have hdl := doneLL_len (l := l) (l2 := l2) (F := F) (i := i) (j := j)
      have k3 : Same (wos (D :: av) H6) (wos (D :: av) (upd H6 D (.lst (us5 ++ [z])))) := wos_put
      refine ⟨us5, e6, by rw [hul, sizeLine_eq]; omega, (s4.trans (My.Same.wo s6)).trans My.Same.put, My.Same.updD (s5.trans s6) hD, us5 ++ [z], upd_same, ?_⟩
      · rw [doneLL_next ea' eb']
        exact DqAll.append (DqAll.same ((My.Same.wos s6).trans k3) hus5) (.cons (Dq.same k3 hz) .nil)
    · have e : j = ys.length := by omega
      subst e
      refine .inl ⟨⟨ys, qy, Nat.le_refl _⟩, ?_⟩
      rw [lys] at p4
      obtain ⟨s5, us5, eD5, hus5⟩ := p4
      refine ⟨s5, us5, eD5, ?_⟩
      rw [← doneLL_end ea']
      exact hus5
  · have e : i = xs.length := by omega
    subst e
    obtain ⟨s2, us, eD, hus⟩ := p
    refine .inl ⟨⟨xs, qx, Nat.le_refl _⟩, q D us H2 (s1.free hD) (s1.trans s2) eD nD (lc_end (D := D) ?_)⟩
    have : doneLL l l2 F xs.length 0 = l.flatMap fun a => l2.map (F a) := by
      unfold doneLL
      rw [hlen, List.take_length, List.getElem?_eq_none (Nat.le_refl _)]
      simp
    rw [this] at hus
    exact hus
end
end My

set_option Elab.async false
set_option linter.all false
set_option maxRecDepth 100000
set_option maxHeartbeats 4000000
namespace My
open PySem PySem.Spec PyProof.Rows L2
noncomputable def standL (T : List (Int × Int)) (n : Nat) (rs : List Int) (bs : List (Int × Int)) : List (List Int) := (dealsL rs.length rs n).filter fun r => standD T n rs bs (tI r)
def spRooted (K : PySem.W.Frag) : Sp := fun vs H Q _ => ∃ (n : Nat) (ra : Addr) (rs : List Int), vs = [.int n, .ref ra] ∧ Plain H ra (rs.map V.int) ∧ 1 ≤ rs.length ∧ rs.length ≤ 5 ∧ n ≤ 12 ∧ (∀ j ≤ n, (dealsL rs.length rs j).length ≤ 1000) ∧
  ∀ (a : Addr) H', Same H H' → LAt K [] H' a ((dealsL rs.length rs n).map tI) → Q (.ref a) H'
def spStandings (K : PySem.W.Frag) : Sp := fun vs H Q _ => ∃ (v : V) (ra : Addr) (bv : V) (n : Nat) (T : List (Int × Int)) (rs : List Int) (bs : List (Int × Int)), vs = [v, .ref ra, bv] ∧ Dq K H v (webD n T) ∧ WebOk n T ∧ 1 ≤ n ∧ n ≤ 7 ∧ Plain H ra (rs.map V.int) ∧ Dq K H bv (bD bs) ∧ (∀ y ∈ rs, 0 ≤ y ∧ y < n) ∧ bs.length = rs.length ∧ 1 ≤ rs.length ∧ rs.length ≤ 5 ∧ (∀ j ≤ n, (dealsL rs.length rs j).length ≤ 1000) ∧
  ∀ (a : Addr) H', H a = none → Same H H' → LAt K [] H' a ((standL T n rs bs).map tI) → Q (.ref a) H'
section
variable {K : PySem.W.Frag} {av : List Addr} {H0 : Hp} {σ : L2.St} {t1 t2 t3 t4 : TE} {d : PyData}
theorem EvQ.standing {n : Nat} {T : List (Int × Int)} {rs : List Int} {bs : List (Int × Int)} {W D : Nat} (hW : WebOk n T) (n1 : 1 ≤ n) (n12 : n ≤ 12) (hrs : ∀ y ∈ rs, 0 ≤ y ∧ y < n) (hl : bs.length = rs.length) (hr : rs.length ≤ 12) (sm : Sm W D d) (hW4 : W ≤ 4000)
    (h1 : EvQ K av H0 σ t1 (webD n T)) (h2 : EvQ K av H0 σ t2 (tI rs)) (h3 : EvQ K av H0 σ t3 (bD bs)) (h4 : EvQ K av H0 σ t4 d) : EvQ K av H0 σ (tCall (spStanding K) [] E0 (tCons t1 (tCons t2 (tCons t3 (tCons t4 tNil))))) (.bool (standD T n rs bs d)) := fun H s Q q =>
  h1 H s _ fun x H1 s1 hx => h2 H1 (s.trans s1) _ fun y H2 s2 hy => h3 H2 (s.trans (s1.trans s2)) _ fun z H3 s3 hz => h4 H3 (s.trans (s1.trans (s2.trans s3))) _ fun u H4 s4 hu => by
    obtain ⟨ra, rfl, hra⟩ := Dq.sqI2 hy
    exact ⟨x, ra, z, u, n, T, rs, bs, d, W, D, rfl, Dq.same (wos_le.trans (s2.trans (s3.trans s4))) hx, hW, n1, n12, My.Same.sqt (wos_le.trans (s3.trans s4)) hra, Dq.same (wos_le.trans s4) hz, hrs, hl, hr, Dq.same wos_le hu, sm, hW4, fun H5 s5 => q _ _ (s1.trans (s2.trans (s3.trans (s4.trans s5)))) (.bl _)⟩
end
theorem smDeal {n k : Nat} {rs r : List Int} (hk : rs.length = k) (h : r ∈ dealsL k rs n) (hn : n ≤ 12) (h5 : k ≤ 12) : Sm 12 1 (tI r) := by
  obtain ⟨lr, br⟩ := dealsL_bd hk h
  exact SmAll.tuple ((smInts r fun x hx => by have := br x hx; omega).mono (by omega) (Nat.le_refl 0))
end My

set_option Elab.async false
set_option linter.all false
set_option maxRecDepth 100000
set_option maxHeartbeats 4000000
namespace My
open PySem PySem.Spec PyProof.Rows L2
section
variable {K : PySem.W.Frag} {av : List Addr} {H0 : Hp} {σ : L2.St} {t1 t2 t3 : TE} {α γ : Type} {f : α → PyData} {p : γ → Nat → Bool} {F : γ → Nat → PyData} {n : Nat}
def rowER (p : γ → Nat → Bool) (F : γ → Nat → PyData) (j : Nat) (c : γ) : List PyData := ((List.range j).filter (p c)).map (F c)
def doneER (Z : List γ) (n : Nat) (p : γ → Nat → Bool) (F : γ → Nat → PyData) (i j : Nat) : List PyData := ((Z.take i).flatMap (rowER p F n)) ++ (Z[i]?.toList.flatMap (rowER p F j))
theorem doneER_next {Z : List γ} {i j : Nat} {c : γ} (h : Z[i]? = some c) : doneER Z n p F i (j + 1) = if p c j = true then doneER Z n p F i j ++ [F c j] else doneER Z n p F i j := by
  unfold doneER
  rw [h, Option.toList_some, List.flatMap_cons, List.flatMap_nil, List.append_nil, List.flatMap_cons, List.flatMap_nil, List.append_nil]
  unfold rowER
  rw [List.range_succ, List.filter_append]
  by_cases hp : p c j = true
  · rw [if_pos hp, List.filter_cons_of_pos hp, List.filter_nil, List.map_append, List.append_assoc]
    rfl
  · rw [if_neg hp, List.filter_cons_of_neg hp, List.filter_nil, List.append_nil]
theorem doneER_end {Z : List γ} {i : Nat} {c : γ} (h : Z[i]? = some c) : doneER Z n p F i n = doneER Z n p F (i + 1) 0 := by
  unfold doneER
  rw [h, Option.toList_some, List.flatMap_cons, List.flatMap_nil, List.append_nil, List.take_add_one, h, Option.toList_some, List.flatMap_append, List.flatMap_cons, List.flatMap_nil, List.append_nil]
  have : (Z[i + 1]?.toList.flatMap (rowER p F 0)) = [] := by
    cases Z[i + 1]? <;> simp [rowER]
  rw [this, List.append_nil]
theorem rowER_len {j : Nat} {c : γ} : (rowER p F j c).length ≤ j := by
  unfold rowER
  rw [List.length_map]
  have := List.length_filter_le (p c) (List.range j)
  rw [List.length_range] at this
  exact this
theorem doneER_len {Z : List γ} {i j : Nat} : (doneER Z n p F i j).length ≤ Z.length * n + j := by
  unfold doneER
  have h1 : ∀ L : List γ, (L.flatMap (rowER p F n)).length ≤ L.length * n := fun L => by
    induction L with
    | nil => simp
    | cons a L ih =>
      rw [List.flatMap_cons, List.length_append, List.length_cons, Nat.succ_mul]
      have := rowER_len (p := p) (F := F) (j := n) (c := a)
      omega
  have h0 := h1 (Z.take i)
  rw [List.length_append]
  rw [List.length_take] at h0
  have h2 : (Z[i]?.toList.flatMap (rowER p F j)).length ≤ j := by
    cases Z[i]? with
    | none => simp
    | some a =>
      rw [Option.toList_some, List.flatMap_cons, List.flatMap_nil, List.append_nil]
      exact rowER_len
  have h3 : min i Z.length * n ≤ Z.length * n := Nat.mul_le_mul_right _ (by omega)
  omega
/-- [e for i, x in enumerate(t) for j in range(n) if ..], t a tuple -/
theorem EvN.lc2ER {l : List α} {te : TE} {vs vs1 : List Nat} {u v w : Nat} {p : α × Nat → Nat → Bool} {F : α × Nat → Nat → PyData} (hL : AvL av H0) (h1 : EvQ K av H0 σ t1 (.tuple (l.map f))) (hl : l.length * n + n ≤ 10000)
    (hw : ∀ x y : V, wipe (((wipe σ vs).set u (some x)).set v (some y)) vs = wipe σ vs) (hw1 : ∀ x y z : V, wipe ((wipe (((wipe σ vs).set u (some x)).set v (some y)) vs1).set w (some z)) vs1 = wipe (((wipe σ vs).set u (some x)).set v (some y)) vs1)
    (h2 : ∀ (x y : V) (H1 : Hp), Same H0 H1 → EvQ K [] H1 (((wipe σ vs).set u (some x)).set v (some y)) t2 (.int (n : Int)))
    (hs : ∀ a i, l[i]? = some a → ∀ j < n, ∀ (y : V) (av' : List Addr) (H1 : Hp), AvL av' H1 → Same H0 H1 → Same (wos av H0) (wos av' H1) → Dq K (wos av' H1) y (f a) →
      EvQ K av' H1 ((wipe (((wipe σ vs).set u (some (.int (i : Nat)))).set v (some y)) vs1).set w (some (.int (j : Nat)))) t3 (.bool (p (a, i) j)) ∧ EvQ K av' H1 ((wipe (((wipe σ vs).set u (some (.int (i : Nat)))).set v (some y)) vs1).set w (some (.int (j : Nat)))) te (F (a, i) j)) :
    EvN K av H0 σ (tLc2 (iEnumT K (tCons t1 tNil)) (gTup K 2 (gCons (gName u) (gCons (gName v) gNil))) tYes (iRng1 (tCons t2 tNil)) (gName w) (tTest t3) te vs vs1) (l.zipIdx.flatMap (rowER p F n)) := fun H s Q q => by
  refine h1 H s _ fun x H1 s1 hx => ?_
  obtain ⟨a, xs, rfl, hT0, hxs⟩ := hx.un_tup
  have hT1 : SqT K H1 a xs := My.Same.sqt wos_le hT0
  refine ⟨a, xs, rfl, hT1, fun D hD => ?_⟩
  have hlen := hxs.len
  rw [List.length_map] at hlen
  have hL1 := hL.same (s.trans s1)
  have nD := hL1.avs.fresh hD
  have hmore : ∀ {H3 : Hp}, Same H1 H3 → Same (wos av H1) (wos (D :: av) H3) := fun s3 b o e => by
    obtain ⟨n, e⟩ := wos_some e
    have nb : b ≠ D := fun z => by
      rw [z, hD] at e
      cases e
    rw [wos_in (by rw [List.mem_cons, not_or]; exact ⟨nb, n⟩)]
    exact s3 _ _ e
  have hwos : Same (wos av H0) (wos av H1) := My.Same.wos (s.trans s1)
  have hL3 : ∀ {H3 : Hp} {us : List V}, Same H1 H3 → H3 D = some (.lst us) → AvL (D :: av) H3 := fun s3 eD b hb => by
    rcases List.mem_cons.mp hb with rfl | hb
    · exact ⟨_, eD⟩
    · exact hL1.same s3 b hb
  let Pv : Nat → Nat → Hp → Prop := fun i j H3 => Same H1 H3 ∧ ∃ us, H3 D = some (.lst us) ∧ DqAll K (wos (D :: av) H3) us (doneER l.zipIdx n p F i j)
  have base : Pv 0 0 (upd H1 D (.lst [])) := ⟨My.Same.new hD, [], upd_same, by
    have : doneER l.zipIdx n p F 0 0 = [] := by
      unfold doneER
      cases l.zipIdx[0]? <;> simp [rowER]
    rw [this]
    exact .nil⟩
  refine ⟨fun i m H => m = xs.length - i ∧ i ≤ xs.length ∧ Pv i 0 H, ⟨xs.length, by simp, Nat.zero_le _, base⟩, ?_⟩
  rintro i m H2 ⟨rfl, hi, pp⟩
  have qx : SqT K H2 a xs := My.Same.sqt pp.1 hT1
  by_cases hlt : i < xs.length
  · refine .inr ⟨⟨xs, xs[i], qx, List.getElem?_eq_getElem hlt⟩, Pv (i + 1) 0, fun H' p' => ⟨xs.length - (i + 1), by omega, rfl, hlt, p'⟩, fun x H' y => ?_⟩
    obtain ⟨T, x', rfl, hT, rfl, f1⟩ := y
    have ex := f1 xs qx
    obtain ⟨d, ed, hd⟩ := hxs.get ex
    obtain ⟨a', ea', rfl⟩ := map_at ed
    have ez := zipIdx_at ea'
    obtain ⟨s2, us, eD, hus⟩ := pp
    have sT := My.Same.new (o := HO.tup [V.int (i : Nat), x']) hT
    have nTD : T ≠ D := fun z => by rw [z, eD] at hT; cases hT
    have eDT : upd H2 T (.tup [.int (i : Nat), x']) D = some (.lst us) := sT _ _ eD
    have husT := DqAll.same (My.Same.wos (av := D :: av) sT) hus
    have s2T := s2.trans sT
    have eTT : upd H2 T (.tup [.int (i : Nat), x']) T = some (.tup [.int (i : Nat), x']) := upd_same
    generalize upd H2 T (.tup [.int (i : Nat), x']) = H3 at eDT husT s2T eTT ⊢
    refine ⟨T, _, rfl, SqT.of eTT, rfl, _, _, rfl, _, _, rfl, rfl, hw _ _, ?_⟩
    unfold tYes
    refine iteT ?_
    refine h2 _ _ H3 (s.trans (s1.trans s2T)) H3 (Same.refl _) _ fun vv H4 s4 hvv => ?_
    cases hvv
    refine ⟨_, rfl, by omega, by omega, ?_⟩
    rw [Int.toNat_natCast]
    refine ⟨fun j k H => k = n - j ∧ j ≤ n ∧ Pv i j H, ⟨n, by simp, Nat.zero_le _, s2T.trans s4, us, s4 _ _ eDT, DqAll.same (My.Same.wos s4) husT⟩, ?_⟩
    rintro j k H5 ⟨rfl, hj, p5⟩
    by_cases hjl : j < n
    · refine .inr ⟨hjl, fun H => Pv i (j + 1) H, fun H'' p' => ⟨n - (j + 1), by omega, rfl, hjl, p'⟩, fun y' H'' yy => ?_⟩
      obtain ⟨e, e2⟩ := yy
      subst e e2
      rw [Int.zero_add]
      obtain ⟨s5, us5, eD5, hus5⟩ := p5
      obtain ⟨g1, g2⟩ := hs a' i ea' j hjl x' (D :: av) H'' (hL3 s5 eD5) (s.trans (s1.trans s5)) (hwos.trans (hmore s5)) (Dq.same (hmore s5) hd)
      refine ⟨hw1 _ _ _, g1 H'' (Same.refl _) _ fun bv H6 s6 hbv => ?_⟩
      cases hbv
      refine ⟨_, rfl, ?_⟩
      have e6 := s6 _ _ eD5
      have hus6 := DqAll.same (My.Same.wos (av := D :: av) s6) hus5
      cases hp : p (a', i) j with
      | false =>
        refine iteF ⟨s5.trans s6, us5, e6, ?_⟩
        rw [doneER_next ez, if_neg (by rw [hp]; decide)]
        exact hus6
      | true =>
        refine iteT (g2 H6 s6 _ fun z H7 s7 hz => ?_)
        have e7 := s7 _ _ e6
        have hul := hus6.len
        have hdl := doneER_len (Z := l.zipIdx) (n := n) (p := p) (F := F) (i := i) (j := j)
        rw [List.length_zipIdx] at hdl
        have k3 : Same (wos (D :: av) H7) (wos (D :: av) (upd H7 D (.lst (us5 ++ [z])))) := wos_put
        refine ⟨us5, e7, by rw [hul, sizeLine_eq]; omega, My.Same.updD (s5.trans (s6.trans s7)) hD, us5 ++ [z], upd_same, ?_⟩
        rw [doneER_next ez, if_pos hp]
        exact DqAll.append (DqAll.same ((My.Same.wos s7).trans k3) hus6) (.cons (Dq.same k3 hz) .nil)
    · have e : j = n := by omega
      subst e
      refine .inl ⟨Nat.le_refl _, ?_⟩
      obtain ⟨s5, us5, eD5, hus5⟩ := p5
      refine ⟨s5, us5, eD5, ?_⟩
      rw [← doneER_end ez]
      exact hus5
  · have e : i = xs.length := by omega
    subst e
    obtain ⟨s2, us, eD, hus⟩ := pp
    refine .inl ⟨⟨xs, qx, rfl⟩, q D us H2 (s1.free hD) (s1.trans s2) eD nD (lc_end (D := D) ?_)⟩
    have : doneER l.zipIdx n p F xs.length 0 = l.zipIdx.flatMap (rowER p F n) := by
      unfold doneER
      rw [hlen, List.take_of_length_le (by rw [List.length_zipIdx]; exact Nat.le_refl _), List.getElem?_eq_none (by rw [List.length_zipIdx]; exact Nat.le_refl _)]
      simp
    rw [this] at hus
    exact hus
end
end My

set_option Elab.async false
set_option linter.all false
set_option maxRecDepth 100000
set_option maxHeartbeats 4000000
namespace My
open PySem PySem.Spec PyProof.Rows L2
/-! ### all dealings are in order -/
theorem code_snoc {B : Int} (i : Int) : ∀ d : List Int, TS.code B (d ++ [i]) = TS.code B d * B + i
  | [] => by
    show i * B ^ 0 + 0 = 0 * B + i
    rw [Int.pow_zero]
    omega
  | x :: d => by
    show x * B ^ (d ++ [i]).length + TS.code B (d ++ [i]) = (x * B ^ d.length + TS.code B d) * B + i
    rw [code_snoc i d, List.length_append, List.length_singleton, Int.pow_succ, Int.add_mul, Int.mul_assoc]
    omega
def codeLt (B : Int) (x y : List Int) : Prop := TS.code B x < TS.code B y
theorem optsL_up {k : Nat} {rs : List Int} (j : Int) : (optsL k rs j).Pairwise (· < ·) := by
  unfold optsL
  split
  · exact List.pairwise_singleton _ _
  · exact ups_up k
theorem dealsL_up {k : Nat} {rs : List Int} (hk : rs.length = k) : ∀ n, (dealsL k rs n).Pairwise (codeLt (k : Int))
  | 0 => List.pairwise_singleton _ _
  | n + 1 => by
    unfold dealsL
    have ih := dealsL_up hk n
    have hb : ∀ z ∈ optsL k rs (n : Int), 0 ≤ z ∧ z < k := fun z hz => mem_optsL hk hz
    have hu := optsL_up (k := k) (rs := rs) (n : Int)
    generalize optsL k rs (n : Int) = os at hb hu
    generalize dealsL k rs n = L at ih
    induction L with
    | nil => simp
    | cons d L ihL =>
      obtain ⟨h1, h2⟩ := List.pairwise_cons.mp ih
      rw [List.flatMap_cons]
      refine List.pairwise_append.mpr ⟨?_, ihL h2, fun x hx y hy => ?_⟩
      · rw [List.pairwise_map]
        refine hu.imp fun h => ?_
        unfold codeLt
        rw [code_snoc, code_snoc]
        omega
      · obtain ⟨i, hi, rfl⟩ := List.mem_map.mp hx
        obtain ⟨d', hd', hy⟩ := List.mem_flatMap.mp hy
        obtain ⟨i', hi', rfl⟩ := List.mem_map.mp hy
        have hc : TS.code k d < TS.code k d' := h1 d' hd'
        have b1 := hb i hi
        have b2 := hb i' hi'
        unfold codeLt
        rw [code_snoc, code_snoc]
        have : (TS.code k d + 1) * (k : Int) ≤ TS.code k d' * k := Int.mul_le_mul_of_nonneg_right (by omega) (by omega)
        rw [Int.add_mul, Int.one_mul] at this
        omega
theorem eq_of_up {α : Type} {r : α → α → Prop} (ir : ∀ x, ¬ r x x) (as : ∀ x y, r x y → ¬ r y x) : ∀ {l m : List α}, l.Pairwise r → m.Pairwise r → (∀ x, x ∈ l ↔ x ∈ m) → l = m
  | [], [], _, _, _ => rfl
  | [], y :: m, _, _, h => by
    have := (h y).mpr List.mem_cons_self
    cases this
  | x :: l, [], _, _, h => by
    have := (h x).mp List.mem_cons_self
    cases this
  | x :: l, y :: m, hl, hm, h => by
    obtain ⟨l1, l2⟩ := List.pairwise_cons.mp hl
    obtain ⟨m1, m2⟩ := List.pairwise_cons.mp hm
    have e : x = y := by
      rcases List.mem_cons.mp ((h x).mp List.mem_cons_self) with e | hx
      · exact e
      · rcases List.mem_cons.mp ((h y).mpr List.mem_cons_self) with e | hy
        · exact e.symm
        · exact absurd (l1 y hy) (as _ _ (m1 x hx))
    subst e
    rw [eq_of_up ir as l2 m2 fun z => ?_]
    constructor
    · intro hz
      rcases List.mem_cons.mp ((h z).mp (List.mem_cons_of_mem _ hz)) with rfl | hz'
      · exact absurd (l1 _ hz) (ir _)
      · exact hz'
    · intro hz
      rcases List.mem_cons.mp ((h z).mpr (List.mem_cons_of_mem _ hz)) with rfl | hz'
      · exact absurd (m1 _ hz) (ir _)
      · exact hz'
/-! ### moves -/
def apartB (zs r : List Int) : Bool := decide (((List.range zs.length).filter fun p => !decide (zs.getD p 0 = r.getD p 0)).length = 1)
def movesL (k : Nat) (zs : List Int) : List (List Int) := zs.zipIdx.flatMap fun q => ((List.range k).filter fun i => !decide (((i : Nat) : Int) = q.1)).map fun i => zs.set q.2 ((i : Nat) : Int)
theorem mem_movesL {k : Nat} {zs r : List Int} : r ∈ movesL k zs ↔ ∃ (p i : Nat) (z : Int), zs[p]? = some z ∧ i < k ∧ ((i : Nat) : Int) ≠ z ∧ r = zs.set p (i : Int) := by
  unfold movesL
  rw [List.mem_flatMap]
  constructor
  · rintro ⟨⟨z, p⟩, hq, hr⟩
    obtain ⟨i, hi, rfl⟩ := List.mem_map.mp hr
    obtain ⟨h1, h2⟩ := List.mem_filter.mp hi
    refine ⟨p, i, z, ?_, List.mem_range.mp h1, ?_, rfl⟩
    · obtain ⟨j, hj, e⟩ := List.getElem_of_mem hq
      rw [List.getElem_zipIdx] at e
      rw [List.length_zipIdx] at hj
      have e1 := congrArg Prod.fst e
      have e2 := congrArg Prod.snd e
      simp at e1 e2
      rw [← e2, List.getElem?_eq_getElem hj, e1]
    · simpa using h2
  · rintro ⟨p, i, z, ez, hi, hne, rfl⟩
    exact ⟨(z, p), List.mem_of_getElem? (zipIdx_at ez), List.mem_map.mpr ⟨i, List.mem_filter.mpr ⟨List.mem_range.mpr hi, by simpa using hne⟩, rfl⟩⟩
theorem apart_set {zs : List Int} {p : Nat} {z i : Int} (e : zs[p]? = some z) (hne : i ≠ z) : apartB zs (zs.set p i) = true := by
  have hp := (List.getElem?_eq_some_iff.mp e).1
  unfold apartB
  rw [decide_eq_true_eq]
  have : ((List.range zs.length).filter fun q => !decide (zs.getD q 0 = (zs.set p i).getD q 0)) = (List.range zs.length).filter fun q => decide (q = p) := by
    refine List.filter_congr fun q hq => ?_
    have hq := List.mem_range.mp hq
    by_cases hqp : q = p
    · subst hqp
      rw [getD_at e, getD_at (show (zs.set q i)[q]? = some i by rw [List.getElem?_set, if_pos rfl, if_pos hp])]
      simp
      exact fun h => hne h.symm
    · have : (zs.set p i)[q]? = zs[q]? := by rw [List.getElem?_set, if_neg (fun h => hqp h.symm)]
      rw [List.getD_eq_getElem?_getD, List.getD_eq_getElem?_getD, this]
      simp [hqp]
  rw [this]
  have : ((List.range zs.length).filter fun q => decide (q = p)).length = (List.range zs.length).count p := by
    rw [List.count_eq_countP, List.countP_eq_length_filter]
    congr 1
  rw [this]
  rw [List.Nodup.count List.nodup_range, if_pos (List.mem_range.mpr hp)]
theorem apart_ex {zs r : List Int} (hl : r.length = zs.length) (h : apartB zs r = true) : ∃ (p : Nat) (z i : Int), zs[p]? = some z ∧ r[p]? = some i ∧ i ≠ z ∧ r = zs.set p i := by
  unfold apartB at h
  rw [decide_eq_true_eq] at h
  obtain ⟨p, hp⟩ := List.length_eq_one_iff.mp h
  have hm : ∀ q, q < zs.length → (zs.getD q 0 ≠ r.getD q 0 ↔ q = p) := fun q hq => by
    have : q ∈ ((List.range zs.length).filter fun p => !decide (zs.getD p 0 = r.getD p 0)) ↔ q ∈ [p] := by rw [hp]
    rw [List.mem_filter, List.mem_singleton, List.mem_range] at this
    rw [← this]
    simp [hq]
  have hpl : p < zs.length := by
    have : p ∈ ((List.range zs.length).filter fun p => !decide (zs.getD p 0 = r.getD p 0)) := by rw [hp]; exact List.mem_singleton.mpr rfl
    exact List.mem_range.mp (List.mem_filter.mp this).1
  refine ⟨p, zs[p], r[p], List.getElem?_eq_getElem hpl, List.getElem?_eq_getElem (by omega), ?_, ?_⟩
  · have := (hm p hpl).mpr rfl
    rw [List.getD_eq_getElem?_getD, List.getD_eq_getElem?_getD, List.getElem?_eq_getElem hpl, List.getElem?_eq_getElem (by omega)] at this
    exact fun e => this e.symm
  · refine List.ext_getElem (by rw [List.length_set, hl]) fun q h1 h2 => ?_
    rw [List.getElem_set]
    by_cases e : p = q
    · subst e
      rw [if_pos rfl]
    · rw [if_neg e]
      have hq : q < zs.length := by omega
      have := mt (hm q hq).mp (fun h => e h.symm)
      rw [Classical.not_not, List.getD_eq_getElem?_getD, List.getD_eq_getElem?_getD, List.getElem?_eq_getElem hq, List.getElem?_eq_getElem (by omega)] at this
      exact this.symm
theorem movesL_nodup {k : Nat} {zs : List Int} : (movesL k zs).Nodup := by
  unfold movesL
  have key : ∀ L : List (Int × Nat), (∀ q ∈ L, zs[q.2]? = some q.1) → (L.map Prod.snd).Nodup → (L.flatMap fun q => ((List.range k).filter fun i => !decide (((i : Nat) : Int) = q.1)).map fun i => zs.set q.2 ((i : Nat) : Int)).Nodup := fun L => by
    induction L with
    | nil => intro _ _; simp
    | cons q L ih =>
      intro hz hn
      rw [List.map_cons] at hn
      obtain ⟨n1, n2⟩ := List.nodup_cons.mp hn
      have hq := hz q List.mem_cons_self
      have hql := (List.getElem?_eq_some_iff.mp hq).1
      rw [List.flatMap_cons]
      refine List.nodup_append.mpr ⟨?_, ih (fun c hc => hz c (List.mem_cons_of_mem _ hc)) n2, fun x hx y hy => ?_⟩
      · unfold List.Nodup
        rw [List.pairwise_map]
        refine (List.Pairwise.filter _ List.nodup_range).imp fun {i j} hij e => hij ?_
        have := congrArg (fun l : List Int => l[q.2]?) e
        simp only [List.getElem?_set_self hql] at this
        have := Option.some.inj this
        omega
      · rintro rfl
        obtain ⟨i, hi, rfl⟩ := List.mem_map.mp hx
        obtain ⟨c, hc, hy⟩ := List.mem_flatMap.mp hy
        obtain ⟨j, hj, e⟩ := List.mem_map.mp hy
        have hne : c.2 ≠ q.2 := fun h => n1 (h ▸ List.mem_map.mpr ⟨c, hc, rfl⟩)
        have := congrArg (fun l : List Int => l[q.2]?) e
        simp only [List.getElem?_set_self hql, List.getElem?_set_ne hne] at this
        rw [hq] at this
        have h2 := (List.mem_filter.mp hi).2
        simp at h2
        exact h2 (Option.some.inj this).symm
  refine key zs.zipIdx (fun q hq => ?_) ?_
  · obtain ⟨j, hj, e⟩ := List.getElem_of_mem hq
    rw [List.getElem_zipIdx] at e
    rw [List.length_zipIdx] at hj
    rw [← e]
    simp [List.getElem?_eq_getElem hj]
  · have : zs.zipIdx.map Prod.snd = List.range zs.length := by
      rw [List.zipIdx_map_snd, List.range_eq_range']
    rw [this]
    exact List.nodup_range
end My

set_option Elab.async false
set_option linter.all false
set_option maxRecDepth 100000
set_option maxHeartbeats 4000000
namespace My
open PySem PySem.Spec PyProof.Rows L2
theorem sortU {X : Cx} (K : PySem.W.Frag) {d : Nat} {B : Int} (hd : 1 ≤ d) (h : X.K = K := by rfl) : CallR X (.builtin "sorted") (rSortU K d B) := by subst h; exact cr_sortT hd
theorem code_inj {B : Int} : ∀ {x y : List Int}, x.length = y.length → TS.Bd B x → TS.Bd B y → TS.code B x = TS.code B y → x = y
  | [], [], _, _, _, _ => rfl
  | [], _ :: _, h, _, _, _ => by simp at h
  | _ :: _, [], h, _, _, _ => by simp at h
  | a :: x, b :: y, h, hx, hy, e => by
    have hl : x.length = y.length := by simpa using h
    rcases Int.lt_trichotomy a b with hlt | rfl | hlt
    · have := TS.code_lt hl hx.tail hy.tail hlt
      omega
    · have h1 := mt (TS.code_same (B := B) (d := a) hl).mpr (by omega)
      have h2 := mt (TS.code_same (B := B) (d := a) hl.symm).mpr (by omega)
      rw [code_inj hl hx.tail hy.tail (by omega)]
    · have := TS.code_lt hl.symm hy.tail hx.tail hlt
      omega
def untI : PyData → List Int
  | .tuple ds => intsOf ds
  | _ => []
theorem untI_tI (r : List Int) : untI (tI r) = r := intsOf_map r
theorem stand_dealsL {T : List (Int × Int)} {n : Nat} {rs r : List Int} {bs : List (Int × Int)} (h : standD T n rs bs (tI r) = true) : r ∈ dealsL rs.length rs n := by
  unfold standD tI dealingD at h
  simp only [Bool.and_eq_true, decide_eq_true_eq, List.all_eq_true, List.length_map, List.mem_range, intsOf_map] at h
  obtain ⟨⟨h1, h2⟩, h3⟩ := h
  refine mem_dealsL.mpr ⟨by omega, fun j z e => ?_⟩
  unfold optsL
  split
  · next hm =>
    have hl := ixOf_lt hm
    have := h3 _ hl
    unfold okStand at this
    rw [Bool.and_eq_true, decide_eq_true_eq] at this
    have := this.1
    rw [getD_at (ixOf_at hm).1, Int.toNat_natCast, e] at this
    rw [List.mem_singleton]
    exact Option.some.inj this
  · have := h2 (.int z) (List.mem_map.mpr ⟨z, List.mem_of_getElem? e, rfl⟩)
    refine mem_ups.mpr ?_
    simpa [placeD] using this
/-- the standings a move away, in order -/
noncomputable def nextL (T : List (Int × Int)) (n : Nat) (rs : List Int) (bs : List (Int × Int)) (zs : List Int) : List (List Int) := (standL T n rs bs).filter (apartB zs)
theorem nextL_eq {T : List (Int × Int)} {n : Nat} {rs zs : List Int} {bs : List (Int × Int)} {L : List (List Int)} (hz : DealtTo n rs.length zs) (hp : L.Perm ((movesL rs.length zs).filter fun r => standD T n rs bs (tI r))) (hs : L.Pairwise fun x y => TS.code (rs.length : Int) x ≤ TS.code (rs.length : Int) y) : L = nextL T n rs bs zs := by
  have hm : ∀ x, x ∈ L ↔ x ∈ nextL T n rs bs zs := fun x => by
    rw [hp.mem_iff, List.mem_filter]
    unfold nextL standL
    rw [List.mem_filter, List.mem_filter]
    constructor
    · rintro ⟨h1, h2⟩
      obtain ⟨p, i, z, ez, hi, hne, rfl⟩ := mem_movesL.mp h1
      exact ⟨⟨stand_dealsL h2, h2⟩, apart_set ez hne⟩
    · rintro ⟨⟨h1, h2⟩, h3⟩
      obtain ⟨l1, b1⟩ := dealsL_bd rfl h1
      obtain ⟨p, z, i, ez, ei, hne, e⟩ := apart_ex (by rw [l1, hz.1]) h3
      have hi := b1 i (List.mem_of_getElem? ei)
      refine ⟨mem_movesL.mpr ⟨p, i.toNat, z, ez, by omega, ?_, ?_⟩, h2⟩
      · rw [show ((i.toNat : Nat) : Int) = i by omega]
        exact hne
      · rw [show ((i.toNat : Nat) : Int) = i by omega]
        exact e
  have hd : ∀ x ∈ L, x ∈ dealsL rs.length rs n := fun x hx => by
    have := (hm x).mp hx
    unfold nextL standL at this
    exact (List.mem_filter.mp (List.mem_filter.mp this).1).1
  have nd : L.Nodup := hp.nodup_iff.mpr (List.Pairwise.filter _ movesL_nodup)
  have hs2 : L.Pairwise (codeLt (rs.length : Int)) := by
    refine List.pairwise_iff_getElem.mpr fun i j hi hj hij => ?_
    have h1 := List.pairwise_iff_getElem.mp hs i j hi hj hij
    have h2 := List.pairwise_iff_getElem.mp nd i j hi hj hij
    unfold codeLt
    by_cases e : TS.code (rs.length : Int) L[i] = TS.code (rs.length : Int) L[j]
    · obtain ⟨l1, b1⟩ := dealsL_bd rfl (hd _ (List.getElem_mem hi))
      obtain ⟨l2, b2⟩ := dealsL_bd rfl (hd _ (List.getElem_mem hj))
      exact absurd (code_inj (by rw [l1, l2]) (fun m hm => b1 m hm) (fun m hm => b2 m hm) e) h2
    · omega
  refine eq_of_up (r := codeLt (rs.length : Int)) (fun x h => Int.lt_irrefl _ h) (fun x y h1 h2 => by unfold codeLt at h1 h2; omega) hs2 ?_ hm
  unfold nextL standL
  exact List.Pairwise.filter _ (List.Pairwise.filter _ (dealsL_up rfl n))
def spMoves (K : PySem.W.Frag) : Sp := fun vs H Q _ => ∃ (v : V) (ra : Addr) (bv : V) (st : Addr) (n : Nat) (T : List (Int × Int)) (rs : List Int) (bs : List (Int × Int)) (zs : List Int), vs = [v, .ref ra, bv, .ref st] ∧ Dq K H v (webD n T) ∧ WebOk n T ∧ 1 ≤ n ∧ n ≤ 7 ∧ SqT K H ra (rs.map V.int) ∧ Dq K H bv (bD bs) ∧ (∀ y ∈ rs, 0 ≤ y ∧ y < n) ∧ bs.length = rs.length ∧ 1 ≤ rs.length ∧ rs.length ≤ 5 ∧
  SqT K H st (zs.map V.int) ∧ DealtTo n rs.length zs ∧ ∀ (a : Addr) H', H a = none → Same H H' → LAt K [] H' a ((nextL T n rs bs zs).map tI) → Q (.ref a) H'
theorem movesL_len {k : Nat} {zs : List Int} : (movesL k zs).length ≤ zs.length * k := by
  unfold movesL
  have : ∀ L : List (Int × Nat), (L.flatMap fun q => ((List.range k).filter fun i => !decide (((i : Nat) : Int) = q.1)).map fun i => zs.set q.2 ((i : Nat) : Int)).length ≤ L.length * k := fun L => by
    induction L with
    | nil => simp
    | cons q L ih =>
      rw [List.flatMap_cons, List.length_append, List.length_map, List.length_cons, Nat.succ_mul]
      have := List.length_filter_le (fun i : Nat => !decide (((i : Nat) : Int) = q.1)) (List.range k)
      rw [List.length_range] at this
      omega
  have h := this zs.zipIdx
  rw [List.length_zipIdx] at h
  exact h
end My

set_option Elab.async false
set_option linter.all false
set_option maxRecDepth 100000
set_option maxHeartbeats 4000000
namespace My
open PySem PySem.Spec PyProof.Rows L2
def apartN (zs r : List Int) : Nat := ((List.range zs.length).filter fun p => !decide (zs.getD p 0 = r.getD p 0)).length
def spApart (K : PySem.W.Frag) : Sp := fun vs H Q _ => ∃ (a b : V) (zs r : List Int), vs = [a, b] ∧ Dq K H a (tI zs) ∧ Dq K H b (tI r) ∧ r.length = zs.length ∧ zs.length ≤ 100 ∧ ∀ H', Same H H' → Q (.int ((apartN zs r : Nat) : Int)) H'
def BdOk (n : Nat) (bs : List (Int × Int)) : Prop := ∀ b ∈ bs, 1 ≤ b.1 ∧ b.1 ≤ 1 + n ∧ b.1 ≤ b.2 ∧ b.2 ≤ 2000000
def spBounds (K : PySem.W.Frag) : Sp := fun vs H Q _ => ∃ (p c : Addr) (n0 n k : Nat), vs = [.ref p, .int n, .int k] ∧ Pen H p c n0 ∧ n0 ≤ 700000 ∧ 1 ≤ k ∧ k ≤ n ∧ n ≤ 100 ∧
  ∀ (q : Addr) (bs : List (Int × Int)) H', bs.length = k → BdOk n bs → Pen H' p c (n0 + 4 * k) → Same (wo p H) (wo p H') → Dq K (wo p H') (.ref q) (bD bs) → Q (.ref q) H'
def spScene (K : PySem.W.Frag) : Sp := fun vs H Q _ => ∃ (p c : Addr) (n0 most : Nat), vs = [.ref p, .int most] ∧ Pen H p c n0 ∧ n0 ≤ 600000 ∧ 1 ≤ most ∧ most ≤ 7 ∧
  ∀ (q wq ra bq ea : Addr) (n : Nat) (T : List (Int × Int)) (rs : List Int) (bs : List (Int × Int)) H', 1 ≤ n → n ≤ most → WebOk n T → rs.Nodup → (∀ y ∈ rs, 0 ≤ y ∧ y < n) → 1 ≤ rs.length → rs.length ≤ 3 → bs.length = rs.length → BdOk n bs →
    Pen H' p c (n0 + 300) → Same (wo p H) (wo p H') → SqT K (wo p H') q [.ref wq, .ref ra, .ref bq, .ref ea] → Dq K (wo p H') (.ref wq) (webD n T) → Plain (wo p H') ra (rs.map V.int) → Dq K (wo p H') (.ref bq) (bD bs) → LAt K [p] H' ea ((standL T n rs bs).map tI) → H ea = none → Q (.ref q) H'
end My

set_option Elab.async false
set_option linter.all false
set_option maxRecDepth 100000
set_option maxHeartbeats 4000000
namespace My
open PySem PySem.Spec PyProof.Rows L2
def farL (n : Nat) (bs : List (Int × Int)) (k : Nat) : List (Int × Int) := bs.take (k - 1) ++ [((n : Int) + 1, (n : Int) + 2)]
theorem farL_len {n k : Nat} {bs : List (Int × Int)} (h : bs.length = k) (h1 : 1 ≤ k) : (farL n bs k).length = k := by
  unfold farL
  rw [List.length_append, List.length_take]
  simp
  omega
/-- no standing has more places in a part than there are -/
theorem far_none {T : List (Int × Int)} {n : Nat} {rs r : List Int} {bs : List (Int × Int)} (h : bs.length = rs.length) (h1 : 1 ≤ rs.length) : standD T n rs (farL n bs rs.length) (tI r) = false := by
  cases e : standD T n rs (farL n bs rs.length) (tI r) with
  | false => rfl
  | true =>
    exfalso
    unfold standD tI dealingD at e
    simp only [Bool.and_eq_true, decide_eq_true_eq, List.all_eq_true, List.length_map, List.mem_range, intsOf_map] at e
    obtain ⟨⟨e1, _⟩, e3⟩ := e
    have := e3 (rs.length - 1) (by omega)
    unfold okStand at this
    rw [Bool.and_eq_true, Bool.and_eq_true] at this
    have hw := this.2.1
    have hg : (farL n bs rs.length).getD (rs.length - 1) (0, 0) = ((n : Int) + 1, (n : Int) + 2) := by
      refine getD_bs ?_
      unfold farL
      rw [List.getElem?_append_right (by rw [List.length_take]; omega), List.length_take, show rs.length - 1 - min (rs.length - 1) bs.length = 0 by omega]
      rfl
    rw [hg] at hw
    unfold withinB at hw
    rw [Bool.and_eq_true, decide_eq_true_eq, decide_eq_true_eq] at hw
    have := partL_len (zs := r) (i := ((rs.length - 1 : Nat) : Int))
    omega
theorem far_nil {T : List (Int × Int)} {n : Nat} {rs : List Int} {bs : List (Int × Int)} (h : bs.length = rs.length) (h1 : 1 ≤ rs.length) : standL T n rs (farL n bs rs.length) = [] := by
  unfold standL
  refine List.filter_eq_nil_iff.mpr fun r _ => ?_
  rw [far_none h h1]
  decide
theorem bD_far {n k : Nat} {bs : List (Int × Int)} : PyData.tuple ((((bs.map prI).map tI).take (k - 1)) ++ [PyData.tuple [.int ((n : Int) + 1), .int ((n : Int) + 2)]]) = bD (farL n bs k) := by
  unfold bD farL
  rw [List.map_append, List.map_append, List.map_take, List.map_take]
  rfl
theorem sm_bD {n : Nat} {bs : List (Int × Int)} (h : ∀ b ∈ bs, 0 ≤ b.1 ∧ b.1 ≤ 3000000 ∧ 0 ≤ b.2 ∧ b.2 ≤ 3000000) (hl : bs.length ≤ n) : Sm (4 * n) 2 (bD bs) := by
  have : ∀ bs : List (Int × Int), (∀ b ∈ bs, 0 ≤ b.1 ∧ b.1 ≤ 3000000 ∧ 0 ≤ b.2 ∧ b.2 ≤ 3000000) → SmAll (3 * bs.length) 1 ((bs.map prI).map tI) := fun bs => by
    induction bs with
    | nil => intro _; exact SmAll.nil.mono (Nat.zero_le _) (Nat.zero_le _)
    | cons b bs ih =>
      intro h
      have hb := h b List.mem_cons_self
      have h1 : Sm 2 1 (tI (prI b)) := SmAll.tuple (smInts50 (prI b) fun x hx => by
        rcases List.mem_cons.mp hx with rfl | hx
        · omega
        · rw [List.mem_singleton.mp hx]
          omega)
      exact (SmAll.cons h1 (ih fun c hc => h c (List.mem_cons_of_mem _ hc))).mono (by rw [List.length_cons]; omega) (Nat.le_refl 1)
  exact SmAll.tuple ((this bs h).mono (by omega) (Nat.le_refl 1))
theorem LAt.dq {K : PySem.W.Frag} {av : List Addr} {H : Hp} {a : Addr} {ds : List PyData} (h : LAt K av H a ds) : Dq K (wos av H) (.ref a) (.list ds) := by
  obtain ⟨n, xs, e, hx⟩ := h
  exact .lst (SqL.of ((wos_in n).trans e)) hx
theorem standL_len {T : List (Int × Int)} {n : Nat} {rs : List Int} {bs : List (Int × Int)} (h : (dealsL rs.length rs n).length ≤ 1000) : (standL T n rs bs).length ≤ 1000 := by
  unfold standL
  exact Nat.le_trans (List.length_filter_le _ _) h
theorem standL_bd {T : List (Int × Int)} {n : Nat} {rs r : List Int} {bs : List (Int × Int)} (h : r ∈ standL T n rs bs) : DealtTo n rs.length r := by
  unfold standL at h
  exact dealsL_bd rfl (List.mem_filter.mp h).1
theorem fit_stand {T : List (Int × Int)} {n : Nat} {rs : List Int} {bs : List (Int × Int)} {L : List (List Int)} (h : (dealsL rs.length rs n).length ≤ 1000) (hn : n ≤ 12) (hs : L.Sublist (standL T n rs bs)) : Fit 4 (.list (L.map tI)) :=
  Fit.mono (fit_tIs (Nat.le_trans hs.length_le (standL_len h)) fun r hr => by
    obtain ⟨l, _⟩ := standL_bd (hs.subset hr)
    omega) (by decide)
theorem withT {tt : TT} {σ : L2.St} {H : Hp} {Q : Bool → Hp → Prop} (C : Bool → Hp → Prop) (hC : ∀ b H', C b H' → Q b H') (h : ∀ R : Bool → Hp → Prop, (∀ b H', C b H' → R b H') → tt σ H R) : tt σ H Q := h Q hC
theorem apart_iff (zs r : List Int) : decide (((apartN zs r : Nat) : Int) = 1) = apartB zs r := by
  unfold apartB apartN
  rw [Bool.eq_iff_iff, decide_eq_true_eq, decide_eq_true_eq]
  omega
theorem EvQ.moves {K : PySem.W.Frag} {p : Addr} {H0 : Hp} {σ : L2.St} {t1 t2 t3 t4 : TE} {n : Nat} {T : List (Int × Int)} {rs zs : List Int} {bs : List (Int × Int)} (hlst : ∃ us, H0 p = some (.lst us)) (hW : WebOk n T) (n1 : 1 ≤ n) (n7 : n ≤ 7) (hrs : ∀ y ∈ rs, 0 ≤ y ∧ y < n) (hl : bs.length = rs.length) (k1 : 1 ≤ rs.length) (k5 : rs.length ≤ 5) (hz : DealtTo n rs.length zs)
    (h1 : EvQ K [p] H0 σ t1 (webD n T)) (h2 : EvQ K [p] H0 σ t2 (tI rs)) (h3 : EvQ K [p] H0 σ t3 (bD bs)) (h4 : EvQ K [p] H0 σ t4 (tI zs)) : EvN K [p] H0 σ (tCall (spMoves K) [] E0 (tCons t1 (tCons t2 (tCons t3 (tCons t4 tNil))))) ((nextL T n rs bs zs).map tI) := fun H s Q q =>
  h1 H s _ fun x H1 s1 hx => h2 H1 (s.trans s1) _ fun y H2 s2 hy => h3 H2 (s.trans (s1.trans s2)) _ fun z H3 s3 hz' => h4 H3 (s.trans (s1.trans (s2.trans s3))) _ fun u H4 s4 hu => by
    obtain ⟨ra, rfl, hra⟩ := Dq.sqI2 hy
    obtain ⟨st, rfl, hst⟩ := Dq.sqI2 hu
    have s14 := s1.trans (s2.trans (s3.trans s4))
    refine ⟨x, ra, z, st, n, T, rs, bs, zs, rfl, Dq.same (wos_le.trans (s2.trans (s3.trans s4))) hx, hW, n1, n7, My.Same.sqt (wos_le.trans (s3.trans s4)) hra, Dq.same (wos_le.trans s4) hz', hrs, hl, k1, k5, My.Same.sqt wos_le hst, hz, fun a H5 na s5 hL => ?_⟩
    obtain ⟨us, hus⟩ := hlst
    have hp := (s.trans s14) _ _ hus
    have hne : a ≠ p := fun e => by
      rw [e, hp] at na
      cases na
    obtain ⟨nn, xs, ea, hxs⟩ := hL.pen (s5 _ _ hp) hne
    exact q a xs H5 (s14.free na) (s14.trans s5) ea nn hxs
theorem lc_penW {K : PySem.W.Frag} {p c : Addr} {H : Hp} {σ : L2.St} {te : TE} {ta : TA} {Q : VK} {i n0 n st : Nat} {Pr : PyData → Prop} (hta : ∀ (H : Hp) (Q : List V → Hp → Prop), Q [.int (n : Int)] H → ta σ H Q) (pen : Pen H p c n0) (hn : n ≤ 1000)
    (hs : ∀ (k : Nat) (_ : k < n) (av' : List Addr) (H1 : Hp) (n1 : Nat), p ∈ av' → AvL av' H1 → Same (wos [p] H) (wos av' H1) → Pen H1 p c n1 → n1 ≤ n0 + n * st → ∀ R : VK, (∀ x d H', Dq K (wos av' H') x d → Pr d → Pen H' p c (n1 + st) → Same (wo p H1) (wo p H') → R x H') → te ((wipe σ [i]).set i (some (.int k))) H1 R)
    (hw : ∀ k : Nat, wipe ((wipe σ [i]).set i (some (.int k))) [i] = wipe σ [i])
    (q : ∀ a ds H', LAt K [p] H' a ds → (∀ d ∈ ds, Pr d) → ds.length = n → Pen H' p c (n0 + n * st) → Same (wo p H) (wo p H') → Q (.ref a) H') : tLc (iRng1 ta) (gName i) tYes te [i] σ H Q := by
  have hpav : p ∈ [p] := List.mem_singleton.mpr rfl
  refine hta H _ ⟨n, rfl, by omega, by omega, fun D0 hD => ?_⟩
  rw [Int.toNat_natCast]
  have npc := Pen.ne pen hD
  have nD : D0 ∉ [p] := fun h => npc.1 (List.mem_singleton.mp h)
  have hDw : wo p H D0 = none := wo_none hD
  refine lc_range (fun k H3 => Pen H3 p c (n0 + k * st) ∧ Same (wo p H) (wo p H3) ∧ ∃ (us : List V) (ds : List PyData), H3 D0 = some (.lst us) ∧ DqAll K (wos [D0, p] H3) us ds ∧ (∀ d ∈ ds, Pr d) ∧ ds.length = k) ?_ ?_ ?_
  · refine ⟨(Pen.upd pen npc).mono (by omega), My.Same.wo (My.Same.new hD), [], [], upd_same, .nil, (fun d hd => nomatch hd), rfl⟩
  · rintro k H3 hk ⟨pen3, s3, us, ds, eD, hus, hds, hl⟩
    have hav3 : AvL [D0, p] H3 := fun b hb => by
      rcases List.mem_cons.mp hb with rfl | hb
      · exact ⟨_, eD⟩
      · rw [List.mem_singleton.mp hb]
        obtain ⟨us, hus⟩ := Pen.lst pen3
        exact ⟨us, hus⟩
    have hmul : (k + 1) * st = k * st + st := Nat.succ_mul k st
    have hmul2 : k * st ≤ n * st := Nat.mul_le_mul_right st (by omega)
    rw [Int.zero_add]
    refine ⟨hw k, ?_⟩
    show te ((wipe σ [i]).set i (some (.int k))) H3 _
    refine hs k (by omega) [D0, p] H3 (n0 + k * st) (List.mem_cons_of_mem _ hpav) hav3 (wos_more hpav hDw s3) pen3 (by omega) _ (fun y d H4 hy hd pen4 s4 => ?_)
    have k3 : Same (wos [D0, p] H4) (wos [D0, p] (upd H4 D0 (.lst (us ++ [y])))) := wos_put
    refine ⟨us, (wo_some (s4 _ _ ((wo_ne npc.1).trans eD))).2, ?_, (Pen.upd pen4 npc).mono (by omega), wo_updD (s3.trans s4) hDw, us ++ [y], ds ++ [d], upd_same, ?_, fun e he => ?_, by rw [List.length_append, hl]; rfl⟩
    · rw [hus.len, sizeLine_eq]
      omega
    · exact DqAll.append (DqAll.same ((My.Same.wos_of (List.mem_cons_of_mem _ hpav) s4).trans k3) hus) (.cons (Dq.same k3 hy) .nil)
    · rcases List.mem_append.mp he with he | he
      · exact hds e he
      · rw [List.mem_singleton.mp he]
        exact hd
  · rintro H3 ⟨pen3, s3, us, ds, eD, hus, hds, hl⟩
    exact q D0 ds H3 ⟨nD, us, eD, lc_end hus⟩ hds hl pen3 s3
theorem tOp_e2 {r : R2} {t u : TE} {σ : L2.St} {H : Hp} {Q : VK} (h : t σ H fun x H1 => u σ H1 fun y H2 => r x y H2 Q) : tOp r t u σ H Q := h
theorem smBools {α : Type} (f : α → Bool) : ∀ l : List α, SmAll l.length 0 (l.map fun z => PyData.bool (f z))
  | [] => SmAll.nil
  | z :: l => by
    have := SmAll.cons (Sm.bool (b := f z)) (smBools f l)
    exact this.mono (by rw [List.length_cons]; omega) (Nat.le_refl 0)
theorem rep_ints (k : Int) : ∀ n : Nat, (List.replicate n [PyData.int k]).flatten = (List.replicate n k).map PyData.int
  | 0 => rfl
  | n + 1 => by
    rw [List.replicate_succ, List.flatten_cons, rep_ints k n, List.replicate_succ]
    rfl
end My

set_option Elab.async false
set_option linter.all false
set_option maxRecDepth 100000
set_option maxHeartbeats 4000000
namespace K27
open PySem PySem.Spec PyProof.Rows L2 My
def topS (i : Nat) : Stmt := PySem.Challenge.pw_rootparts_k27_standings_and_moves.main.body.getD i (.Pass ⟨0, 0, 0, 0⟩)
abbrev s_law_spread : Stmt := topS 20
theorem sc_law_spread : FnScope ["cell", "at", "primes", "one", "two", "three"] ["cell", "at"] (defScope s_law_spread) := ⟨rfl, rfl, rfl, by decide +kernel, rfl, by decide +kernel, by decide +kernel⟩
abbrev s_law_take : Stmt := topS 21
theorem sc_law_take : FnScope ["pen", "amount", "at", "cell", "found"] ["pen", "amount"] (defScope s_law_take) := ⟨rfl, rfl, rfl, by decide +kernel, rfl, by decide +kernel, by decide +kernel⟩
abbrev s_law_open : Stmt := topS 19
theorem sc_law_open : FnScope ["script", "cells", "k", "cell"] ["script"] (defScope s_law_open) := ⟨rfl, rfl, rfl, by decide +kernel, rfl, by decide +kernel, by decide +kernel⟩
section
variable {P : Program} {w : World} {K : PySem.W.Frag} {mg : Str → Option Value} {base : Heap}
theorem ok_spread {f : Addr} {fd : FuncData} {k : Nat} (F : Fun K "_law_spread" "_law_spread" s_law_spread f fd) (B : Bn mg) : FnOk P w K mg base CX0 (k + 1) f fd ["cell", "at"] spSpread := by
  refine F.ok sc_law_spread (fun vs H Q E h => ?_) (fun cdv A outer s H vs Q E hr h => ?_)
  · obtain ⟨a, ns, rfl, _⟩ := h
    rfl
  · obtain ⟨cell, i, rfl, i0, i1, q⟩ := h
    refine ⟨_, (pss_cons (ps_if (pt_cmpR op_ge (pv 0) (pe_op op_pow pe_int pe_int) (nomark _)) (pss_one (ps_ret (pv 0))) pss_nil)
      (pss_cons (ps_set (i := 2) sc_law_spread.nd rfl (.inl rfl) (pe_lst (pa_cons pe_int (pa_cons pe_int (pa_cons pe_int (pa_cons pe_int (pa_cons pe_int (pa_cons pe_int (pa_cons pe_int (pa_cons pe_int pa_nil))))))))))
      (pss_cons (ps_set (i := 2) sc_law_spread.nd rfl (.inl rfl) (pe_op op_cat (pv 2) (pe_lst (pa_cons pe_int (pa_cons pe_int (pa_cons pe_int (pa_cons pe_int (pa_cons pe_int pa_nil))))))))
      (pss_cons (ps_set (i := 3) sc_law_spread.nd rfl (.inl rfl) (pe_op op_add (pe_op op_add (pe_op op_mul (pe_op op_mod (pe_callTy call_int1 (by rfl) B.int_ (by decide +kernel) (pa_cons (pv 0) pa_nil)) pe_int) (pe_op op_add (pe_op op_mul pe_int (pv 1)) pe_int)) (pe_op op_mul (pv 1) pe_int)) pe_int))
      (pss_cons (ps_set (i := 3) sc_law_spread.nd rfl (.inl rfl) (pe_op op_mod (pe_callTy call_int1 (by rfl) B.int_ (by decide +kernel) (pa_cons (pe_op op_pow (pv 3) pe_int) pa_nil)) (pe_ix (ixL K) (pv 2) (pe_op op_mod (pe_callTy call_int1 (by rfl) B.int_ (by decide +kernel) (pa_cons (pv 1) pa_nil)) pe_int) (fun _ _ => rfl))))
      (pss_cons (ps_set (i := 4) sc_law_spread.nd rfl (.inl rfl) (pe_op op_mod (pe_callTy call_int1 (by rfl) B.int_ (by decide +kernel) (pa_cons (pe_op op_pow (pe_op op_add (pe_op op_add (pe_op op_mul (pv 3) (pe_op op_add (pv 1) pe_int)) (pe_op op_mod (pe_callTy call_int1 (by rfl) B.int_ (by decide +kernel) (pa_cons (pv 0) pa_nil)) pe_int)) pe_int) pe_int) pa_nil)) (pe_ix (ixL K) (pv 2) (pe_op op_mod (pe_callTy call_int1 (by rfl) B.int_ (by decide +kernel) (pa_cons (pe_op op_add (pv 1) pe_int) pa_nil)) pe_int) (fun _ _ => rfl))))
      (pss_cons (ps_set (i := 5) sc_law_spread.nd rfl (.inl rfl) (pe_op op_mod (pe_callTy call_int1 (by rfl) B.int_ (by decide +kernel) (pa_cons (pe_op op_pow (pe_op op_add (pe_op op_add (pv 4) (pe_op op_mod (pe_callTy call_int1 (by rfl) B.int_ (by decide +kernel) (pa_cons (pv 3) pa_nil)) pe_int)) (pv 1)) pe_int) pa_nil)) (pe_ix (ixL K) (pv 2) (pe_op op_mod (pe_callTy call_int1 (by rfl) B.int_ (by decide +kernel) (pa_cons (pe_op op_add (pv 1) pe_int) pa_nil)) pe_int) (fun _ _ => rfl))))
      (pss_one (ps_ret (pe_op op_add (pe_op op_mul (pe_op op_add (pe_op op_mul (pv 3) pe_int) (pv 4)) pe_int) (pv 5))))))))))), ?_⟩
    refine ⟨_, rfl, 10, 18, rfl, rfl, ⟨by decide, by decide, by decide⟩, cell, _, rfl, rfl, _, rfl, ite2 (fun e => ?_) (fun e => ?_)⟩
    · have hc : (0 : Int) ≤ cell := Int.le_trans (by decide : (0 : Int) ≤ 10 ^ (18 : Int).toNat) (dT e)
      exact ⟨_, rfl, q H cell (Same.refl H) hc⟩
    -- primes
    refine ⟨by show 8 ≤ sizeLine; decide, fun l hl => ?_⟩
    refine ⟨_, rfl, by show 5 ≤ sizeLine; decide, fun l2 hl2 => ?_⟩
    have hne : l ≠ l2 := fun z => by
      rw [← z, upd_same] at hl2
      cases hl2
    refine ⟨l, l2, _, _, rfl, rfl, (upd_ne hne).trans upd_same, upd_same, by show 13 ≤ sizeLine; decide, fun l3 hl3 => ?_⟩
    -- one
    generalize hH : upd (upd (upd H l _) l2 _) l3 _ = H3
    have s3 : Same H H3 := by
      rw [← hH]
      exact (Same.new hl).trans ((Same.new hl2).trans (Same.new hl3))
    have hp : H3 l3 = some (.lst (primes.map V.int)) := by
      rw [← hH]
      exact upd_same
    clear hH hl hl2 hl3 hne
    have a0 : 0 ≤ cell % 1000000007 := Int.emod_nonneg _ (by decide)
    have a1 : cell % 1000000007 < 1000000007 := Int.emod_lt_of_pos _ (by decide)
    have b0 : 0 ≤ cell % 65537 := Int.emod_nonneg _ (by decide)
    have b1 : cell % 65537 < 65537 := Int.emod_lt_of_pos _ (by decide)
    obtain ⟨m0, m1⟩ := mul_bd (B := 2069069) a0 (Int.le_of_lt a1) (show 0 ≤ 2 * i + 69069 by omega) (by omega)
    refine ⟨_, rfl, .inl ⟨cell, rfl, ?_⟩⟩
    refine ⟨_, 1000000007, rfl, rfl, by show (0 : Int) < _; decide, ?_⟩
    refine ⟨_, rfl, 2, i, rfl, rfl, .inl ⟨by decide, by decide⟩, ?_⟩
    refine ⟨2 * i, 69069, rfl, rfl, ?_⟩
    refine ⟨_, _, rfl, rfl, .inl ⟨by omega, by omega⟩, ?_⟩
    refine ⟨_, rfl, i, 40503, rfl, rfl, .inr ⟨by decide, by decide⟩, ?_⟩
    refine ⟨_, _, rfl, rfl, _, 977, rfl, rfl, ?_⟩
    dsimp only
    generalize ho : cell % 1000000007 * (2 * i + 69069) + i * 40503 + 977 = one
    have o0 : 0 ≤ one := by omega
    have o1 : one < 18446744073709551616 := by omega
    -- one = int(one ** 3) % primes[at % 13]
    refine ⟨_, rfl, one, 3, rfl, rfl, ⟨by decide, by decide, by omega⟩, .inl ⟨_, rfl, ?_⟩⟩
    obtain ⟨p1, e1, e10, e11⟩ := prime_at (Int.emod_nonneg i (by decide : (13 : Int) ≠ 0)) (Int.emod_lt_of_pos i (by decide))
    refine ⟨_, rfl, _, rfl, .inl ⟨i, rfl, _, 13, rfl, rfl, by show (0 : Int) < _; decide, l3, _, _, _, rfl, rfl, SqL.of hp, e1, ?_⟩⟩
    refine ⟨_, _, rfl, rfl, e10, ?_⟩
    dsimp only
    generalize ho1 : one ^ (3 : Int).toNat % p1 = one1
    have c0 : 0 ≤ one1 := ho1 ▸ Int.emod_nonneg _ (by omega)
    have c1 : one1 < p1 := ho1 ▸ Int.emod_lt_of_pos _ e10
    -- two
    obtain ⟨n0, n1⟩ := mul_bd (B := 1000003) c0 (show one1 ≤ 2147483648 by omega) (show 0 ≤ i + 3 by omega) (by omega)
    refine ⟨_, rfl, _, rfl, i, 3, rfl, rfl, _, _, rfl, rfl, .inl ⟨by omega, by omega⟩, ?_⟩
    refine ⟨_, rfl, .inl ⟨cell, rfl, _, 65537, rfl, rfl, by show (0 : Int) < _; decide, _, _, rfl, rfl, _, 5, rfl, rfl, ?_⟩⟩
    refine ⟨_, 5, rfl, rfl, ⟨by decide, by decide, by omega⟩, .inl ⟨_, rfl, ?_⟩⟩
    obtain ⟨p2, e2, e20, e21⟩ := prime_at (Int.emod_nonneg (i + 5) (by decide : (13 : Int) ≠ 0)) (Int.emod_lt_of_pos (i + 5) (by decide))
    refine ⟨_, rfl, _, rfl, i, 5, rfl, rfl, .inl ⟨i + 5, rfl, _, 13, rfl, rfl, by show (0 : Int) < _; decide, l3, _, _, _, rfl, rfl, SqL.of hp, e2, ?_⟩⟩
    refine ⟨_, _, rfl, rfl, e20, ?_⟩
    dsimp only
    generalize ho2 : (one1 * (i + 3) + cell % 65537 + 5) ^ (5 : Int).toNat % p2 = two
    have d0 : 0 ≤ two := ho2 ▸ Int.emod_nonneg _ (by omega)
    have d1 : two < p2 := ho2 ▸ Int.emod_lt_of_pos _ e20
    -- three
    have f0 : 0 ≤ one1 % 1009 := Int.emod_nonneg _ (by decide)
    have f1 : one1 % 1009 < 1009 := Int.emod_lt_of_pos _ (by decide)
    refine ⟨_, rfl, _, rfl, .inl ⟨one1, rfl, _, 1009, rfl, rfl, by show (0 : Int) < _; decide, _, _, rfl, rfl, _, rfl, _, i, rfl, rfl, ?_⟩⟩
    refine ⟨_, 3, rfl, rfl, ⟨by decide, by decide, by omega⟩, .inl ⟨_, rfl, ?_⟩⟩
    obtain ⟨p3, e3, e30, e31⟩ := prime_at (Int.emod_nonneg (i + 7) (by decide : (13 : Int) ≠ 0)) (Int.emod_lt_of_pos (i + 7) (by decide))
    refine ⟨_, rfl, _, rfl, i, 7, rfl, rfl, .inl ⟨i + 7, rfl, _, 13, rfl, rfl, by show (0 : Int) < _; decide, l3, _, _, _, rfl, rfl, SqL.of hp, e3, ?_⟩⟩
    refine ⟨_, _, rfl, rfl, e30, ?_⟩
    dsimp only
    generalize ho3 : (two + one1 % 1009 + i) ^ (3 : Int).toNat % p3 = three
    have g0 : 0 ≤ three := ho3 ▸ Int.emod_nonneg _ (by omega)
    -- return
    refine ⟨_, rfl, one1, 2147483647, rfl, rfl, .inr ⟨by decide, by decide⟩, ?_⟩
    refine ⟨_, rfl, one1 * 2147483647, two, rfl, rfl, ?_⟩
    refine ⟨_, 2147483647, rfl, rfl, .inr ⟨by decide, by decide⟩, ?_⟩
    refine ⟨_, rfl, _, three, rfl, rfl, ?_⟩
    exact q _ _ s3 (by omega)
theorem ok_take {f : Addr} {fd : FuncData} {k : Nat} (F : Fun K "_law_take" "_law_take" s_law_take f fd) (B : Bn mg) (D_law_spread : Own P w K mg base "_law_spread" k ["cell", "at"] spSpread) : FnOk P w K mg base CX0 (k + 1) f fd ["pen", "amount"] spTake := by
  refine F.ok sc_law_take (fun vs H Q E h => ?_) (fun cdv A outer s H vs Q E hr h => ?_)
  · obtain ⟨p, c, m, n, rfl, _⟩ := h
    rfl
  · obtain ⟨p, c, m, n, rfl, pen, hn, m0, m1, q⟩ := h
    refine ⟨_, (C8.pss_cut (ps_if (pt_cmpR op_lt (pe_ix (ixL K) (pv 0) pe_int (fun _ _ => rfl)) (pv 1) (nomark _)) (pss_cons (ps_set (i := 2) sc_law_take.nd rfl (.inl rfl) (pe_ix (ixL K) (pv 0) pe_int (fun _ _ => rfl)))
      (pss_cons (ps_set (i := 3) sc_law_take.nd rfl (.inl rfl) pe_int)
      (C8.pss_cut (ps_if (pt_cmpR op_lt (pv 2) (pe_callB (lenQ K) (by rfl) B.len (by decide +kernel) (pa_cons (pe_ix (ixL K) (pv 0) pe_int (fun _ _ => rfl)) pa_nil)) (nomark _)) (pss_one (ps_set (i := 3) sc_law_take.nd rfl (.inl rfl) (pe_ix (ixL K) (pe_ix (ixL K) (pv 0) pe_int (fun _ _ => rfl)) (pv 2) (fun _ _ => rfl)))) (pss_one (ps_if (pt_cmpR op_gt (pe_callB (lenQ K) (by rfl) B.len (by decide +kernel) (pa_cons (pe_ix (ixL K) (pv 0) pe_int (fun _ _ => rfl)) pa_nil)) pe_int (nomark _)) (pss_one (ps_set (i := 3) sc_law_take.nd rfl (.inl rfl) (pe_op op_mod (pe_callTy call_int1 (by rfl) B.int_ (by decide +kernel) (pa_cons (pe_ix (ixL K) (pe_ix (ixL K) (pv 0) pe_int (fun _ _ => rfl)) (pe_op op_mod (pe_callTy call_int1 (by rfl) B.int_ (by decide +kernel) (pa_cons (pe_op op_add (pe_op op_mul (pv 2) pe_int) pe_int) pa_nil)) (pe_callB (lenQ K) (by rfl) B.len (by decide +kernel) (pa_cons (pe_ix (ixL K) (pv 0) pe_int (fun _ _ => rfl)) pa_nil))) (fun _ _ => rfl)) pa_nil)) (pe_op op_add (pe_op op_pow pe_int pe_int) (pv 2))))) pss_nil)))
      (pss_cons (ps_asg (pe_op op_add (pv 2) pe_int) (pg_sub (pv 0) pe_int set_list))
      (pss_one (ps_asg (pe_own D_law_spread hr (by rfl) (pa_cons (pv 3) (pa_cons (pv 2) pa_nil))) (pg_sub (pv 0) pe_int set_list))))))) pss_nil)
      (pss_cons (ps_set (i := 4) sc_law_take.nd rfl (.inl rfl) (pe_op op_mod (pe_callTy call_int1 (by rfl) B.int_ (by decide +kernel) (pa_cons (pe_ix (ixL K) (pv 0) pe_int (fun _ _ => rfl)) pa_nil)) (pv 1)))
      (pss_cons (ps_asg (pe_op op_fdiv (pe_ix (ixL K) (pv 0) pe_int (fun _ _ => rfl)) (pv 1)) (pg_sub (pv 0) pe_int set_list))
      (pss_one (ps_ret (pv 4)))))), ?_⟩
    obtain ⟨cs, i, left, hp, hc, hcs, i0, i1, l0⟩ := pen
    have hpc : c ≠ p := ne_of hc hp (by
      intro z
      injection z with z
      cases cs with
      | nil => cases z
      | cons a r => cases z)
    -- what the rest asks: the pen with some number left
    refine ⟨fun σ H1 => ∃ (x2 x3 x4 : Option V) (j l : Int), σ = [some (.ref p), some (.int m), x2, x3, x4] ∧ H1 p = some (.lst [.ref c, .int j, .int l]) ∧ H1 c = some (.lst (cs.map V.int)) ∧ 0 ≤ j ∧ j ≤ n + 1 ∧ 0 ≤ l ∧ Same (wo p H) (wo p H1), ?_, ?_⟩
    · -- if pen[2] < amount
      refine ⟨_, rfl, p, _, 2, _, rfl, rfl, SqL.of hp, rfl, ?_⟩
      refine ⟨_, rfl, left, m, rfl, rfl, _, rfl, ite2 (fun e => ?_) (fun e => ?_)⟩
      · -- at = pen[1]; cell = 0
        refine ⟨_, rfl, p, _, 1, _, rfl, rfl, SqL.of hp, rfl, ?_⟩
        show (∃ Mid, _)
        refine ⟨fun σ H1 => ∃ (cell : Int), σ = [some (.ref p), some (.int m), some (.int i), some (.int cell), none] ∧ H1 = H, ?_, ?_⟩
        · -- if at < len(pen[0])
          refine ⟨_, rfl, _, rfl, p, _, 0, _, rfl, rfl, SqL.of hp, rfl, c, _, rfl, .inl (SqL.of hc), ?_⟩
          refine ⟨i, _, rfl, rfl, _, rfl, ite2 (fun e2 => ?_) (fun e2 => ?_)⟩
          · have h1 : i < ((cs.map V.int).length : Nat) := dT e2
            rw [List.length_map] at h1
            obtain ⟨z, _, hz⟩ := at_int i0 h1
            exact ⟨_, rfl, p, _, 0, _, rfl, rfl, SqL.of hp, rfl, _, rfl, c, _, i, .int z, rfl, rfl, SqL.of hc, hz, _, rfl, rfl⟩
          · refine ⟨_, rfl, p, _, 0, _, rfl, rfl, SqL.of hp, rfl, c, _, rfl, .inl (SqL.of hc), ?_⟩
            refine ⟨_, 0, rfl, rfl, _, rfl, ite2 (fun e3 => ?_) (fun e3 => ?_)⟩
            · have h3 : (0 : Int) < ((cs.map V.int).length : Nat) := dT e3
              rw [List.length_map] at h3
              have k0 : 0 ≤ (i * 5 + 3) % (cs.length : Int) := Int.emod_nonneg _ (by omega)
              have k1 : (i * 5 + 3) % (cs.length : Int) < cs.length := Int.emod_lt_of_pos _ h3
              -- cell = int(pen[0][int(at * 5 + 3) % len(pen[0])]) % (10 ** 17 + at)
              refine ⟨_, rfl, p, _, 0, _, rfl, rfl, SqL.of hp, rfl, ?_⟩
              refine ⟨_, rfl, i, 5, rfl, rfl, .inr ⟨by decide, by decide⟩, _, 3, rfl, rfl, .inl ⟨_, rfl, ?_⟩⟩
              refine ⟨_, rfl, p, _, 0, _, rfl, rfl, SqL.of hp, rfl, c, _, rfl, .inl (SqL.of hc), ?_⟩
              refine ⟨_, _, rfl, rfl, (by rw [List.length_map]; exact h3), ?_⟩
              dsimp only
              rw [List.length_map]
              obtain ⟨z, _, hz⟩ := at_int k0 k1
              refine ⟨c, _, _, .int z, rfl, rfl, SqL.of hc, hz, .inl ⟨_, rfl, ?_⟩⟩
              · refine ⟨10, 17, rfl, rfl, ⟨by decide, by decide, by decide⟩, _, rfl, _, i, rfl, rfl, _, _, rfl, rfl, ?_, _, rfl, rfl⟩
                have : (0 : Int) < 10 ^ (17 : Int).toNat := by decide
                show (0 : Int) < 10 ^ (17 : Int).toNat + i
                omega
            · exact ⟨0, rfl, rfl⟩
        · rintro σ1 H1 ⟨cell, rfl, rfl⟩
          -- pen[1] = at + 1
          refine ⟨_, rfl, i, 1, rfl, rfl, _, rfl, p, _, 1, 1, rfl, rfl, hp, rfl, ?_⟩
          -- pen[2] = _law_spread(cell, at)
          refine ⟨_, rfl, _, rfl, cell, i, rfl, i0, by omega, fun H2 r s2 r0 => ?_⟩
          have hp2 := s2 _ _ (upd_same (H := H1) (a := p) (o := .lst [.ref c, .int (i + 1), .int left]))
          refine ⟨_, rfl, p, _, 2, 2, rfl, rfl, hp2, rfl, ?_⟩
          refine ⟨_, _, _, i + 1, r, rfl, upd_same, ?_, by omega, by omega, r0, ?_⟩
          · rw [upd_ne hpc]
            exact s2 _ _ ((upd_ne hpc).trans hc)
          · exact (My.Same.put).trans ((My.Same.wo s2).trans My.Same.put)
      · exact ⟨_, _, _, i, left, rfl, hp, hc, i0, by omega, l0, Same.refl _⟩
    · rintro σ1 H1 ⟨x2, x3, x4, j, l, rfl, hp1, hc1, j0, j1, l0', sm⟩
      -- found = int(pen[2]) % amount
      refine ⟨_, rfl, p, _, 2, _, rfl, rfl, SqL.of hp1, rfl, .inl ⟨_, rfl, _, rfl, l, m, rfl, rfl, by show (0 : Int) < m; omega, ?_⟩⟩
      -- pen[2] = pen[2] // amount
      refine ⟨_, rfl, p, _, 2, _, rfl, rfl, SqL.of hp1, rfl, _, rfl, l, m, rfl, rfl, ⟨by show (0 : Int) < m; omega, by show m < 1073741824; omega⟩, ?_⟩
      refine ⟨_, rfl, p, _, 2, 2, rfl, rfl, hp1, rfl, ?_⟩
      refine ⟨_, rfl, q _ _ (Int.emod_nonneg _ (by omega)) (Int.emod_lt_of_pos _ (by omega)) ?_ (sm.trans My.Same.put)⟩
      refine ⟨cs, j, l / m, upd_same, (upd_ne hpc).trans hc1, hcs, j0, by omega, Int.ediv_nonneg l0' (by omega)⟩
theorem ok_open {f : Addr} {fd : FuncData} {k : Nat} (F : Fun K "_law_open" "_law_open" s_law_open f fd) (B : Bn mg) : FnOk P w K mg base CX0 (k + 1) f fd ["script"] (spOpen K) := by
  refine F.ok sc_law_open (fun vs H Q E h => ?_) (fun cdv A outer s H vs Q E hr h => ?_)
  · obtain ⟨p, m, rfl, _⟩ := h
    rfl
  · obtain ⟨a, ns, rfl, hS, hn, q⟩ := h
    refine ⟨_, (pss_cons (ps_set (i := 1) sc_law_open.nd rfl (.inl rfl) (pe_callTy (listOf K) (by rfl) B.list_ (by decide +kernel) (pa_cons (pe_slice (slL K) (pv 0) po_none (po_some pe_int)) pa_nil)))
      (pss_cons (ps_for PassesOwn.never rfl (pi_enumK K (by rfl) B.enumerate (pa_cons (pe_slice (slL K) (pv 0) (po_some pe_int) (po_some pe_int)) pa_nil)) (pg_tupK K 2 (by rfl) (pgs_cons (pg_name (i := 2) sc_law_open.nd rfl (.inl rfl)) (pgs_cons (pg_name (i := 3) sc_law_open.nd rfl (.inl rfl)) pgs_nil))) (pss_one (ps_asg (pe_op op_add (pe_ix (ixL K) (pv 1) (pe_op op_mod (pe_callTy call_int1 (by rfl) B.int_ (by decide +kernel) (pa_cons (pv 2) pa_nil)) pe_int) (fun _ _ => rfl)) (pv 3)) (pg_sub (pv 1) (pe_op op_mod (pe_callTy call_int1 (by rfl) B.int_ (by decide +kernel) (pa_cons (pv 2) pa_nil)) pe_int) set_list))))
      (pss_one (ps_ret (pe_lst (pa_cons (pv 1) (pa_cons pe_int (pa_cons pe_int pa_nil)))))))), ?_⟩
    -- cells = list(script[:12])
    refine ⟨_, rfl, 12, rfl, a, _, rfl, hS, fun c1 n1 => ?_⟩
    refine ⟨c1, _, rfl, .inl (SqL.of upd_same), fun c n2 => ?_⟩
    -- enumerate(script[12:63])
    have s1 : Same H (upd (upd H c1 (.lst (cutV (ns.map V.int) none (some 12)))) c (.lst (cutV (ns.map V.int) none (some 12)))) := (My.Same.new n1).trans (My.Same.new n2)
    refine ⟨_, rfl, 12, rfl, 63, rfl, a, _, rfl, s1.seq hS, fun d n3 => ?_⟩
    have hcut : ∀ lo hi, ∃ cs : List Int, cutV (ns.map V.int) lo hi = cs.map V.int := fun lo hi => by
      unfold cutV
      exact ⟨(ns.drop _).take _, by rw [List.map_take, List.map_drop]⟩
    obtain ⟨cs, ecs⟩ := hcut none (some 12)
    have hlen : cs.length = min 12 ns.length := by
      have := congrArg List.length ecs
      rw [List.length_map] at this
      rw [← this]
      unfold cutV
      rw [List.length_take, List.length_drop, List.length_map, HT.sIx_none]
      rw [show HT.sIx ns.length ns.length (some 12) = min 12 ns.length from HT.sIx_nat ns.length ns.length 12]
      omega
    have hdl : (cutV (ns.map V.int) (some 12) (some 63)).length = ns.length - 12 := by
      unfold cutV
      rw [List.length_take, List.length_drop, List.length_map]
      rw [show HT.sIx ns.length ns.length (some 63) = min 63 ns.length from HT.sIx_nat ns.length ns.length 63, show HT.sIx ns.length 0 (some 12) = min 12 ns.length from HT.sIx_nat ns.length 0 12]
      omega
    obtain ⟨ds, eds⟩ := hcut (some 12) (some 63)
    rw [eds] at hdl
    rw [List.length_map] at hdl
    have n3' := n3
    rw [ecs] at n3'
    have hcd : c ≠ d := fun z => by
      rw [← z, upd_same] at n3
      cases n3
    refine ⟨d, ds.map V.int, rfl, SqL.of (by rw [upd_same, eds]), ?_⟩
    refine for_enumL (xs := ds.map V.int) (fun i σ H1 => ∃ (x2 x3 : Option V) (zs : List Int), σ = [some (.ref a), some (.ref c), x2, x3] ∧ H1 c = some (.lst (zs.map V.int)) ∧ zs.length = cs.length ∧ H1 d = some (.lst (ds.map V.int)) ∧ Same H H1) ?_ ?_ ?_ ?_
    · refine ⟨none, none, cs, rfl, ?_, rfl, by rw [upd_same, eds], s1.trans (My.Same.new n3)⟩
      rw [upd_ne hcd, upd_same, ecs]
    · rintro i σ H1 hi ⟨x2, x3, zs, _, _, _, hd, _⟩
      exact SqL.of hd
    · rintro i x T σ H1 hx ⟨x2, x3, zs, rfl, hc, hz, hd, sm⟩ hT
      have hi : i < ds.length := by
        have := (List.getElem?_eq_some_iff.mp hx).1
        rwa [List.length_map] at this
      have h12 : cs.length = 12 := by omega
      obtain ⟨y, hy⟩ : ∃ y, x = .int y := by
        rw [List.getElem?_map] at hx
        cases e : ds[i]? with
        | none => rw [e] at hx; cases hx
        | some y => rw [e] at hx; exact ⟨y, (Option.some.inj hx).symm⟩
      subst hy
      have sT : Same H1 (upd H1 T (.tup [.int (i : Nat), .int y])) := My.Same.new hT
      have hc2 := sT _ _ hc
      have k0 : 0 ≤ ((i : Nat) : Int) % 12 := Int.emod_nonneg _ (by decide)
      have k1 : ((i : Nat) : Int) % 12 < 12 := Int.emod_lt_of_pos _ (by decide)
      obtain ⟨z, hz1, hz2⟩ := at_int (cs := zs) k0 (by omega)
      refine ⟨T, _, rfl, SqT.of upd_same, rfl, _, _, rfl, _, _, rfl, rfl, ?_⟩
      -- cells[int(k) % 12] + cell
      refine ⟨_, rfl, _, rfl, .inl ⟨_, rfl, _, 12, rfl, rfl, by show (0 : Int) < _; decide, c, _, _, _, rfl, rfl, SqL.of hc2, hz2, ?_⟩⟩
      refine ⟨_, rfl, z, y, rfl, rfl, ?_⟩
      refine ⟨_, rfl, _, rfl, .inl ⟨_, rfl, _, 12, rfl, rfl, by show (0 : Int) < _; decide, c, _, _, (((i : Nat) : Int) % 12).toNat, rfl, rfl, hc2, ?_, ?_⟩⟩
      · unfold ixN
        rw [List.length_map, if_pos k0, if_pos (by omega)]
      · refine ⟨_, _, zs.set (((i : Nat) : Int) % 12).toNat (z + y), rfl, ?_, ?_, ?_, ?_⟩
        · rw [upd_same, set_mapI]
        · rw [List.length_set, hz]
        · rw [upd_ne hcd.symm]
          exact sT _ _ hd
        · intro b o e
          have hb : b ≠ c := ne_of_none e ((My.Same.new n1).free n2)
          rw [upd_ne hb]
          exact sT _ _ (sm _ _ e)
    · rintro σ H1 ⟨x2, x3, zs, rfl, hc, hz, hd, sm⟩
      refine ⟨_, rfl, by show 3 ≤ sizeLine; decide, fun p hp => ?_⟩
      refine q _ p c (sm.trans (My.Same.new hp)) (sm.free hp) ⟨zs, 0, 0, upd_same, ?_, by omega, Int.le_refl 0, Int.le_refl 0, Int.le_refl 0⟩
      rw [upd_ne (ne_of_none hc hp)]
      exact hc
end
end K27

set_option Elab.async false
set_option linter.all false
set_option maxRecDepth 100000
set_option maxHeartbeats 4000000
namespace K27
open PySem PySem.Spec PyProof.Rows L2 My
abbrev s_is_whole : Stmt := topS 1
theorem sc_is_whole : FnScope ["value"] ["value"] (defScope s_is_whole) := ⟨rfl, rfl, rfl, by decide +kernel, rfl, by decide +kernel, by decide +kernel⟩
abbrev s_is_place : Stmt := topS 2
theorem sc_is_place : FnScope ["n", "value"] ["n", "value"] (defScope s_is_place) := ⟨rfl, rfl, rfl, by decide +kernel, rfl, by decide +kernel, by decide +kernel⟩
section
variable {P : Program} {w : World} {K : PySem.W.Frag} {mg : Str → Option Value} {base : Heap}
theorem ok_is_whole {f : Addr} {fd : FuncData} {m : Nat} (F : Fun K "is_whole" "is_whole" s_is_whole f fd) (B : Bn mg) : FnOk P w K mg base CX0 (m + 1) f fd ["value"] (spWhole K) := by
  refine F.ok sc_is_whole (fun vs H Q E h => ?_) (fun cdv A outer s H vs Q E hr h => ?_)
  · obtain ⟨v, d, rfl, _⟩ := h
    rfl
  · obtain ⟨v, d, rfl, hd, q⟩ := h
    refine ⟨_, (pss_one (ps_ret (pe_and (pe_callB (isi K) (by rfl) B.isinstance (by decide +kernel) (pa_cons (pv 0) (pa_cons (pe_bltn (v := .ty "int") (by rfl) B.int_ (by decide +kernel) rfl) pa_nil))) (pe_one (pe_not (pe_callB (isi K) (by rfl) B.isinstance (by decide +kernel) (pa_cons (pv 0) (pa_cons (pe_bltn (v := .ty "bool") (by rfl) B.bool_ (by decide +kernel) rfl) pa_nil)))))))), ?_⟩
    rw [wholeD_kd] at q
    refine isiV .int rfl hd.knd ⟨_, rfl, ?_⟩
    cases h1 : (kd d).is .int with
    | false =>
      rw [h1] at q
      exact iteF (q H (Same.refl H))
    | true =>
      rw [h1] at q
      refine iteT ?_
      refine isiV .bl rfl hd.knd ⟨_, rfl, q H (Same.refl H)⟩
theorem ok_is_place {f : Addr} {fd : FuncData} {m : Nat} (F : Fun K "is_place" "is_place" s_is_place f fd) (B : Bn mg) (D_is_whole : Own P w K mg base "is_whole" m ["value"] (spWhole K)) : FnOk P w K mg base CX0 (m + 1) f fd ["n", "value"] (spPlace K) := by
  refine F.ok sc_is_place (fun vs H Q E h => ?_) (fun cdv A outer s H vs Q E hr h => ?_)
  · obtain ⟨n, v, d, rfl, _⟩ := h
    rfl
  · obtain ⟨n, v, d, rfl, hd, q⟩ := h
    refine ⟨_, (pss_one (ps_ret (pe_and (pe_own D_is_whole hr (by rfl) (pa_cons (pv 1) pa_nil)) (pe_one (pe_chain op_le op_lt pe_int (pv 1) (pv 0)))))), ?_⟩
    refine ⟨_, rfl, v, d, rfl, hd, fun H1 s1 => ⟨_, rfl, ?_⟩⟩
    cases hw : wholeD d with
    | false =>
      rw [placeD_whole hw] at q
      exact iteF (q H1 s1)
    | true =>
      obtain ⟨i, rfl⟩ := wholeD_int hw
      cases hd
      refine iteT ⟨_, rfl, 0, i, rfl, rfl, _, rfl, ?_⟩
      by_cases h0 : (0 : Int) ≤ i
      · rw [if_pos (decide_eq_true h0)]
        refine ⟨_, rfl, i, n, rfl, rfl, ?_⟩
        have q' := q H1 s1
        simp only [placeD, decide_eq_true h0, Bool.true_and] at q'
        exact q'
      · rw [if_neg (fun z => h0 (of_decide_eq_true z))]
        have q' := q H1 s1
        simp only [placeD, decide_eq_false h0, Bool.false_and] at q'
        exact q'
end
end K27

set_option Elab.async false
set_option linter.all false
set_option maxRecDepth 100000
set_option maxHeartbeats 4000000
namespace K27
open PySem PySem.Spec PyProof.Rows L2 My
abbrev s_is_dealing : Stmt := topS 9
theorem sc_is_dealing : FnScope ["n", "k", "value", "part"] ["n", "k", "value"] (defScope s_is_dealing) := ⟨rfl, rfl, rfl, by decide +kernel, rfl, by decide +kernel, by decide +kernel⟩
abbrev s_part_of : Stmt := topS 10
theorem sc_part_of : FnScope ["dealing", "i", "place", "part"] ["dealing", "i"] (defScope s_part_of) := ⟨rfl, rfl, rfl, by decide +kernel, rfl, by decide +kernel, by decide +kernel⟩
section
variable {P : Program} {w : World} {K : PySem.W.Frag} {mg : Str → Option Value} {base : Heap}
theorem ok_is_dealing {f : Addr} {fd : FuncData} {m : Nat} (F : Fun K "is_dealing" "is_dealing" s_is_dealing f fd) (B : Bn mg) (D_is_place : Own P w K mg base "is_place" m ["n", "value"] (spPlace K)) : FnOk P w K mg base CX0 (m + 1) f fd ["n", "k", "value"] (spDealing K) := by
  refine F.ok sc_is_dealing (fun vs H Q E h => ?_) (fun cdv A outer s H vs Q E hr h => ?_)
  · obtain ⟨n, k, v, d, W, D, rfl, _⟩ := h
    rfl
  · obtain ⟨n, k, v, d, W, D, rfl, hd, sm, hW, q⟩ := h
    refine ⟨_, (pss_cons (ps_if ((pw_or (pt_not (pt_val (pe_callB (isi K) (by rfl) B.isinstance (by decide +kernel) (pa_cons (pv 2) (pa_cons (pe_bltn (v := .ty "tuple") (by rfl) B.tuple_ (by decide +kernel) rfl) pa_nil))))) (pw_or1 (pt_cmpR op_ne (pe_callB (lenQ K) (by rfl) B.len (by decide +kernel) (pa_cons (pv 2) pa_nil)) (pv 0) (nomark _))))).pt (pss_one (ps_ret pe_bl)) pss_nil)
      (pss_one (ps_ret (pe_callB (allL K rfl) (by rfl) B.all (by decide +kernel) (pa_cons (pe_lc (own := [("part", 3)]) (by rfl) sc_is_dealing.nd (pi_tupK K (pv 2)) (blkOk_by (own := [("part", 3)]) (N := ["n", "k", "value", "part"]) (sc := (defScope s_is_dealing)) (by decide +kernel)) (fun _ _ _ _ _ => (pg_name (i := 3) sc_is_dealing.nd rfl (.inl rfl))) (fun _ _ _ _ _ => pts_nil) (fun _ _ _ _ _ => (pe_own D_is_place hr (by rfl) (pa_cons (pv 1) (pa_cons (pv 3) pa_nil))))) pa_nil))))), ?_⟩
    by_cases hk : ∃ ds, d = .tuple ds
    · obtain ⟨ds, rfl⟩ := hk
      obtain ⟨t, xs, rfl, hT, hxs⟩ := hd.un_tup
      have hl := Nat.le_trans sm.lenW hW
      have hlen := hxs.len
      refine isiV .tup rfl (sqt_knd hT) ⟨_, rfl, iteF ?_⟩
      refine ⟨_, rfl, t, xs, rfl, .inr hT, _, rfl, rfl, _, rfl, ?_⟩
      rw [hlen]
      by_cases h0 : (ds.length : Int) = n
      · rw [decide_eq_true (show V.int (ds.length : Int) = V.int n by rw [h0])]
        simp only [dealingD, h0, decide_true, Bool.true_and] at q
        refine iteF ?_
        refine ⟨_, rfl, t, rfl, ⟨xs, hT⟩, fun D hD => ?_⟩
        refine lc_tup (xs := xs) (BsAt H D (ds.map (placeD k))) (BsAt.start hD) (fun i H3 _ h => My.Same.sqt h.1 hT) ?_ ?_
        · rintro i x H3 ex hB
          obtain ⟨d, e1, p1⟩ := hxs.get ex
          refine ⟨rfl, ?_⟩
          refine ⟨_, rfl, _, rfl, k, x, d, rfl, Dq.same hB.1 p1, fun H4 s4 => ?_⟩
          exact hB.next hD s4 (map_get e1) (by rw [List.length_map]; omega)
        · rintro H3 hB
          refine ⟨D, ds.map (placeD k), rfl, SqL.of (hB.all (by rw [List.length_map]; omega)), ?_⟩
          rw [all_map]
          exact q H3 hB.1
      · rw [decide_eq_false (show ¬ V.int (ds.length : Int) = V.int n from fun z => h0 (V.int.inj z))]
        have q' := q H (Same.refl H)
        simp only [dealingD, h0, decide_false, Bool.false_and] at q'
        exact iteT q'
    · refine isiV .tup rfl hd.knd ⟨_, rfl, ?_⟩
      cases d with
      | tuple ds => exact absurd ⟨ds, rfl⟩ hk
      | _ => exact iteT (q H (Same.refl H))
theorem ok_part_of {f : Addr} {fd : FuncData} {m : Nat} (F : Fun K "part_of" "part_of" s_part_of f fd) (B : Bn mg) : FnOk P w K mg base CX0 (m + 1) f fd ["dealing", "i"] (spPartOf K) := by
  refine F.ok sc_part_of (fun vs H Q E h => ?_) (fun cdv A outer s H vs Q E hr h => ?_)
  · obtain ⟨st, ss, i, rfl, _⟩ := h
    rfl
  · obtain ⟨st, ss, i, rfl, hS, hl, q⟩ := h
    refine ⟨_, (pss_one (ps_ret (pe_callTy (tupleOf K) (by rfl) B.tuple_ (by decide +kernel) (pa_cons (pe_lc (own := [("place", 2), ("part", 3)]) (by rfl) sc_part_of.nd (pi_enumTK K (by rfl) B.enumerate (pa_cons (pv 0) pa_nil)) (blkOk_by (own := [("place", 2), ("part", 3)]) (N := ["dealing", "i", "place", "part"]) (sc := (defScope s_part_of)) (by decide +kernel)) (fun _ _ _ _ _ => (pg_tupK K 2 (by rfl) (pgs_cons (pg_name (i := 2) sc_part_of.nd rfl (.inl rfl)) (pgs_cons (pg_name (i := 3) sc_part_of.nd rfl (.inl rfl)) pgs_nil)))) (fun _ _ _ _ _ => (pts_one (pt_cmpR op_eq (pv 3) (pv 1) (nomark _)))) (fun _ _ _ _ _ => (pv 2))) pa_nil)))), ?_⟩
    refine ⟨_, rfl, st, _, rfl, hS, fun D hD => ?_⟩
    refine lc_enumT (xs := ss.map V.int) (fun j H3 => Same H H3 ∧ H3 D = some (.lst (((ups j).filter (inP ss i)).map V.int))) ⟨My.Same.new hD, upd_same⟩ (fun j H3 hP => My.Same.sqt hP.1 hS) ?_ ?_
    · rintro j x T3 H3 ex ⟨s3, eD⟩ hT3
      obtain ⟨z, ez, rfl⟩ : ∃ z, ss[j]? = some z ∧ x = .int z := by
        rw [List.getElem?_map] at ex
        cases e : ss[j]? with
        | none => rw [e] at ex; cases ex
        | some y => rw [e] at ex; exact ⟨y, rfl, (Option.some.inj ex).symm⟩
      have hj : j < ss.length := (List.getElem?_eq_some_iff.mp ez).1
      have sT := My.Same.new (o := HO.tup [V.int (j : Nat), V.int z]) hT3
      refine ⟨T3, _, rfl, SqT.of upd_same, rfl, _, _, rfl, _, _, rfl, rfl, rfl, ?_⟩
      refine ⟨_, rfl, _, rfl, rfl, _, rfl, ?_⟩
      rw [dInt_iff (p := z = i) Iff.rfl, ← inP_at (i := i) ez]
      have hlen : ((ups j).filter (inP ss i)).length ≤ 100 := by
        have := List.length_filter_le (inP ss i) (ups j)
        rw [ups_len] at this
        omega
      cases ho : inP ss i (j : Int) with
      | true =>
        refine iteT ⟨_, rfl, _, sT _ _ eD, by rw [List.length_map]; exact smallT (by omega), My.Same.updD (s3.trans sT) hD, ?_⟩
        rw [upd_same, ups_succ, List.filter_append, List.filter_cons_of_pos ho, map_snoc]
        rfl
      | false =>
        refine iteF ⟨s3.trans sT, ?_⟩
        rw [sT _ _ eD, ups_succ, List.filter_append, List.filter_cons_of_neg (by rw [ho]; decide), List.filter_nil, List.append_nil]
    · rintro H3 ⟨s3, eD⟩
      rw [List.length_map] at eD
      exact ⟨D, _, rfl, .inl ⟨SqL.of eD, fun a ha => q a _ (s3.trans (My.Same.new ha)) (SqT.of upd_same)⟩⟩
end
end K27

set_option Elab.async false
set_option linter.all false
set_option maxRecDepth 100000
set_option maxHeartbeats 4000000
namespace K27
open PySem PySem.Spec PyProof.Rows L2 My
abbrev s_neighbours : Stmt := topS 3
theorem sc_neighbours : FnScope ["web", "place", "ties", "lesser", "greater", "a", "b"] ["web", "place"] (defScope s_neighbours) := ⟨rfl, rfl, rfl, by decide +kernel, rfl, by decide +kernel, by decide +kernel⟩
section
variable {P : Program} {w : World} {K : PySem.W.Frag} {mg : Str → Option Value} {base : Heap}
theorem ok_neighbours {f : Addr} {fd : FuncData} {m : Nat} (F : Fun K "neighbours" "neighbours" s_neighbours f fd) (B : Bn mg) : FnOk P w K mg base CX0 (m + 1) f fd ["web", "place"] (spNbr K) := by
  refine F.ok sc_neighbours (fun vs H Q E h => ?_) (fun cdv A outer s H vs Q E hr h => ?_)
  · obtain ⟨v, n, T, x, rfl, _⟩ := h
    rfl
  · obtain ⟨v, n, T, x, rfl, hv, hT1, q⟩ := h
    obtain ⟨wa, ta, ts, rfl, hW, hTs, lts, get⟩ := hv.web
    refine ⟨_, (pss_cons (ps_set (i := 2) sc_neighbours.nd rfl (.inl rfl) (pe_ix (ixT K) (pv 0) pe_int (fun _ _ => rfl)))
      (pss_cons (ps_setLc (i := 3) (own := [("a", 5), ("b", 6)]) rfl sc_neighbours.nd rfl rfl (sw_true rfl rfl rfl (by decide +kernel)) (pi_tupK K (pv 2)) (blkOk_by (own := [("a", 5), ("b", 6)]) (N := ["web", "place", "ties", "lesser", "greater", "a", "b"]) (sc := (defScope s_neighbours)) (by decide +kernel)) (fun _ _ _ _ _ => (pg_tupK K 2 (by rfl) (pgs_cons (pg_name (i := 5) sc_neighbours.nd rfl (.inl rfl)) (pgs_cons (pg_name (i := 6) sc_neighbours.nd rfl (.inl rfl)) pgs_nil)))) (fun _ _ _ _ _ => (pts_one (pt_cmpR op_eq (pv 6) (pv 1) (nomark _)))) (fun _ _ _ _ _ => (pv 5)))
      (pss_cons (ps_setLc (i := 4) (own := [("a", 5), ("b", 6)]) rfl sc_neighbours.nd rfl rfl (sw_true rfl rfl rfl (by decide +kernel)) (pi_tupK K (pv 2)) (blkOk_by (own := [("a", 5), ("b", 6)]) (N := ["web", "place", "ties", "lesser", "greater", "a", "b"]) (sc := (defScope s_neighbours)) (by decide +kernel)) (fun _ _ _ _ _ => (pg_tupK K 2 (by rfl) (pgs_cons (pg_name (i := 5) sc_neighbours.nd rfl (.inl rfl)) (pgs_cons (pg_name (i := 6) sc_neighbours.nd rfl (.inl rfl)) pgs_nil)))) (fun _ _ _ _ _ => (pts_one (pt_cmpR op_eq (pv 5) (pv 1) (nomark _)))) (fun _ _ _ _ _ => (pv 6)))
      (pss_one (ps_ret (pe_callTy (tupleOf K) (by rfl) B.tuple_ (by decide +kernel) (pa_cons (pe_callB cr_sortedI (by rfl) B.sorted (by decide +kernel) (pa_cons (pe_op op_cat (pv 3) (pv 4)) pa_nil)) pa_nil))))))), ?_⟩
    refine ⟨_, rfl, wa, _, 1, _, rfl, rfl, hW, rfl, ?_⟩
    -- lesser
    refine ⟨_, rfl, ta, rfl, ⟨_, hTs⟩, fun D1 hD1 => ?_⟩
    refine lc_tup (xs := ts) (fun j H3 => Same H H3 ∧ H3 D1 = some (.lst ((((T.take j).filter fun t => decide (t.2 = x)).map (·.1)).map V.int))) ⟨My.Same.new hD1, upd_same⟩ (fun j H3 _ hP => My.Same.sqt hP.1 hTs) ?_ ?_
    · rintro j y H3 ex ⟨s3, eD⟩
      obtain ⟨a, b, t, e1, rfl, ht⟩ := get j y ex
      refine ⟨t, _, rfl, My.Same.sqt s3 ht, rfl, _, _, rfl, _, _, rfl, rfl, rfl, ?_⟩
      refine ⟨_, rfl, _, rfl, rfl, _, rfl, ?_⟩
      rw [dInt_iff (p := b = x) Iff.rfl]
      have hjT : j < T.length := (List.getElem?_eq_some_iff.mp e1).1
      have hl : (((T.take j).filter fun t => decide (t.2 = x)).map (·.1)).length ≤ 1000 := by
        rw [List.length_map]
        have h1 := List.length_filter_le (fun t : Int × Int => decide (t.2 = x)) (T.take j)
        rw [List.length_take] at h1
        omega
      by_cases hb : b = x
      · rw [decide_eq_true hb]
        refine iteT ⟨_, rfl, _, eD, by rw [List.length_map]; exact smallT (by omega), My.Same.updD s3 hD1, ?_⟩
        rw [upd_same, List.take_add_one, e1, List.filter_append, List.map_append, List.map_append]
        show some (HO.lst (_ ++ [V.int a])) = some (HO.lst (_ ++ List.map V.int (List.map _ (List.filter _ [(a, b)]))))
        rw [List.filter_cons_of_pos (by simpa using hb)]
        rfl
      · rw [decide_eq_false hb]
        refine iteF ⟨s3, ?_⟩
        rw [eD, List.take_add_one, e1, List.filter_append, List.map_append, List.map_append]
        show some (HO.lst _) = some (HO.lst (_ ++ List.map V.int (List.map _ (List.filter _ [(a, b)]))))
        rw [List.filter_cons_of_neg (by simpa using hb)]
        simp
    · rintro H1 ⟨s1, eD1⟩
      rw [lts, List.take_length] at eD1
      -- greater
      refine ⟨_, rfl, ta, rfl, ⟨_, My.Same.sqt s1 hTs⟩, fun D2 hD2 => ?_⟩
      refine lc_tup (xs := ts) (fun j H3 => Same H1 H3 ∧ H3 D2 = some (.lst ((((T.take j).filter fun t => decide (t.1 = x)).map (·.2)).map V.int))) ⟨My.Same.new hD2, upd_same⟩ (fun j H3 _ hP => My.Same.sqt (s1.trans hP.1) hTs) ?_ ?_
      · rintro j y H3 ex ⟨s3, eD⟩
        obtain ⟨a, b, t, e1, rfl, ht⟩ := get j y ex
        refine ⟨t, _, rfl, My.Same.sqt (s1.trans s3) ht, rfl, _, _, rfl, _, _, rfl, rfl, rfl, ?_⟩
        refine ⟨_, rfl, _, rfl, rfl, _, rfl, ?_⟩
        rw [dInt_iff (p := a = x) Iff.rfl]
        have hjT : j < T.length := (List.getElem?_eq_some_iff.mp e1).1
        have hl : (((T.take j).filter fun t => decide (t.1 = x)).map (·.2)).length ≤ 1000 := by
          rw [List.length_map]
          have h1 := List.length_filter_le (fun t : Int × Int => decide (t.1 = x)) (T.take j)
          rw [List.length_take] at h1
          omega
        by_cases hb : a = x
        · rw [decide_eq_true hb]
          refine iteT ⟨_, rfl, _, eD, by rw [List.length_map]; exact smallT (by omega), My.Same.updD s3 hD2, ?_⟩
          rw [upd_same, List.take_add_one, e1, List.filter_append, List.map_append, List.map_append]
          show some (HO.lst (_ ++ [V.int b])) = some (HO.lst (_ ++ List.map V.int (List.map _ (List.filter _ [(a, b)]))))
          rw [List.filter_cons_of_pos (by simpa using hb)]
          rfl
        · rw [decide_eq_false hb]
          refine iteF ⟨s3, ?_⟩
          rw [eD, List.take_add_one, e1, List.filter_append, List.map_append, List.map_append]
          show some (HO.lst _) = some (HO.lst (_ ++ List.map V.int (List.map _ (List.filter _ [(a, b)]))))
          rw [List.filter_cons_of_neg (by simpa using hb)]
          simp
      · rintro H2 ⟨s2, eD2⟩
        rw [lts, List.take_length] at eD2
        -- tuple(sorted(lesser + greater))
        have hlen : (nearL T x).length ≤ 2000 := by
          rw [← (nearF_perm x T).length_eq]
          have := nearF_len x T
          omega
        refine ⟨_, rfl, _, rfl, D1, D2, _, _, rfl, rfl, s2 _ _ eD1, eD2, ?_, fun ca hca => ?_⟩
        · have h1 : (nearL T x).length = _ := List.length_append
          rw [List.length_map (f := V.int), List.length_map (f := V.int)]
          exact small (by omega)
        rw [← List.map_append]
        refine ⟨ca, nearL T x, rfl, SqL.of upd_same, fun r sa hr hle hsa => ?_⟩
        have er := sortI_eq hr hle
        subst er
        refine ⟨sa, _, rfl, .inl ⟨SqL.of upd_same, fun ra hra => ?_⟩⟩
        exact q ra _ (s1.trans (s2.trans ((My.Same.new hca).trans ((My.Same.new hsa).trans (My.Same.new hra))))) (SqT.of upd_same)
end
end K27

set_option Elab.async false
set_option linter.all false
set_option maxRecDepth 100000
set_option maxHeartbeats 4000000
namespace K27
open PySem PySem.Spec PyProof.Rows L2 My
abbrev s_every_neighbours : Stmt := topS 4
theorem sc_every_neighbours : FnScope ["web", "place"] ["web"] (defScope s_every_neighbours) := ⟨rfl, rfl, rfl, by decide +kernel, rfl, by decide +kernel, by decide +kernel⟩
abbrev s_reached_places : Stmt := topS 5
theorem sc_reached_places : FnScope ["near", "lot", "place", "reached", "at", "last", "other"] ["near", "lot", "place"] (defScope s_reached_places) := ⟨rfl, rfl, rfl, by decide +kernel, rfl, by decide +kernel, by decide +kernel⟩
section
variable {P : Program} {w : World} {K : PySem.W.Frag} {mg : Str → Option Value} {base : Heap}
theorem ok_every_neighbours {f : Addr} {fd : FuncData} {m : Nat} (F : Fun K "every_neighbours" "every_neighbours" s_every_neighbours f fd) (B : Bn mg) (D_neighbours : Own P w K mg base "neighbours" m ["web", "place"] (spNbr K)) : FnOk P w K mg base CX0 (m + 1) f fd ["web"] (spEvery K) := by
  refine F.ok sc_every_neighbours (fun vs H Q E h => ?_) (fun cdv A outer s H vs Q E hr h => ?_)
  · obtain ⟨v, n, T, rfl, _⟩ := h
    rfl
  · obtain ⟨v, n, T, rfl, hv, hn, hT, q⟩ := h
    obtain ⟨wa, ta, ts, rfl, hW, hTs, lts, get⟩ := hv.web
    refine ⟨_, (pss_one (ps_ret (pe_lc (own := [("place", 1)]) (by rfl) sc_every_neighbours.nd (pi_range1 (by rfl) B.range (pa_cons (pe_ix (ixT K) (pv 0) pe_int (fun _ _ => rfl)) pa_nil)) (blkOk_by (own := [("place", 1)]) (N := ["web", "place"]) (sc := (defScope s_every_neighbours)) (by decide +kernel)) (fun _ _ _ _ _ => (pg_name (i := 1) sc_every_neighbours.nd rfl (.inl rfl))) (fun _ _ _ _ _ => pts_nil) (fun _ _ _ _ _ => (pe_own D_neighbours hr (by rfl) (pa_cons (pv 0) (pa_cons (pv 1) pa_nil))))))), ?_⟩
    refine ⟨_, rfl, wa, _, 0, _, rfl, rfl, hW, rfl, _, rfl, by omega, by omega, fun D hD => ?_⟩
    rw [Int.toNat_natCast]
    refine lc_range (fun j H3 => Same H H3 ∧ ∃ us : List V, H3 D = some (.lst us) ∧ us.length = j ∧ ∀ (i : Nat) (x : V), us[i]? = some x → ∃ t, x = .ref t ∧ SqT K (wo D H3) t ((nearS T i).map V.int)) ?_ ?_ ?_
    · exact ⟨My.Same.new hD, [], upd_same, rfl, fun i x e => by simp at e⟩
    · rintro j H3 hj ⟨s3, us, eD, lus, hus⟩
      refine ⟨rfl, ?_⟩
      refine ⟨_, rfl, _, rfl, _, (n : Int), T, 0 + (j : Int), rfl, Dq.same s3 hv, hT, fun t H4 s4 ht => ?_⟩
      rw [Int.zero_add] at ht
      have e4 := s4 _ _ eD
      refine ⟨us, e4, by rw [lus]; exact smallT (by omega), My.Same.updD (s3.trans s4) hD, us ++ [.ref t], upd_same, by rw [List.length_append, lus]; rfl, fun i x ei => ?_⟩
      have put := My.Same.put (p := D) (H := H4) (o := HO.lst (us ++ [V.ref t]))
      by_cases hi : i < us.length
      · rw [List.getElem?_append_left hi] at ei
        obtain ⟨t', e1, e2⟩ := hus i x ei
        exact ⟨t', e1, My.Same.sqt ((My.Same.wo s4).trans put) e2⟩
      · have hij : i = j := by
          have := (List.getElem?_eq_some_iff.mp ei).1
          rw [List.length_append] at this
          simp at this
          omega
        subst hij
        rw [List.getElem?_append_right (by omega), show i - us.length = 0 by omega] at ei
        cases ei
        exact ⟨t, rfl, My.Same.sqt put (sqt_wo ht e4)⟩
    · rintro H3 ⟨s3, us, eD, lus, hus⟩
      refine q D H3 s3 ⟨us, SqL.of eD, lus, fun i x ei => ?_⟩
      obtain ⟨t, e1, e2⟩ := hus i x ei
      exact ⟨t, e1, My.Same.sqt wo_le e2⟩
theorem ok_reached_places {f : Addr} {fd : FuncData} {m : Nat} (F : Fun K "reached_places" "reached_places" s_reached_places f fd) (B : Bn mg) : FnOk P w K mg base CX0 (m + 1) f fd ["near", "lot", "place"] (spReached K) := by
  refine F.ok sc_reached_places (fun vs H Q E h => ?_) (fun cdv A outer s H vs Q E hr h => ?_)
  · obtain ⟨nr, lq, n, T, lot, s, rfl, _⟩ := h
    rfl
  · obtain ⟨nr, lq, n, T, lot, s, rfl, hN, hWeb, hn, hLot, s0, s1, q⟩ := h
    obtain ⟨us, hus, lus, uget⟩ := hN
    refine ⟨_, (pss_cons (ps_set (i := 3) sc_reached_places.nd rfl (.inl rfl) (pe_lst (pa_cons (pv 2) pa_nil)))
      (pss_cons (ps_set (i := 4) sc_reached_places.nd rfl (.inl rfl) pe_int)
      (pss_cons (ps_while PassesOwn.never (pt_cmpR op_lt (pv 4) (pe_callB (lenQ K) (by rfl) B.len (by decide +kernel) (pa_cons (pv 3) pa_nil)) (nomark _)) (pss_cons (ps_set (i := 5) sc_reached_places.nd rfl (.inl rfl) (pe_ix (ixL K) (pv 3) (pv 4) (fun _ _ => rfl)))
      (pss_cons (ps_for PassesOwn.never rfl (pi_tupK K (pe_ix (ixL K) (pv 0) (pv 5) (fun _ _ => rfl))) (pg_name (i := 6) sc_reached_places.nd rfl (.inl rfl)) (pss_one (ps_if ((pw_and (pt_cmpR (inQ K) (pv 6) (pv 1) (by rfl)) (pw_and1 (pt_cmpR (notInQ K) (pv 6) (pv 3) (by rfl))))).pt (pss_one (ps_expr (pe_bmK K PySem.F.plainAttrs_list PySem.F.slot_list_append PySem.F.type_list_append mt_append (pv 3) (pa_cons (pv 6) pa_nil)))) pss_nil)))
      (pss_one (ps_aug (i := 4) sc_reached_places.nd rfl (.inl rfl) pe_int ip_add)))))
      (pss_one (ps_ret (pv 3)))))), ?_⟩
    refine ⟨_, rfl, by show 1 ≤ sizeLine; decide, fun fa hfa => ?_⟩
    have sf := My.Same.new (o := HO.lst [V.int s]) hfa
    dsimp only
    refine (show tSeq _ _ _ _ _ from tSeq_e (tAsg_e ?_))
    refine (show tSeq _ _ _ _ _ from tSeq_e ?_)
    refine while_by (fun σ H' => ∃ (x5 x6 : Option V) (k : Nat) (rs : List Int), σ = [some (.ref nr), some (.ref lq), some (.int s), some (.ref fa), some (.int k), x5, x6] ∧ Same H H' ∧ H' fa = some (.lst (rs.map V.int)) ∧ k ≤ rs.length ∧ rs.Nodup ∧ (∀ x ∈ rs, Reach T lot s x) ∧ s ∈ rs ∧ (∀ x ∈ rs, 0 ≤ x ∧ x < n) ∧ ∀ (i : Nat) (x : Int), i < k → rs[i]? = some x → ∀ y ∈ nearS T x, y ∈ lot → y ∈ rs)
      (fun σ _ => from13 σ) ?_ ?_ ?_
    · exact ⟨none, none, 0, [s], rfl, sf, upd_same, Nat.zero_le _, by simp, fun x hx => by rw [List.mem_singleton.mp hx]; exact .base, by simp, fun x hx => by rw [List.mem_singleton.mp hx]; exact ⟨s0, s1⟩, fun i x h => absurd h (Nat.not_lt_zero _)⟩
    · rintro σ H1 ⟨x5, x6, k, rs, rfl, sm, ef, hk, nd, hR, hs, hbd, hcl⟩
      have l12 : rs.length ≤ n := len_bd nd hbd
      refine ⟨_, rfl, _, rfl, fa, _, rfl, .inl (SqL.of ef), _, _, rfl, rfl, _, rfl, ?_⟩
      rw [List.length_map]
      by_cases hlt : (k : Int) < (rs.length : Nat)
      · rw [decide_eq_true hlt]
        refine iteT ?_
        -- last = reached[at]
        refine (show tSeq _ _ _ _ _ from tSeq_e (tAsg_e ?_))
        obtain ⟨z, hz1, hz2⟩ := at_int (cs := rs) (i := (k : Int)) (by omega) hlt
        rw [Int.toNat_natCast] at hz1
        have hzm := List.mem_of_getElem? hz1
        have hzb := hbd z hzm
        refine ⟨_, rfl, _, rfl, fa, _, _, _, rfl, rfl, SqL.of ef, hz2, ?_⟩
        -- for other in near[last]
        dsimp only
        refine (show tSeq _ _ _ _ _ from tSeq_e ?_)
        obtain ⟨v, hv1, hv2⟩ := at_get (xs := us) (i := z) hzb.1 (by omega)
        obtain ⟨t, rfl, ht⟩ := uget z.toNat v hv1
        rw [show ((z.toNat : Nat) : Int) = z by omega] at ht
        refine ⟨_, rfl, _, rfl, nr, us, _, _, rfl, rfl, sm.seq hus, hv2, t, rfl, ⟨_, My.Same.sqt sm ht⟩, ?_⟩
        refine for_tup (xs := (nearS T z).map V.int) (fun j σ H2 => ∃ (x6 : Option V) (ex : List Int), σ = [some (.ref nr), some (.ref lq), some (.int s), some (.ref fa), some (.int k), some (.int z), x6] ∧ Same H H2 ∧ H2 fa = some (.lst ((rs ++ ex).map V.int)) ∧ (rs ++ ex).Nodup ∧ (∀ x ∈ rs ++ ex, Reach T lot s x) ∧ (∀ x ∈ rs ++ ex, 0 ≤ x ∧ x < n) ∧ ∀ y ∈ (nearS T z).take j, y ∈ lot → y ∈ rs ++ ex) ?_ ?_ ?_ ?_
        · exact ⟨x6, [], rfl, sm, by rw [List.append_nil]; exact ef, by rw [List.append_nil]; exact nd, by rw [List.append_nil]; exact hR, by rw [List.append_nil]; exact hbd, fun y hy => by simp at hy⟩
        · rintro j σ H2 _ ⟨_, _, _, s2, _⟩
          exact My.Same.sqt s2 ht
        · rintro j x σ H2 ej ⟨x6, ex, rfl, s2, e2, nd2, hR2, hbd2, hcl2⟩
          obtain ⟨y, ey, rfl⟩ : ∃ y, (nearS T z)[j]? = some y ∧ x = .int y := by
            rw [List.getElem?_map] at ej
            cases e : (nearS T z)[j]? with
            | none => rw [e] at ej; cases ej
            | some y => rw [e] at ej; exact ⟨y, rfl, (Option.some.inj ej).symm⟩
          have hym : y ∈ nearS T z := List.mem_of_getElem? ey
          have l2 := len_bd nd2 hbd2
          -- if other in lot and other not in reached
          refine ⟨_, rfl, _, rfl, lq, _, rfl, .inr (My.Same.sqt s2 hLot), rfl, flat_ints, _, rfl, ?_⟩
          show if inV (.int y) (lot.map V.int) = true then _ else _
          rw [inV_ints]
          by_cases h1 : y ∈ lot
          · rw [decide_eq_true h1]
            refine iteT ?_
            refine ⟨_, rfl, _, rfl, fa, _, rfl, .inl (SqL.of e2), rfl, flat_ints, _, rfl, ?_⟩
            show if (!inV (.int y) ((rs ++ ex).map V.int)) = true then _ else _
            rw [inV_ints]
            by_cases h2 : y ∈ rs ++ ex
            · rw [decide_eq_true h2]
              refine iteF ⟨_, ex, rfl, s2, e2, nd2, hR2, hbd2, fun y' hy' hl => ?_⟩
              rw [List.take_add_one, ey] at hy'
              rcases List.mem_append.mp hy' with hy' | hy'
              · exact hcl2 y' hy' hl
              · rw [show y' = y by simpa using hy']
                exact h2
            · rw [decide_eq_false h2]
              refine iteT ?_
              refine ⟨_, rfl, .inl ⟨rfl, _, SqL.of e2⟩, _, rfl, fa, _, _, rfl, rfl, e2, by rw [List.length_map]; exact smallT (by omega), ?_⟩
              refine ⟨_, ex ++ [y], rfl, My.Same.updD s2 hfa, ?_, ?_, ?_, ?_, ?_⟩
              · rw [upd_same, ← List.append_assoc, map_snoc]
              · rw [← List.append_assoc]
                refine (List.perm_append_comm (l₁ := rs ++ ex) (l₂ := [y])).nodup_iff.mpr (List.nodup_cons.mpr ⟨h2, nd2⟩)
              · intro x hx
                rw [← List.append_assoc] at hx
                rcases List.mem_append.mp hx with hx | hx
                · exact hR2 x hx
                · rw [List.mem_singleton.mp hx]
                  exact .step (hR z hzm) hym h1
              · intro x hx
                rw [← List.append_assoc] at hx
                rcases List.mem_append.mp hx with hx | hx
                · exact hbd2 x hx
                · rw [List.mem_singleton.mp hx]
                  exact nearS_bd hWeb hym
              · intro y' hy' hl
                rw [← List.append_assoc]
                rw [List.take_add_one, ey] at hy'
                rcases List.mem_append.mp hy' with hy' | hy'
                · exact List.mem_append_left _ (hcl2 y' hy' hl)
                · rw [show y' = y by simpa using hy']
                  exact List.mem_append_right _ (by simp)
          · rw [decide_eq_false h1]
            refine iteF ⟨_, ex, rfl, s2, e2, nd2, hR2, hbd2, fun y' hy' hl => ?_⟩
            rw [List.take_add_one, ey] at hy'
            rcases List.mem_append.mp hy' with hy' | hy'
            · exact hcl2 y' hy' hl
            · rw [show y' = y by simpa using hy'] at hl
              exact absurd hl h1
        · rintro σ H2 ⟨x6, ex, rfl, s2, e2, nd2, hR2, hbd2, hcl2⟩
          rw [List.length_map, List.take_length] at hcl2
          -- at += 1
          refine ⟨_, rfl, (k : Int), 1, rfl, rfl, ?_⟩
          refine ⟨⟨_, _, k + 1, rs ++ ex, rfl, s2, e2, by rw [List.length_append]; omega, nd2, hR2, List.mem_append_left _ hs, hbd2, fun i x hi ei y hy hl => ?_⟩, ?_⟩
          · by_cases hik : i < k
            · rw [List.getElem?_append_left (by omega)] at ei
              exact List.mem_append_left _ (hcl i x hik ei y hy hl)
            · have e : i = k := by omega
              subst e
              rw [List.getElem?_append_left (by omega), hz1] at ei
              cases ei
              exact hcl2 y hy hl
          · show 13 - ((k : Int) + 1).toNat < 13 - (k : Int).toNat
            omega
      · rw [decide_eq_false hlt]
        refine iteF ?_
        have hke : k = rs.length := by omega
        refine ⟨_, rfl, q fa rs _ hfa nd (fun x => ⟨hR x, fun h => reach_closed hs (fun x hx y hy hl => ?_) h⟩) (by omega) sm ef⟩
        obtain ⟨i, hi, e⟩ := List.getElem_of_mem hx
        exact hcl i x (by omega) (List.getElem?_eq_some_iff.mpr ⟨hi, e⟩) y hy hl
    · rintro σ H1 Q1 Q2 hq h
      obtain ⟨a1, e1, a2, e2, p, ys, e3, e4, i, j, e5, e6, b, e7, q7⟩ := h
      exact ⟨a1, e1, a2, e2, p, ys, e3, e4, i, j, e5, e6, b, e7, hq _ _ q7⟩
end
end K27

set_option Elab.async false
set_option linter.all false
set_option maxRecDepth 100000
set_option maxHeartbeats 4000000
namespace K27
open PySem PySem.Spec PyProof.Rows L2 My
abbrev s_pieces : Stmt := topS 6
theorem sc_pieces : FnScope ["web", "lot", "near", "found", "met", "place", "piece"] ["web", "lot"] (defScope s_pieces) := ⟨rfl, rfl, rfl, by decide +kernel, rfl, by decide +kernel, by decide +kernel⟩
section
variable {P : Program} {w : World} {K : PySem.W.Frag} {mg : Str → Option Value} {base : Heap}
theorem ok_pieces {f : Addr} {fd : FuncData} {m : Nat} (F : Fun K "pieces" "pieces" s_pieces f fd) (B : Bn mg) (D_every_neighbours : Own P w K mg base "every_neighbours" m ["web"] (spEvery K)) (D_reached_places : Own P w K mg base "reached_places" m ["near", "lot", "place"] (spReached K)) : FnOk P w K mg base CX0 (m + 1) f fd ["web", "lot"] (spPieces K) := by
  refine F.ok sc_pieces (fun vs H Q E h => ?_) (fun cdv A outer s H vs Q E hr h => ?_)
  · obtain ⟨v, n, T, lq, lot, rfl, _⟩ := h
    rfl
  · obtain ⟨v, n, T, lq, lot, rfl, hv, hWeb, n1, n12, hL, lL, bL, uL, q⟩ := h
    refine ⟨_, (pss_cons (ps_set (i := 2) sc_pieces.nd rfl (.inl rfl) (pe_own D_every_neighbours hr (by rfl) (pa_cons (pv 0) pa_nil)))
      (pss_cons (ps_set (i := 3) sc_pieces.nd rfl (.inl rfl) (pe_lst pa_nil))
      (pss_cons (ps_set (i := 4) sc_pieces.nd rfl (.inl rfl) (pe_lst pa_nil))
      (pss_cons (ps_for PassesOwn.never rfl (pi_tupK K (pv 1)) (pg_name (i := 5) sc_pieces.nd rfl (.inl rfl)) (pss_one (ps_if (pt_cmpR (notInQ K) (pv 5) (pv 4) (by rfl)) (pss_cons (ps_set (i := 6) sc_pieces.nd rfl (.inl rfl) (pe_callB cr_sortedI (by rfl) B.sorted (by decide +kernel) (pa_cons (pe_own D_reached_places hr (by rfl) (pa_cons (pv 2) (pa_cons (pv 1) (pa_cons (pv 5) pa_nil)))) pa_nil)))
      (pss_cons (ps_expr (pe_bmK K PySem.F.plainAttrs_list PySem.F.slot_list_append PySem.F.type_list_append mt_append (pv 3) (pa_cons (pe_callTy (tupleOf K) (by rfl) B.tuple_ (by decide +kernel) (pa_cons (pv 6) pa_nil)) pa_nil)))
      (pss_one (ps_expr (pe_bmK K PySem.F.plainAttrs_list PySem.F.slot_list_extend PySem.F.type_list_extend mt_extend (pv 4) (pa_cons (pv 6) pa_nil)))))) pss_nil)))
      (pss_one (ps_ret (pe_callTy (tupleOf K) (by rfl) B.tuple_ (by decide +kernel) (pa_cons (pv 3) pa_nil)))))))), ?_⟩
    have l1000 : T.length ≤ 1000 := by
      have := hWeb.len n12
      omega
    refine (show tSeq _ _ _ _ _ from tSeq_e (tAsg_e ?_))
    refine ⟨_, rfl, v, n, T, rfl, hv, by omega, l1000, fun nr H0 s0 hN => ?_⟩
    dsimp only
    refine (show tSeq _ _ _ _ _ from tSeq_e (tAsg_e ?_))
    refine ⟨by show 0 ≤ sizeLine; decide, fun fa hfa0 => ?_⟩
    have sf := My.Same.new (o := HO.lst []) hfa0
    have hL := My.Same.sqt s0 hL
    dsimp only
    refine (show tSeq _ _ _ _ _ from tSeq_e (tAsg_e ?_))
    refine ⟨by show 0 ≤ sizeLine; decide, fun ma hma => ?_⟩
    have hfm : fa ≠ ma := ne_of_none upd_same hma
    have sm := sf.trans (My.Same.new (o := HO.lst []) hma)
    have hma0 := sf.free hma
    dsimp only
    refine (show tSeq _ _ _ _ _ from tSeq_e ?_)
    refine ⟨_, rfl, lq, rfl, ⟨_, My.Same.sqt sm hL⟩, ?_⟩
    refine for_tup (xs := lot.map V.int) (fun j σ H1 => ∃ (x4 x5 : Option V) (us : List V) (zs : List (Int × List Int)) (ms : List Int), σ = [some v, some (.ref lq), some (.ref nr), some (.ref fa), some (.ref ma), x4, x5] ∧ Same H0 H1 ∧ H1 fa = some (.lst us) ∧ DpAll K H1 us ((zs.map (·.2)).map tI) ∧ H1 ma = some (.lst (ms.map V.int)) ∧ zs.length ≤ j ∧ ms.length ≤ 12 * j ∧ Found T lot j zs ms) ?_ ?_ ?_ ?_
    · exact ⟨none, none, [], [], [], rfl, sm, (upd_ne hfm).trans upd_same, .nil, upd_same, Nat.zero_le _, Nat.zero_le _, Found.start⟩
    · rintro j σ H1 _ ⟨_, _, _, _, _, _, s1, _⟩
      exact My.Same.sqt s1 hL
    · rintro j x σ H1 ej ⟨x4, x5, us, zs, ms, rfl, s1, ef, hus, em, lz, lm, hF⟩
      obtain ⟨z, ez, rfl⟩ : ∃ z, lot[j]? = some z ∧ x = .int z := by
        rw [List.getElem?_map] at ej
        cases e : lot[j]? with
        | none => rw [e] at ej; cases ej
        | some y => rw [e] at ej; exact ⟨y, rfl, (Option.some.inj ej).symm⟩
      have hj : j < lot.length := (List.getElem?_eq_some_iff.mp ez).1
      have hzl := List.mem_of_getElem? ez
      have hzb := bL z hzl
      -- if place not in met
      refine ⟨_, rfl, _, rfl, ma, _, rfl, .inl (SqL.of em), rfl, flat_ints, _, rfl, ?_⟩
      show if (!inV (.int z) (ms.map V.int)) = true then _ else _
      rw [inV_ints]
      by_cases hm : z ∈ ms
      · rw [decide_eq_true hm]
        exact iteF ⟨_, _, us, zs, ms, rfl, s1, ef, hus, em, by omega, by omega, hF.old ez hm⟩
      · rw [decide_eq_false hm]
        refine iteT ?_
        -- piece
        refine (show tSeq _ _ _ _ _ from tSeq_e (tAsg_e ?_))
        refine ⟨_, rfl, _, rfl, _, rfl, nr, lq, n, T, lot, z, rfl, hN.same s1, hWeb, n12, My.Same.sqt s1 hL, hzb.1, hzb.2, fun ra rs H2 _ nd hmr l12 s2 er => ?_⟩
        refine ⟨ra, rs, rfl, SqL.of er, fun r sa hpr hle hsa => ?_⟩
        have hp : PieceIs T lot z r := ⟨le_lt hle (hpr.nodup_iff.mpr nd), fun x => (hpr.mem_iff).trans (hmr x)⟩
        have hef2 := s2 _ _ ef
        have t2 := s2.trans (My.Same.new (o := HO.lst (r.map V.int)) hsa)
        have lr := hp.len bL hzb.1 hzb.2
        have ef2 := t2 _ _ ef
        have em2 := t2 _ _ em
        have hus2 := DpAll.same t2 hus
        have s12 := s1.trans t2
        have es2 : upd H2 sa (.lst (r.map V.int)) sa = some (.lst (r.map V.int)) := upd_same
        generalize upd H2 sa (HO.lst (r.map V.int)) = H2b at t2 ef2 em2 hus2 s12 es2 ⊢
        have lus := My.DpAll.len hus
        rw [List.length_map, List.length_map] at lus
        -- found.append(tuple(piece))
        dsimp only
        refine (show tSeq _ _ _ _ _ from tSeq_e ?_)
        refine ⟨_, rfl, .inl ⟨rfl, _, SqL.of ef2⟩, _, rfl, sa, _, rfl, .inl ⟨SqL.of es2, fun pa hpa => ?_⟩⟩
        have hsf : sa ≠ fa := fun z => by
          rw [z, hef2] at hsa
          cases hsa
        have t2p := My.Same.new (o := HO.tup (r.map V.int)) hpa
        have hr : SqT K (upd H2b pa (.tup (r.map V.int))) pa (r.map V.int) := SqT.of upd_same
        have ef2p := t2p _ _ ef2
        have em2p := t2p _ _ em2
        have es2p := t2p _ _ es2
        have hus2p := DpAll.same t2p hus2
        have s12p := s12.trans t2p
        generalize upd H2b pa (HO.tup (r.map V.int)) = H2c at hr ef2p em2p es2p hus2p s12p ⊢
        refine ⟨fa, _, _, rfl, rfl, ef2p, smallT (by omega), ?_⟩
        have t3 : Same (wo fa H2c) (upd H2c fa (.lst (us ++ [V.ref pa]))) := wo_le_upd
        have s3 : Same H0 (upd H2c fa (.lst (us ++ [V.ref pa]))) := My.Same.updD s12p hfa0
        have hus3 : DpAll K (upd H2c fa (.lst (us ++ [V.ref pa]))) (us ++ [V.ref pa]) (((zs ++ [(z, r)]).map (·.2)).map tI) := by
          rw [List.map_append, List.map_append]
          exact DpAll.append (DpAll.same t3 (tI_wo ef2p hus2p)) (.cons (Dp.ofTI (My.Same.sqt t3 (sqt_wo hr ef2p))) .nil)
        have em3 : upd H2c fa (.lst (us ++ [V.ref pa])) ma = some (.lst (ms.map V.int)) := (upd_ne hfm.symm).trans em2p
        have es3 : upd H2c fa (.lst (us ++ [V.ref pa])) sa = some (.lst (r.map V.int)) := (upd_ne hsf).trans es2p
        have ef3 : upd H2c fa (.lst (us ++ [V.ref pa])) fa = some (.lst (us ++ [V.ref pa])) := upd_same
        generalize upd H2c fa (HO.lst (us ++ [V.ref pa])) = H3 at s3 hus3 em3 es3 ef3 ⊢
        -- met.extend(piece)
        dsimp only
        refine (show tDrop _ _ _ _ from ?_)
        refine ⟨_, rfl, .inl ⟨rfl, _, SqL.of em3⟩, _, rfl, ma, sa, _, _, rfl, rfl, em3, es3, by rw [List.length_map, List.length_map]; exact small (by omega), ?_⟩
        have t4 : Same (wo ma H3) (upd H3 ma (.lst (ms.map V.int ++ r.map V.int))) := wo_le_upd
        refine ⟨_, _, us ++ [.ref pa], zs ++ [(z, r)], ms ++ r, rfl, My.Same.updD s3 hma0, (upd_ne hfm).trans ef3, DpAll.same t4 (tI_wo em3 hus3), ?_, by rw [List.length_append]; exact Nat.succ_le_succ lz, by rw [List.length_append]; omega, hF.new uL ez hm hp⟩
        rw [upd_same, List.map_append]
    · rintro σ H1 ⟨x4, x5, us, zs, ms, rfl, s1, ef, hus, em, lz, lm, hF⟩
      rw [List.length_map] at lz hF
      refine ⟨_, rfl, fa, us, rfl, .inl ⟨SqL.of ef, fun ra hra => ?_⟩⟩
      have t2 := My.Same.new (o := HO.tup us) hra
      exact q ra _ _ hF.done (by rw [List.length_map]; omega) (s0.trans (s1.trans t2)) (.tup (SqT.of upd_same) (DpAll.same t2 hus))
end
end K27

set_option Elab.async false
set_option linter.all false
set_option maxRecDepth 100000
set_option maxHeartbeats 4000000
namespace K27
open PySem PySem.Spec PyProof.Rows L2 My
abbrev s_hangs : Stmt := topS 7
theorem sc_hangs : FnScope ["web", "lot"] ["web", "lot"] (defScope s_hangs) := ⟨rfl, rfl, rfl, by decide +kernel, rfl, by decide +kernel, by decide +kernel⟩
section
variable {P : Program} {w : World} {K : PySem.W.Frag} {mg : Str → Option Value} {base : Heap}
theorem ok_hangs {f : Addr} {fd : FuncData} {m : Nat} (F : Fun K "hangs" "hangs" s_hangs f fd) (B : Bn mg) (D_pieces : Own P w K mg base "pieces" m ["web", "lot"] (spPieces K)) : FnOk P w K mg base CX0 (m + 1) f fd ["web", "lot"] (spHangs K) := by
  refine F.ok sc_hangs (fun vs H Q E h => ?_) (fun cdv A outer s H vs Q E hr h => ?_)
  · obtain ⟨v, n, T, lq, lot, rfl, _⟩ := h
    rfl
  · obtain ⟨v, n, T, lq, lot, rfl, hv, hWeb, n1, n12, hL, lL, bL, uL, q⟩ := h
    refine ⟨_, (pss_one (ps_ret (pe_cmpR op_eq (pe_callB (lenQ K) (by rfl) B.len (by decide +kernel) (pa_cons (pe_own D_pieces hr (by rfl) (pa_cons (pv 0) (pa_cons (pv 1) pa_nil))) pa_nil)) pe_int (nomark _)))), ?_⟩
    refine ⟨_, rfl, _, rfl, v, n, T, lq, lot, rfl, hv, hWeb, n1, n12, hL, lL, bL, uL, fun pa ps H1 hp lp s1 hd => ?_⟩
    cases hd with
    | tup hT2 hds =>
      refine ⟨_, _, rfl, .inr hT2, rfl, ?_⟩
      have := q ps H1 hp s1
      rw [My.DpAll.len hds, List.length_map]
      rw [dInt_iff (p := ps.length = 1) (by omega)]
      exact this
end
end K27

set_option Elab.async false
set_option linter.all false
set_option maxRecDepth 100000
set_option maxHeartbeats 4000000
namespace K27
open PySem PySem.Spec PyProof.Rows L2 My
abbrev s_is_standing : Stmt := topS 13
theorem sc_is_standing : FnScope ["web", "roots", "bounds", "value", "k", "i"] ["web", "roots", "bounds", "value"] (defScope s_is_standing) := ⟨rfl, rfl, rfl, by decide +kernel, rfl, by decide +kernel, by decide +kernel⟩
abbrev s_is_within : Stmt := topS 14
theorem sc_is_within : FnScope ["web", "lot", "bound", "low", "high"] ["web", "lot", "bound"] (defScope s_is_within) := ⟨rfl, rfl, rfl, by decide +kernel, rfl, by decide +kernel, by decide +kernel⟩
section
variable {P : Program} {w : World} {K : PySem.W.Frag} {mg : Str → Option Value} {base : Heap}
theorem dealing_ints {n k : Int} {d : PyData} (h : dealingD n k d = true) : ∃ ds, d = .tuple ds ∧ (ds.length : Int) = n ∧ IntsD ds ∧ ∀ z ∈ intsOf ds, 0 ≤ z ∧ z < k := by
  cases d with
  | tuple ds =>
    simp only [dealingD, Bool.and_eq_true, decide_eq_true_eq] at h
    have hi := placeD_ints h.2
    refine ⟨ds, rfl, h.1, hi, ?_⟩
    have h2 := List.all_eq_true.mp h.2
    clear h
    induction ds with
    | nil => intro z hz; cases hz
    | cons d ds ih =>
      obtain ⟨i, rfl⟩ := hi d List.mem_cons_self
      intro z hz
      rcases List.mem_cons.mp (show z ∈ i :: intsOf ds from hz) with rfl | hz
      · have := h2 (.int z) List.mem_cons_self
        simp only [placeD, Bool.and_eq_true, decide_eq_true_eq] at this
        exact this
      · exact ih (fun e he => hi e (List.mem_cons_of_mem _ he)) (fun e he => h2 e (List.mem_cons_of_mem _ he)) z hz
  | _ => cases h
theorem ok_is_within {f : Addr} {fd : FuncData} {m : Nat} (F : Fun K "_is_within" "_is_within" s_is_within f fd) (B : Bn mg) (D_hangs : Own P w K mg base "hangs" m ["web", "lot"] (spHangs K)) : FnOk P w K mg base CX0 (m + 1) f fd ["web", "lot", "bound"] (spWithin K) := by
  refine F.ok sc_is_within (fun vs H Q E h => ?_) (fun cdv A outer s H vs Q E hr h => ?_)
  · obtain ⟨v, n, T, lq, lot, x, b, rfl, _⟩ := h
    rfl
  · obtain ⟨v, n, T, lq, lot, x, b, rfl, hv, hWeb, n1, n12, hL, lL, bL, uL, hx, q⟩ := h
    refine ⟨_, (pss_cons (ps_asg (pv 2) (pg_tupK K 2 (by rfl) (pgs_cons (pg_name (i := 3) sc_is_within.nd rfl (.inl rfl)) (pgs_cons (pg_name (i := 4) sc_is_within.nd rfl (.inl rfl)) pgs_nil))))
      (pss_one (ps_ret (pe_and (pe_chain op_le op_le (pv 3) (pe_callB (lenQ K) (by rfl) B.len (by decide +kernel) (pa_cons (pv 1) pa_nil)) (pv 4)) (pe_one (pe_own D_hangs hr (by rfl) (pa_cons (pv 0) (pa_cons (pv 1) pa_nil)))))))), ?_⟩
    obtain ⟨bq, rfl, hb⟩ := Dq.sqI2 hx
    refine (show tSeq _ _ _ [some v, some (.ref lq), some (.ref bq), none, none] _ from tSeq_e (tAsg_e ?_))
    refine ⟨_, rfl, bq, _, rfl, hb, rfl, _, _, rfl, _, _, rfl, rfl, ?_⟩
    dsimp only
    refine (show tRet _ _ [some v, some (.ref lq), some (.ref bq), some (.int b.1), some (.int b.2)] _ from ?_)
    have hh : EvQ K [] H [some v, some (.ref lq), some (.ref bq), some (.int b.1), some (.int b.2)] (tCall (spHangs K) [] E0 (tCons (tVar 0) (tCons (tVar 1) tNil))) (.bool (hangsB T lot)) := fun H1 s1 Q1 q1 => ⟨_, rfl, _, rfl, v, n, T, lq, lot, rfl, Dq.same s1 hv, hWeb, n1, n12, My.Same.sqt s1 hL, lL, bL, uL, fun ps H2 hp s2 => by rw [hangsB_eq hp]; exact q1 _ _ s2 (.bl _)⟩
    have hlen := EvQ.lenT (EvQ.var (K := K) (av := []) (H0 := H) (σ := [some v, some (.ref lq), some (.ref bq), some (.int b.1), some (.int b.2)]) (i := 1) rfl (Dq.same wo_nil (Dq.ofTI hL)))
    rw [List.length_map] at hlen
    refine EvQ.and (EvQ.chain (f := fun i j => decide (i ≤ j)) (g := fun i j => decide (i ≤ j)) (EvQ.var (i := 3) rfl (.int b.1)) hlen (EvQ.var (i := 4) rfl (.int b.2))) hh H (Same.refl _) _ fun x H1 s1 hx => ?_
    cases hx
    exact q H1 s1
theorem ok_is_standing {f : Addr} {fd : FuncData} {m : Nat} (F : Fun K "is_standing" "is_standing" s_is_standing f fd) (B : Bn mg) (D_is_dealing : Own P w K mg base "is_dealing" m ["n", "k", "value"] (spDealing K)) (D_is_within : Own P w K mg base "_is_within" m ["web", "lot", "bound"] (spWithin K)) (D_part_of : Own P w K mg base "part_of" m ["dealing", "i"] (spPartOf K)) : FnOk P w K mg base CX0 (m + 1) f fd ["web", "roots", "bounds", "value"] (spStanding K) := by
  refine F.ok sc_is_standing (fun vs H Q E h => ?_) (fun cdv A outer s H vs Q E hr h => ?_)
  · obtain ⟨v, ra, bv, x, n, T, rs, bs, d, W, D, rfl, _⟩ := h
    rfl
  · obtain ⟨v, ra, bv, x, n, T, rs, bs, d, W, D, rfl, hv, hWeb, n1, n12, hR, hB, rs1, lbs, lrs, hd, sm, hW4, q⟩ := h
    obtain ⟨ba, bxs, rfl, hBT, lbx, hbx⟩ := bD_at hB
    obtain ⟨wa, ta, ts, rfl, hW, hTs, lts, get⟩ := hv.web
    refine ⟨_, (pss_cons (ps_set (i := 4) sc_is_standing.nd rfl (.inl rfl) (pe_callB (lenQ K) (by rfl) B.len (by decide +kernel) (pa_cons (pv 1) pa_nil)))
      (pss_cons (ps_if (pt_not (pt_val (pe_own D_is_dealing hr (by rfl) (pa_cons (pe_ix (ixT K) (pv 0) pe_int (fun _ _ => rfl)) (pa_cons (pv 4) (pa_cons (pv 3) pa_nil)))))) (pss_one (ps_ret pe_bl)) pss_nil)
      (pss_one (ps_ret (pe_callB (allL K rfl) (by rfl) B.all (by decide +kernel) (pa_cons (pe_lc (own := [("i", 5)]) (by rfl) sc_is_standing.nd (pi_range1 (by rfl) B.range (pa_cons (pv 4) pa_nil)) (blkOk_by (own := [("i", 5)]) (N := ["web", "roots", "bounds", "value", "k", "i"]) (sc := (defScope s_is_standing)) (by decide +kernel)) (fun _ _ _ _ _ => (pg_name (i := 5) sc_is_standing.nd rfl (.inl rfl))) (fun _ _ _ _ _ => pts_nil) (fun _ _ _ _ _ => (pe_and (pe_cmpR op_eq (pe_ix (ixT K) (pv 3) (pe_ix (ixT K) (pv 1) (pv 5) (fun _ _ => rfl)) (fun _ _ => rfl)) (pv 5) (nomark _)) (pe_one (pe_own D_is_within hr (by rfl) (pa_cons (pv 0) (pa_cons (pe_own D_part_of hr (by rfl) (pa_cons (pv 3) (pa_cons (pv 5) pa_nil))) (pa_cons (pe_ix (ixT K) (pv 2) (pv 5) (fun _ _ => rfl)) pa_nil)))))))) pa_nil)))))), ?_⟩
    refine ⟨_, rfl, ra, _, rfl, .inr hR, ?_⟩
    rw [List.length_map]
    dsimp only
    refine (show tSeq _ _ _ [some (.ref wa), some (.ref ra), some (.ref ba), some x, some (.int (rs.length : Nat)), none] _ from tSeq_e ?_)
    refine ⟨_, rfl, wa, _, 0, _, rfl, rfl, hW, rfl, _, rfl, _, rfl, (n : Int), (rs.length : Nat), x, d, W, D, rfl, hd, sm, hW4, fun H1 s1 => ⟨_, rfl, ?_⟩⟩
    cases hde : dealingD (n : Int) (rs.length : Nat) d with
    | false =>
      have e : standD T n rs bs d = false := by
        cases d with
        | tuple ds => simp only [standD, hde, Bool.false_and]
        | _ => rfl
      rw [e] at q
      exact iteT (q H1 s1)
    | true =>
      obtain ⟨ds, rfl, lds, hi, hb⟩ := dealing_ints hde
      obtain ⟨va, xs, rfl, hV, hxs⟩ := hd.un_tup
      have ex := hxs.intsOf hi
      rw [ex] at hV
      have lz : (intsOf ds).length = n := by rw [intsOf_len hi]; omega
      simp only [standD, hde, Bool.true_and] at q
      generalize intsOf ds = zs at hV lz hb q
      refine iteF ?_
      unfold tNext
      dsimp only
      refine (show tRet _ _ _ _ from tCB1_e ?_)
      have hV1 := My.Same.sqt s1 hV
      have hR1 := My.Same.sqt s1 hR
      have hB1 := My.Same.sqt s1 hBT
      have hv1 := Dq.same s1 hv
      refine ⟨_, rfl, _, rfl, by omega, by omega, fun DD hDD => ?_⟩
      rw [Int.toNat_natCast]
      have lr : ((List.range rs.length).map (okStand T rs bs zs)).length ≤ 10000 := by rw [List.length_map, List.length_range]; omega
      refine lc_range (BsAt H1 DD ((List.range rs.length).map (okStand T rs bs zs))) (BsAt.start hDD) ?_ ?_
      · rintro j H3 hj hBs
        rw [Int.zero_add]
        obtain ⟨r, er⟩ : ∃ r, rs[j]? = some r := ⟨_, List.getElem?_eq_getElem hj⟩
        obtain ⟨b, eb⟩ : ∃ r, bs[j]? = some r := ⟨_, List.getElem?_eq_getElem (by omega)⟩
        obtain ⟨bx, ebx, hbq⟩ := hbx j b eb
        obtain ⟨r0, r1⟩ := rs1 r (List.mem_of_getElem? er)
        obtain ⟨z, ez1, ez2⟩ := at_int (cs := zs) (i := r) r0 (by omega)
        have nx := fun (b : Bool) (hbb : okStand T rs bs zs j = b) (H4 : Hp) (s4 : Same H3 H4) => hBs.next (b := b) hDD s4 (by rw [List.getElem?_map, List.getElem?_range hj, ← hbb]; rfl) lr
        refine ⟨rfl, ?_⟩
        refine ⟨_, rfl, _, rfl, _, rfl, ra, _, (j : Int), .int r, rfl, rfl, My.Same.sqt hBs.1 hR1, at_nat er, va, _, r, .int z, rfl, rfl, My.Same.sqt hBs.1 hV1, ez2, _, rfl, rfl, _, rfl, ?_⟩
        rw [dInt_iff (p := z = (j : Int)) Iff.rfl]
        by_cases hzj : z = (j : Int)
        · rw [decide_eq_true hzj]
          refine iteT ⟨_, rfl, _, rfl, _, rfl, va, zs, (j : Int), rfl, My.Same.sqt hBs.1 hV1, by omega, fun pa H4 s4 hp => ?_⟩
          have pl := partL_len (zs := zs) (i := (j : Int))
          refine ⟨_, rfl, _, rfl, ba, _, (j : Int), bx, rfl, rfl, My.Same.sqt (hBs.1.trans s4) hB1, atI_nat ebx, .ref wa, n, T, pa, _, bx, b, rfl, Dq.same (hBs.1.trans s4) hv1, hWeb, n1, n12, hp, by omega, fun y hy => by have := mem_partL hy; omega, partL_up, Dq.same (s1.trans (hBs.1.trans s4)) hbq, fun H5 s5 => ?_⟩
          refine nx _ ?_ H5 (s4.trans s5)
          unfold okStand
          rw [getD_at er, getD_bs eb, ez1, hzj, decide_eq_true rfl, Bool.true_and]
        · rw [decide_eq_false hzj]
          refine iteF (nx false ?_ H3 (Same.refl H3))
          unfold okStand
          rw [getD_at er, ez1, decide_eq_false (fun e => hzj (Option.some.inj e)), Bool.false_and]
      · rintro H3 hB
        refine ⟨DD, _, rfl, SqL.of (hB.all (by rw [List.length_map, List.length_range]; exact Nat.le_refl _)), ?_⟩
        rw [List.all_map]
        exact q H3 (s1.trans hB.1)
end
end K27

set_option Elab.async false
set_option linter.all false
set_option maxRecDepth 100000
set_option maxHeartbeats 4000000
namespace K27
open PySem PySem.Spec PyProof.Rows L2 My
abbrev s_rooted : Stmt := topS 16
theorem sc_rooted : FnScope ["n", "roots", "dealings", "place", "parts", "dealing", "i"] ["n", "roots"] (defScope s_rooted) := ⟨rfl, rfl, rfl, by decide +kernel, rfl, by decide +kernel, by decide +kernel⟩
abbrev s_standings : Stmt := topS 15
theorem sc_standings : FnScope ["web", "roots", "bounds", "dealing"] ["web", "roots", "bounds"] (defScope s_standings) := ⟨rfl, rfl, rfl, by decide +kernel, rfl, by decide +kernel, by decide +kernel⟩
section
variable {P : Program} {w : World} {K : PySem.W.Frag} {mg : Str → Option Value} {base : Heap}
theorem ok_rooted {f : Addr} {fd : FuncData} {m : Nat} (F : Fun K "_rooted" "_rooted" s_rooted f fd) (B : Bn mg) : FnOk P w K mg base CX0 (m + 1) f fd ["n", "roots"] (spRooted K) := by
  refine F.ok sc_rooted (fun vs H Q E h => ?_) (fun cdv A outer s H vs Q E hr h => ?_)
  · obtain ⟨n, ra, rs, rfl, _⟩ := h
    rfl
  · obtain ⟨n, ra, rs, rfl, hP, k1, k5, n12, hfew, q⟩ := h
    refine ⟨_, (pss_cons (ps_set (i := 2) sc_rooted.nd rfl (.inl rfl) (pe_lst (pa_cons (pe_tup pa_nil) pa_nil)))
      (pss_cons (ps_for PassesOwn.never rfl (pi_range1 (by rfl) B.range (pa_cons (pv 0) pa_nil)) (pg_name (i := 3) sc_rooted.nd rfl (.inl rfl)) (pss_cons (ps_set (i := 4) sc_rooted.nd rfl (.inr rfl) (pe_ifExp (pt_cmpR (inQ K) (pv 3) (pv 1) (by rfl)) (pe_lst (pa_cons (pe_bmF PySem.F.plainAttrs_tuple PySem.F.slot_tuple_index PySem.F.type_tuple_index (indexT K) (pv 1) (pa_cons (pv 3) pa_nil)) pa_nil)) (pe_listRg (by rfl) (by rfl) B.list_ (prg_1 (by rfl) B.range (pe_callB (lenQ K) (by rfl) B.len (by decide +kernel) (pa_cons (pv 1) pa_nil))))))
      (pss_one (ps_setLc2 (i := 2) (own := [("dealing", 5), ("i", 6)]) (vs1 := [6]) rfl sc_rooted.nd rfl rfl (sw_true rfl rfl rfl (by decide +kernel)) (pi_listK K (pv 2)) (blkOk_by (own := [("dealing", 5), ("i", 6)]) (N := ["n", "roots", "dealings", "place", "parts", "dealing", "i"]) (sc := (defScope s_rooted)) (by decide +kernel)) (by decide) (fun _ _ _ _ _ => (pg_name (i := 5) sc_rooted.nd rfl (.inl rfl))) (fun _ _ _ _ _ => pts_nil) (fun _ _ _ _ _ => (pi_listK K (pv 4))) (fun _ _ _ _ _ => (pg_name (i := 6) sc_rooted.nd rfl (.inl rfl))) (fun _ _ _ _ _ => pts_nil) (fun _ _ _ _ _ => (pe_op (catA K) (pv 5) (pe_tup (pa_cons (pv 6) pa_nil))))))))
      (pss_one (ps_ret (pv 2))))), ?_⟩
    refine (show tSeq _ _ _ [some (.int (n : Int)), some (.ref ra), none, none, none, none, none] _ from tSeq_e (tAsg_e ?_))
    refine (EvL.lst (K := K) (av := []) (ds := ([[]] : List (List Int)).map tI) avs_nil (EvA.cons (EvQ.tup avs_nil EvA.nil (by simp)) EvA.nil) (by simp)).to fun fa H1 s1 hF => ?_
    dsimp only [gName]
    refine (show tSeq _ _ _ [some (.int (n : Int)), some (.ref ra), some (.ref fa), none, none, none, none] _ from tSeq_e ?_)
    refine ⟨_, rfl, _, rfl, by omega, by omega, ?_⟩
    rw [Int.toNat_natCast]
    refine for_range (fun i σ H3 => ∃ (x3 x4 x5 x6 : Option V) (fa : Addr), σ = [some (.int (n : Int)), some (.ref ra), some (.ref fa), x3, x4, x5, x6] ∧ Same H H3 ∧ LAt K [] H3 fa ((dealsL rs.length rs i).map tI)) ?_ ?_ ?_
    · exact ⟨none, none, none, none, fa, rfl, s1, hF⟩
    · rintro i σ H3 hi ⟨x3, x4, x5, x6, fa, rfl, s3, hF⟩
      have hin : i < n := hi
      -- parts
      refine (show tSeq _ _ _ [some (.int (n : Int)), some (.ref ra), some (.ref fa), some (.int (0 + (i : Int))), x4, x5, x6] _ from tSeq_e (tAsg_e ?_))
      rw [show (0 : Int) + (i : Int) = (i : Int) from Int.zero_add _]
      refine withQ (fun v H4 => ∃ (pa : Addr), v = .ref pa ∧ Same H3 H4 ∧ LAt K [] H4 pa ((optsL rs.length rs (i : Int)).map PyData.int)) ?_ (fun R Y => ?_)
      rotate_left
      · refine ⟨_, rfl, _, rfl, ra, _, rfl, .inr (My.Same.sqt s3 hP.sqt), rfl, flat_ints, _, rfl, ?_⟩
        show if inV (.int (i : Int)) (rs.map V.int) = true then _ else _
        rw [inV_ints]
        by_cases hm : (i : Int) ∈ rs
        · rw [decide_eq_true hm]
          obtain ⟨h1, h2⟩ := ixOf_at hm
          refine iteT ⟨_, rfl, ⟨ra, _, rfl, hP.same s3⟩, _, rfl, ra, rs, _, _, rfl, rfl, My.Same.sqt s3 hP.sqt, h1, h2, by show 1 ≤ sizeLine; decide, fun pa hpa => ?_⟩
          refine Y _ _ ⟨pa, rfl, My.Same.new hpa, by simp, _, upd_same, ?_⟩
          unfold optsL
          rw [if_pos hm]
          exact .cons (.int _) .nil
        · rw [decide_eq_false hm]
          refine iteF ⟨_, rfl, ra, _, rfl, .inr (My.Same.sqt s3 hP.sqt), ?_⟩
          rw [List.length_map]
          refine ⟨_, rfl, RgOk.of_le (Int.le_refl 0) (by omega) (by decide) (by omega), fun pa hpa => ?_⟩
          have hrg : rgV 0 (rs.length : Int) = (ups rs.length).map V.int := by
            unfold rgV ups
            rw [List.map_map, show ((rs.length : Int) - 0).toNat = rs.length by omega]
            refine List.map_congr_left fun i _ => ?_
            show V.int (0 + (i : Int)) = V.int (i : Int)
            rw [Int.zero_add]
          rw [hrg]
          refine Y _ _ ⟨pa, rfl, My.Same.new hpa, by simp, _, upd_same, ?_⟩
          unfold optsL
          rw [if_neg hm]
          exact DqAll.ints _
      rintro _ H4 ⟨pa, rfl, s4, hO⟩
      have hol : (optsL rs.length rs (i : Int)).length ≤ 5 := by
        rw [optsL_len]
        split <;> omega
      have hfi := hfew i (by omega)
      have hF4 := hF.same0 s4
      -- dealings = [dealing + (i,) for dealing in dealings for i in parts]
      dsimp only [gName]
      refine (show tAsg _ _ _ [some (.int (n : Int)), some (.ref ra), some (.ref fa), some (.int (i : Int)), some (.ref pa), x5, x6] _ from tAsg_e ?_)
      have h := EvN.lc2LL (K := K) (av := []) (H0 := H4) (σ := [some (.int (n : Int)), some (.ref ra), some (.ref fa), some (.int (i : Int)), some (.ref pa), x5, x6]) (t1 := tVar 2) (t2 := tVar 4) (f := tI) (g := PyData.int) (l := dealsL rs.length rs i) (l2 := optsL rs.length rs (i : Int)) (F := fun r z => tI (r ++ [z])) (te := tOp (rCatA K) (tVar 5) (tTup (tCons (tVar 6) tNil))) (vs := [5, 6]) (vs1 := [6]) (u := 5) (v := 6) avs_nil (hF4.ev rfl) (by
          have : (dealsL rs.length rs i).length * (optsL rs.length rs (i : Int)).length ≤ 1000 * 5 := Nat.mul_le_mul hfi hol
          omega) (fun _ => rfl) (fun _ _ => rfl) (fun x av' H5 s5 hav5 sw => by
          obtain ⟨_, ys, ey, hys⟩ := hO
          exact EvL.var rfl (s5 _ _ ey) (fun hb => by
            rcases hav5 _ hb with h | h
            · cases h
            · rw [h] at ey
              cases ey) (DqAll.same sw hys)) fun r hr z hz x y av' H5 hav sw hx hy => by
          obtain ⟨lr, _⟩ := dealsL_bd rfl hr
          have h3 := EvQ.catT (K := K) (av := av') (H0 := H5) (σ := [some (.int (n : Int)), some (.ref ra), some (.ref fa), some (.int (i : Int)), some (.ref pa), some x, some y]) (t1 := tVar 5) (t2 := tTup (tCons (tVar 6) tNil)) hav (EvQ.var rfl hx) (EvQ.tup hav (EvA.cons (EvQ.var rfl hy) EvA.nil) (by simp)) (by rw [List.length_map, lr]; simp; omega)
          have : (r.map PyData.int ++ [PyData.int z]) = (r ++ [z]).map PyData.int := by
            rw [List.map_append]
            rfl
          rw [this] at h3
          exact h3
      refine h.l.to fun fb H5 s5 hL5 => ?_
      refine ⟨_, _, _, _, fb, rfl, s3.trans (s4.trans s5), ?_⟩
      have e2 : ((dealsL rs.length rs i).flatMap fun r => (optsL rs.length rs (i : Int)).map fun z => tI (r ++ [z])) = (dealsL rs.length rs (i + 1)).map tI := by
        show _ = (((dealsL rs.length rs i).flatMap fun d => (optsL rs.length rs (i : Int)).map fun z => d ++ [z]).map tI)
        rw [List.map_flatMap]
        congr 1
        funext r
        rw [List.map_map]
        rfl
      rw [e2] at hL5
      exact hL5
    · rintro σ H3 ⟨x3, x4, x5, x6, fa, rfl, s3, hF⟩
      exact ⟨_, rfl, q fa H3 s3 hF⟩
theorem ok_standings {f : Addr} {fd : FuncData} {m : Nat} (F : Fun K "standings" "standings" s_standings f fd) (B : Bn mg) (D_rooted : Own P w K mg base "_rooted" m ["n", "roots"] (spRooted K)) (D_is_standing : Own P w K mg base "is_standing" m ["web", "roots", "bounds", "value"] (spStanding K)) : FnOk P w K mg base CX0 (m + 1) f fd ["web", "roots", "bounds"] (spStandings K) := by
  refine F.ok sc_standings (fun vs H Q E h => ?_) (fun cdv A outer s H vs Q E hr h => ?_)
  · obtain ⟨v, ra, bv, n, T, rs, bs, rfl, _⟩ := h
    rfl
  · obtain ⟨v, ra, bv, n, T, rs, bs, rfl, hv, hW, n1, n7, hP, hB, rb, lbs, k1, k5, hfew, q⟩ := h
    obtain ⟨wa, wx, rfl, hWT, _⟩ := id hv.first
    refine ⟨_, (pss_one (ps_ret (pe_lc (own := [("dealing", 3)]) (by rfl) sc_standings.nd (pi_listK K (pe_own D_rooted hr (by rfl) (pa_cons (pe_ix (ixT K) (pv 0) pe_int (fun _ _ => rfl)) (pa_cons (pv 1) pa_nil)))) (blkOk_by (own := [("dealing", 3)]) (N := ["web", "roots", "bounds", "dealing"]) (sc := (defScope s_standings)) (by decide +kernel)) (fun _ _ _ _ _ => (pg_name (i := 3) sc_standings.nd rfl (.inl rfl))) (fun _ _ _ _ _ => (pts_one (pt_val (pe_own D_is_standing hr (by rfl) (pa_cons (pv 0) (pa_cons (pv 1) (pa_cons (pv 2) (pa_cons (pv 3) pa_nil)))))))) (fun _ _ _ _ _ => (pv 3))))), ?_⟩
    have h := EvN.lcL (K := K) (av := []) (H0 := H) (σ := [some (.ref wa), some (.ref ra), some bv, none]) (t := tCall (spRooted K) [] E0 (tCons (tOp (rIxT K) (tVar 0) (tC (.int 0))) (tCons (tVar 1) tNil))) (f := tI) (l := dealsL rs.length rs n) (p := fun r => standD T n rs bs (tI r)) (F := tI) (vs := [3]) (g := gName 3) (tt := tTest (tCall (spStanding K) [] E0 (tCons (tVar 0) (tCons (tVar 1) (tCons (tVar 2) (tCons (tVar 3) tNil)))))) (te := tVar 3) avs_nil (fun H1 s1 Q1 q1 =>
        ⟨_, rfl, wa, _, 0, _, rfl, rfl, My.Same.sqt s1 hWT, rfl, _, rfl, n, ra, rs, rfl, hP.same s1, k1, k5, by omega, hfew, fun a H2 s2 hL => q1 a _ H2 s2 hL.2.choose_spec.1 hL.1 hL.2.choose_spec.2⟩) (by have := hfew n (Nat.le_refl n); omega) fun r hr H1 s1 => LcTurn.test (fun _ => rfl) fun x av' H2 hin hav sw hx => by
        have sw2 := wo_nil.trans ((My.Same.wos s1).trans sw)
        exact ⟨EvQ.standing hW n1 (by omega) rb lbs (by omega) (smDeal rfl hr (by omega) (by omega)) (by decide) (EvQ.var rfl (Dq.same sw2 hv)) (EvQ.var rfl (Dq.same sw2 (Dq.ofTI hP.sqt))) (EvQ.var rfl (Dq.same sw2 hB)) (EvQ.var rfl hx), fun _ => EvQ.var rfl hx⟩
    refine h H (Same.refl _) _ fun a xs H1 na s1 ea nn hx => q a H1 na s1 ⟨nn, xs, ea, hx⟩
end
end K27

set_option Elab.async false
set_option linter.all false
set_option maxRecDepth 100000
set_option maxHeartbeats 4000000
namespace K27
open PySem PySem.Spec PyProof.Rows L2 My
abbrev s_law_part : Stmt := topS 35
theorem sc_law_part : FnScope ["dealing", "i", "place"] ["dealing", "i"] (defScope s_law_part) := ⟨rfl, rfl, rfl, by decide +kernel, rfl, by decide +kernel, by decide +kernel⟩
abbrev s_law_is_whole : Stmt := topS 26
theorem sc_law_is_whole : FnScope ["value"] ["value"] (defScope s_law_is_whole) := ⟨rfl, rfl, rfl, by decide +kernel, rfl, by decide +kernel, by decide +kernel⟩
abbrev s_law_is_dealing : Stmt := topS 36
theorem sc_law_is_dealing : FnScope ["n", "k", "value", "number"] ["n", "k", "value"] (defScope s_law_is_dealing) := ⟨rfl, rfl, rfl, by decide +kernel, rfl, by decide +kernel, by decide +kernel⟩
section
variable {P : Program} {w : World} {K : PySem.W.Frag} {mg : Str → Option Value} {base : Heap}
theorem ok_law_is_whole {f : Addr} {fd : FuncData} {m : Nat} (F : Fun K "_law_is_whole" "_law_is_whole" s_law_is_whole f fd) (B : Bn mg) : FnOk P w K mg base CX0 (m + 1) f fd ["value"] (spWhole K) := by
  refine F.ok sc_law_is_whole (fun vs H Q E h => ?_) (fun cdv A outer s H vs Q E hr h => ?_)
  · obtain ⟨v, d, rfl, _⟩ := h
    rfl
  · obtain ⟨v, d, rfl, hd, q⟩ := h
    refine ⟨_, (pss_one (ps_ret (pe_and (pe_callB (isi K) (by rfl) B.isinstance (by decide +kernel) (pa_cons (pv 0) (pa_cons (pe_bltn (v := .ty "int") (by rfl) B.int_ (by decide +kernel) rfl) pa_nil))) (pe_one (pe_not (pe_callB (isi K) (by rfl) B.isinstance (by decide +kernel) (pa_cons (pv 0) (pa_cons (pe_bltn (v := .ty "bool") (by rfl) B.bool_ (by decide +kernel) rfl) pa_nil)))))))), ?_⟩
    rw [wholeD_kd] at q
    refine isiV .int rfl hd.knd ⟨_, rfl, ?_⟩
    cases h1 : (kd d).is .int with
    | false =>
      rw [h1] at q
      exact iteF (q H (Same.refl H))
    | true =>
      rw [h1] at q
      refine iteT ?_
      refine isiV .bl rfl hd.knd ⟨_, rfl, q H (Same.refl H)⟩
theorem ok_law_is_dealing {f : Addr} {fd : FuncData} {m : Nat} (F : Fun K "_law_is_dealing" "_law_is_dealing" s_law_is_dealing f fd) (B : Bn mg) (D_law_is_whole : Own P w K mg base "_law_is_whole" m ["value"] (spWhole K)) : FnOk P w K mg base CX0 (m + 1) f fd ["n", "k", "value"] (spDealing K) := by
  refine F.ok sc_law_is_dealing (fun vs H Q E h => ?_) (fun cdv A outer s H vs Q E hr h => ?_)
  · obtain ⟨n, k, v, d, W, D, rfl, _⟩ := h
    rfl
  · obtain ⟨n, k, v, d, W, D, rfl, hd, sm, hW, q⟩ := h
    refine ⟨_, (pss_cons (ps_if ((pw_or (pt_not (pt_val (pe_callB (isi K) (by rfl) B.isinstance (by decide +kernel) (pa_cons (pv 2) (pa_cons (pe_bltn (v := .ty "tuple") (by rfl) B.tuple_ (by decide +kernel) rfl) pa_nil))))) (pw_or1 (pt_cmpR op_ne (pe_callB (lenQ K) (by rfl) B.len (by decide +kernel) (pa_cons (pv 2) pa_nil)) (pv 0) (nomark _))))).pt (pss_one (ps_ret pe_bl)) pss_nil)
      (pss_one (ps_ret (pe_cmpR (notInQ K) pe_bl (pe_lc (own := [("number", 3)]) (by rfl) sc_law_is_dealing.nd (pi_tupK K (pv 2)) (blkOk_by (own := [("number", 3)]) (N := ["n", "k", "value", "number"]) (sc := (defScope s_law_is_dealing)) (by decide +kernel)) (fun _ _ _ _ _ => (pg_name (i := 3) sc_law_is_dealing.nd rfl (.inl rfl))) (fun _ _ _ _ _ => pts_nil) (fun _ _ _ _ _ => (pe_and (pe_own D_law_is_whole hr (by rfl) (pa_cons (pv 3) pa_nil)) (pe_one (pe_chain op_le op_lt pe_int (pv 3) (pv 1)))))) (by rfl))))), ?_⟩
    by_cases hk : ∃ ds, d = .tuple ds
    · obtain ⟨ds, rfl⟩ := hk
      obtain ⟨t, xs, rfl, hT, hxs⟩ := hd.un_tup
      have hl := Nat.le_trans sm.lenW hW
      have hlen := hxs.len
      refine isiV .tup rfl (sqt_knd hT) ⟨_, rfl, iteF ?_⟩
      refine ⟨_, rfl, t, xs, rfl, .inr hT, _, rfl, rfl, _, rfl, ?_⟩
      rw [hlen]
      by_cases h0 : (ds.length : Int) = n
      · rw [decide_eq_true (show V.int (ds.length : Int) = V.int n by rw [h0])]
        simp only [dealingD, h0, decide_true, Bool.true_and] at q
        refine iteF ?_
        refine ⟨_, rfl, t, rfl, ⟨xs, hT⟩, fun D hD => ?_⟩
        refine lc_tup (xs := xs) (BsAt H D (ds.map (placeD k))) (BsAt.start hD) (fun i H3 _ h => My.Same.sqt h.1 hT) ?_ ?_
        · rintro i x H3 ex hB
          obtain ⟨d, e1, p1⟩ := hxs.get ex
          have nx := fun (b : Bool) (hb : placeD k d = b) (H4 : Hp) (s4 : Same H3 H4) => hB.next (b := b) hD s4 (by rw [← hb]; exact map_get e1) (by rw [List.length_map]; omega)
          refine ⟨rfl, ?_⟩
          refine ⟨_, rfl, x, d, rfl, Dq.same hB.1 p1, fun H4 s4 => ⟨_, rfl, ?_⟩⟩
          cases hw : wholeD d with
          | false => exact iteF (nx false (placeD_whole hw) H4 s4)
          | true =>
            obtain ⟨z, rfl⟩ := wholeD_int hw
            cases p1
            refine iteT ⟨_, rfl, 0, z, rfl, rfl, _, rfl, ?_⟩
            by_cases h0 : (0 : Int) ≤ z
            · rw [if_pos (decide_eq_true h0)]
              refine ⟨_, rfl, z, k, rfl, rfl, ?_⟩
              exact nx _ (by simp only [placeD, decide_eq_true h0, Bool.true_and]) H4 s4
            · rw [if_neg (fun z => h0 (of_decide_eq_true z))]
              exact nx false (by simp only [placeD, decide_eq_false h0, Bool.false_and]) H4 s4
        · rintro H2 hB
          obtain ⟨v1, v2⟩ := inV_false (ds.map (placeD k))
          rw [all_map] at v1
          refine ⟨D, _, rfl, .inl (SqL.of (hB.all (by rw [List.length_map]; omega))), rfl, v2, ?_⟩
          show Q (.bl (!inV (.bl false) ((ds.map (placeD k)).map V.bl))) H2
          rw [v1, Bool.not_not]
          exact q H2 hB.1
      · rw [decide_eq_false (show ¬ V.int (ds.length : Int) = V.int n from fun z => h0 (V.int.inj z))]
        have q' := q H (Same.refl H)
        simp only [dealingD, h0, decide_false, Bool.false_and] at q'
        exact iteT q'
    · refine isiV .tup rfl hd.knd ⟨_, rfl, ?_⟩
      cases d with
      | tuple ds => exact absurd ⟨ds, rfl⟩ hk
      | _ => exact iteT (q H (Same.refl H))
theorem ok_law_part {f : Addr} {fd : FuncData} {m : Nat} (F : Fun K "_law_part" "_law_part" s_law_part f fd) (B : Bn mg) : FnOk P w K mg base CX0 (m + 1) f fd ["dealing", "i"] (spPartOf K) := by
  refine F.ok sc_law_part (fun vs H Q E h => ?_) (fun cdv A outer s H vs Q E hr h => ?_)
  · obtain ⟨st, ss, i, rfl, _⟩ := h
    rfl
  · obtain ⟨st, ss, i, rfl, hS, hl, q⟩ := h
    refine ⟨_, (pss_one (ps_ret (pe_callTy (tupleOf K) (by rfl) B.tuple_ (by decide +kernel) (pa_cons (pe_lc (own := [("place", 2)]) (by rfl) sc_law_part.nd (pi_range1 (by rfl) B.range (pa_cons (pe_callB (lenQ K) (by rfl) B.len (by decide +kernel) (pa_cons (pv 0) pa_nil)) pa_nil)) (blkOk_by (own := [("place", 2)]) (N := ["dealing", "i", "place"]) (sc := (defScope s_law_part)) (by decide +kernel)) (fun _ _ _ _ _ => (pg_name (i := 2) sc_law_part.nd rfl (.inl rfl))) (fun _ _ _ _ _ => (pts_one (pt_cmpR op_eq (pe_ix (ixT K) (pv 0) (pv 2) (fun _ _ => rfl)) (pv 1) (nomark _)))) (fun _ _ _ _ _ => (pv 2))) pa_nil)))), ?_⟩
    refine ⟨_, rfl, st, _, rfl, .inr hS, _, rfl, by rw [List.length_map]; omega, by rw [List.length_map]; omega, fun D hD => ?_⟩
    rw [Int.toNat_natCast, List.length_map]
    refine lc_range (fun j H3 => Same H H3 ∧ H3 D = some (.lst (((ups j).filter (inP ss i)).map V.int))) ⟨My.Same.new hD, upd_same⟩ ?_ ?_
    · rintro j H3 hj ⟨s3, eD⟩
      rw [Int.zero_add]
      obtain ⟨z, ez⟩ : ∃ z, ss[j]? = some z := ⟨_, List.getElem?_eq_getElem hj⟩
      refine ⟨rfl, ?_⟩
      refine ⟨_, rfl, _, rfl, st, _, (j : Int), .int z, rfl, rfl, My.Same.sqt s3 hS, at_nat ez, _, rfl, rfl, _, rfl, ?_⟩
      rw [dInt_iff (p := z = i) Iff.rfl, ← inP_at (i := i) ez]
      have hlen : ((ups j).filter (inP ss i)).length ≤ 100 := by
        have := List.length_filter_le (inP ss i) (ups j)
        rw [ups_len] at this
        omega
      cases ho : inP ss i (j : Int) with
      | true =>
        refine iteT ⟨_, rfl, _, eD, by rw [List.length_map]; exact smallT (by omega), My.Same.updD s3 hD, ?_⟩
        rw [upd_same, ups_succ, List.filter_append, List.filter_cons_of_pos ho, map_snoc]
        rfl
      | false =>
        refine iteF ⟨s3, ?_⟩
        rw [eD, ups_succ, List.filter_append, List.filter_cons_of_neg (by rw [ho]; decide), List.filter_nil, List.append_nil]
    · rintro H3 ⟨s3, eD⟩
      exact ⟨D, _, rfl, .inl ⟨SqL.of eD, fun a ha => q a _ (s3.trans (My.Same.new ha)) (SqT.of upd_same)⟩⟩
end
end K27

set_option Elab.async false
set_option linter.all false
set_option maxRecDepth 100000
set_option maxHeartbeats 4000000
namespace K27
open PySem PySem.Spec PyProof.Rows L2 My
abbrev s_law_near : Stmt := topS 30
theorem sc_law_near : FnScope ["web", "place", "found", "a", "b"] ["web", "place"] (defScope s_law_near) := ⟨rfl, rfl, rfl, by decide +kernel, rfl, by decide +kernel, by decide +kernel⟩
section
variable {P : Program} {w : World} {K : PySem.W.Frag} {mg : Str → Option Value} {base : Heap}
/-- x, or nothing, in a new list -/
theorem one_or {c : Prop} [Decidable c] {σ : L2.St} {i : Nat} {z : Int} {H : Hp} {Q : VK} (h : σ[i]? = some (some (.int z))) (q : ∀ l H', Same H H' → H' l = some (.lst ((if c then [z] else []).map V.int)) → Q (.ref l) H') :
    if decide c = true then tLst (tCons (tVar i) tNil) σ H Q else tLst tNil σ H Q := by
  by_cases hc : c
  · rw [decide_eq_true hc]
    rw [if_pos hc] at q
    exact iteT ⟨_, h, by show 1 ≤ sizeLine; decide, fun l hl => q l _ (My.Same.new hl) upd_same⟩
  · rw [decide_eq_false hc]
    rw [if_neg hc] at q
    exact iteF ⟨by show 0 ≤ sizeLine; decide, fun l hl => q l _ (My.Same.new hl) upd_same⟩
theorem ok_law_near {f : Addr} {fd : FuncData} {m : Nat} (F : Fun K "_law_near" "_law_near" s_law_near f fd) (B : Bn mg) : FnOk P w K mg base CX0 (m + 1) f fd ["web", "place"] (spNbr K) := by
  refine F.ok sc_law_near (fun vs H Q E h => ?_) (fun cdv A outer s H vs Q E hr h => ?_)
  · obtain ⟨v, n, T, x, rfl, _⟩ := h
    rfl
  · obtain ⟨v, n, T, x, rfl, hv, hT1, q⟩ := h
    obtain ⟨wa, ta, ts, rfl, hW, hTs, lts, get⟩ := hv.web
    refine ⟨_, (pss_cons (ps_set (i := 2) sc_law_near.nd rfl (.inl rfl) (pe_lst pa_nil))
      (pss_cons (ps_for PassesOwn.never rfl (pi_tupK K (pe_ix (ixT K) (pv 0) pe_int (fun _ _ => rfl))) (pg_tupK K 2 (by rfl) (pgs_cons (pg_name (i := 3) sc_law_near.nd rfl (.inl rfl)) (pgs_cons (pg_name (i := 4) sc_law_near.nd rfl (.inl rfl)) pgs_nil))) (pss_one (ps_set (i := 2) sc_law_near.nd rfl (.inl rfl) (pe_op op_cat (pe_op op_cat (pv 2) (pe_ifExp (pt_cmpR op_eq (pv 3) (pv 1) (nomark _)) (pe_lst (pa_cons (pv 4) pa_nil)) (pe_lst pa_nil))) (pe_ifExp (pt_cmpR op_eq (pv 4) (pv 1) (nomark _)) (pe_lst (pa_cons (pv 3) pa_nil)) (pe_lst pa_nil))))))
      (pss_one (ps_ret (pe_callTy (tupleOf K) (by rfl) B.tuple_ (by decide +kernel) (pa_cons (pe_callB cr_sortedI (by rfl) B.sorted (by decide +kernel) (pa_cons (pv 2) pa_nil)) pa_nil)))))), ?_⟩
    refine ⟨by show 0 ≤ sizeLine; decide, fun f0 hf0 => ?_⟩
    have s0 := My.Same.new (o := HO.lst []) hf0
    refine ⟨_, rfl, wa, _, 1, _, rfl, rfl, My.Same.sqt s0 hW, rfl, ta, rfl, ⟨_, My.Same.sqt s0 hTs⟩, ?_⟩
    refine for_tup (xs := ts) (fun j σ H3 => ∃ (fa : Addr) (x3 x4 : Option V), σ = [some (.ref wa), some (.int x), some (.ref fa), x3, x4] ∧ Same H H3 ∧ H3 fa = some (.lst ((nearF (T.take j) x).map V.int))) ?_ ?_ ?_ ?_
    · exact ⟨f0, none, none, rfl, s0, upd_same⟩
    · rintro j σ H3 _ ⟨_, _, _, _, s3, _⟩
      exact My.Same.sqt s3 hTs
    · rintro j y σ H3 ex ⟨fa, x3, x4, rfl, s3, e3⟩
      obtain ⟨a, b, t, e1, rfl, ht⟩ := get j y ex
      have hjT : j < T.length := (List.getElem?_eq_some_iff.mp e1).1
      have hl : (nearF (T.take j) x).length ≤ 2000 := by
        have := nearF_len x (T.take j)
        rw [List.length_take] at this
        omega
      refine ⟨t, _, rfl, My.Same.sqt s3 ht, rfl, _, _, rfl, _, _, rfl, rfl, ?_⟩
      refine (show tAsg _ _ _ _ _ from tAsg_e (tOp_e (tOp_e ?_)))
      refine ⟨_, rfl, ?_⟩
      refine ⟨_, rfl, _, rfl, rfl, _, rfl, ?_⟩
      rw [dInt_iff (p := a = x) Iff.rfl]
      refine one_or rfl (fun l1 H4 s4 e4 => ?_)
      refine ⟨fa, l1, _, _, rfl, rfl, s4 _ _ e3, e4, ?_, fun c1 hc1 => ?_⟩
      · rw [List.length_map, List.length_map]
        have : (if a = x then [b] else []).length ≤ 1 := by split <;> simp
        exact small (by omega)
      have s5 := s4.trans (My.Same.new (o := HO.lst ((nearF (T.take j) x).map V.int ++ (if a = x then [b] else []).map V.int)) hc1)
      refine ⟨_, rfl, _, rfl, rfl, _, rfl, ?_⟩
      rw [dInt_iff (p := b = x) Iff.rfl]
      refine one_or rfl (fun l2 H6 s6 e6 => ?_)
      refine ⟨c1, l2, _, _, rfl, rfl, s6 _ _ upd_same, e6, ?_, fun c2 hc2 => ?_⟩
      · rw [List.length_append, List.length_map, List.length_map, List.length_map]
        have : (if a = x then [b] else []).length ≤ 1 := by split <;> simp
        have : (if b = x then [a] else []).length ≤ 1 := by split <;> simp
        exact small (by omega)
      refine ⟨c2, _, _, rfl, s3.trans (s5.trans (s6.trans (My.Same.new hc2))), ?_⟩
      rw [upd_same, List.take_add_one, e1]
      unfold nearF
      rw [List.flatMap_append, List.map_append]
      show some (HO.lst _) = some (HO.lst (_ ++ List.map V.int (List.flatMap _ [(a, b)])))
      rw [List.flatMap_cons, List.flatMap_nil, List.append_nil, List.map_append, List.append_assoc]
    · rintro σ H3 ⟨fa, x3, x4, rfl, s3, e3⟩
      rw [lts, List.take_length] at e3
      refine ⟨_, rfl, fa, nearF T x, rfl, SqL.of e3, fun r sa hr hle hsa => ?_⟩
      have er := sortI_eq (hr.trans (nearF_perm x T)) hle
      subst er
      refine ⟨sa, _, rfl, .inl ⟨SqL.of upd_same, fun ra hra => ?_⟩⟩
      exact q ra _ (s3.trans ((My.Same.new hsa).trans (My.Same.new hra))) (SqT.of upd_same)
end
end K27

set_option Elab.async false
set_option linter.all false
set_option maxRecDepth 100000
set_option maxHeartbeats 4000000
namespace K27
open PySem PySem.Spec PyProof.Rows L2 My
abbrev s_law_piece : Stmt := topS 31
theorem sc_law_piece : FnScope ["web", "lot", "place", "found", "turn", "more", "one", "other"] ["web", "lot", "place"] (defScope s_law_piece) := ⟨rfl, rfl, rfl, by decide +kernel, rfl, by decide +kernel, by decide +kernel⟩
section
variable {P : Program} {w : World} {K : PySem.W.Frag} {mg : Str → Option Value} {base : Heap}
theorem ok_law_piece {f : Addr} {fd : FuncData} {m : Nat} (F : Fun K "_law_piece" "_law_piece" s_law_piece f fd) (B : Bn mg) (D_law_near : Own P w K mg base "_law_near" m ["web", "place"] (spNbr K)) : FnOk P w K mg base CX0 (m + 1) f fd ["web", "lot", "place"] (spPiece K) := by
  refine F.ok sc_law_piece (fun vs H Q E h => ?_) (fun cdv A outer s H vs Q E hr h => ?_)
  · obtain ⟨v, n, T, lq, lot, s, rfl, _⟩ := h
    rfl
  · obtain ⟨v, n, T, lq, lot, s, rfl, hv, hWeb, n1, n12, hL, lL, bL, s0, s1, q⟩ := h
    have hT144 := hWeb.len n12
    refine ⟨_, (pss_cons (ps_set (i := 3) sc_law_piece.nd rfl (.inl rfl) (pe_lst (pa_cons (pv 2) pa_nil)))
      (pss_cons (ps_for PassesOwn.never rfl (pi_range1 (by rfl) B.range (pa_cons (pe_callB (lenQ K) (by rfl) B.len (by decide +kernel) (pa_cons (pv 1) pa_nil)) pa_nil)) (pg_name (i := 4) sc_law_piece.nd rfl (.inl rfl)) (pss_cons (ps_set (i := 5) sc_law_piece.nd rfl (.inl rfl) (pe_callTy (listOf K) (by rfl) B.list_ (by decide +kernel) (pa_cons (pv 3) pa_nil)))
      (pss_cons (ps_for PassesOwn.never rfl (pi_listK K (pv 3)) (pg_name (i := 6) sc_law_piece.nd rfl (.inl rfl)) (pss_one (ps_set (i := 5) sc_law_piece.nd rfl (.inl rfl) (pe_op op_cat (pv 5) (pe_lc (own := [("other", 7)]) (by rfl) sc_law_piece.nd (pi_tupK K (pe_own D_law_near hr (by rfl) (pa_cons (pv 0) (pa_cons (pv 6) pa_nil)))) (blkOk_by (own := [("other", 7)]) (N := ["web", "lot", "place", "found", "turn", "more", "one", "other"]) (sc := (defScope s_law_piece)) (by decide +kernel)) (fun _ _ _ _ _ => (pg_name (i := 7) sc_law_piece.nd rfl (.inl rfl))) (fun _ _ _ _ _ => (pts_one (pt_cmpR (inQ K) (pv 7) (pv 1) (by rfl)))) (fun _ _ _ _ _ => (pv 7)))))))
      (pss_one (ps_set (i := 3) sc_law_piece.nd rfl (.inl rfl) (pe_callB (sortedSet w rfl) (by rfl) B.sorted (by decide +kernel) (pa_cons (pe_callTy (setOfL K w rfl) (by rfl) B.set (by decide +kernel) (pa_cons (pv 5) pa_nil)) pa_nil)))))))
      (pss_one (ps_ret (pe_callTy (tupleOf K) (by rfl) B.tuple_ (by decide +kernel) (pa_cons (pv 3) pa_nil)))))), ?_⟩
    refine ⟨_, rfl, by show 1 ≤ sizeLine; decide, fun f0 hf0 => ?_⟩
    have sf := My.Same.new (o := HO.lst [V.int s]) hf0
    dsimp only
    refine (show tSeq _ _ _ _ _ from tSeq_e ?_)
    refine ⟨_, rfl, lq, _, rfl, .inr (My.Same.sqt sf hL), _, rfl, by rw [List.length_map]; omega, by rw [List.length_map]; omega, ?_⟩
    rw [Int.toNat_natCast, List.length_map]
    refine for_range (fun i σ H1 => ∃ (fa : Addr) (x4 x5 x6 : Option V) (fs : List Int), σ = [some v, some (.ref lq), some (.int s), some (.ref fa), x4, x5, x6, none] ∧ Same H H1 ∧ H1 fa = some (.lst (fs.map V.int)) ∧ fs.Pairwise (· < ·) ∧ (∀ x ∈ fs, Reach T lot s x) ∧ s ∈ fs ∧ (∀ x ∈ fs, 0 ≤ x ∧ x < n) ∧ (Closed T lot fs ∨ i + 1 ≤ fs.length)) ?_ ?_ ?_
    · exact ⟨f0, none, none, none, [s], rfl, sf, upd_same, by simp, fun x hx => by rw [List.mem_singleton.mp hx]; exact .base, by simp, fun x hx => by rw [List.mem_singleton.mp hx]; exact ⟨s0, s1⟩, .inr (by simp)⟩
    · rintro i σ H1 hi ⟨fa, x4, x5, x6, fs, rfl, sm, ef, hp, hR, hs, hbd, hcl⟩
      have l12 : fs.length ≤ n := len_bd (lt_nodup hp) hbd
      -- more = list(found)
      refine (show tSeq _ _ _ _ _ from tSeq_e (tAsg_e ?_))
      refine ⟨_, rfl, fa, _, rfl, .inl (SqL.of ef), fun ma hma => ?_⟩
      have t1 := My.Same.new (o := HO.lst (fs.map V.int)) hma
      have em : upd H1 ma (.lst (fs.map V.int)) ma = some (.lst (fs.map V.int)) := upd_same
      have ef1 := t1 _ _ ef
      have sm1 := sm.trans t1
      generalize upd H1 ma (HO.lst (fs.map V.int)) = H2 at em ef1 sm1 ⊢
      -- for one in found
      dsimp only
      refine (show tSeq _ _ _ _ _ from tSeq_e ?_)
      refine ⟨_, rfl, fa, rfl, ⟨_, SqL.of ef1⟩, ?_⟩
      refine for_list (xs := fs.map V.int) (fun j σ H3 => ∃ (mb : Addr) (x6 : Option V) (ms : List Int), σ = [some v, some (.ref lq), some (.int s), some (.ref fa), some (.int (0 + (i : Int))), some (.ref mb), x6, none] ∧ Same H2 H3 ∧ H3 mb = some (.lst (ms.map V.int)) ∧ (∀ x ∈ fs, x ∈ ms) ∧ (∀ x ∈ fs.take j, ∀ y ∈ nearS T x, y ∈ lot → y ∈ ms) ∧ (∀ y ∈ ms, y ∈ fs ∨ ∃ x ∈ fs, y ∈ nearS T x ∧ y ∈ lot) ∧ ms.length ≤ 12 + 288 * j) ?_ ?_ ?_ ?_
      · exact ⟨ma, x6, fs, rfl, Same.refl _, em, fun x h => h, fun x h => by simp at h, fun y h => .inl h, by omega⟩
      · rintro j σ H3 _ ⟨_, _, _, _, s3, _⟩
        exact SqL.of (s3 _ _ ef1)
      · rintro j x σ H3 ej ⟨mb, x6, ms, rfl, s3, e3, m1, m2, m3, m4⟩
        obtain ⟨z, ez, rfl⟩ : ∃ z, fs[j]? = some z ∧ x = .int z := by
          rw [List.getElem?_map] at ej
          cases e : fs[j]? with
          | none => rw [e] at ej; cases ej
          | some y => rw [e] at ej; exact ⟨y, rfl, (Option.some.inj ej).symm⟩
        have hj : j < fs.length := (List.getElem?_eq_some_iff.mp ez).1
        have hzm := List.mem_of_getElem? ez
        have sm3 := sm1.trans s3
        refine (show tAsg _ _ _ _ _ from tAsg_e (tOp_e ?_))
        refine ⟨_, rfl, ?_⟩
        refine ⟨_, rfl, _, rfl, v, (n : Int), T, z, rfl, Dq.same sm3 hv, by omega, fun t H4 s4 ht => ?_⟩
        have nl : (nearS T z).length ≤ 288 := by
          have := nearS_len (T := T) (x := z)
          omega
        refine ⟨t, rfl, ⟨_, ht⟩, fun D hD => ?_⟩
        refine lc_tup (xs := (nearS T z).map V.int) (fun k H5 => Same H4 H5 ∧ H5 D = some (.lst ((((nearS T z).take k).filter fun y => decide (y ∈ lot)).map V.int))) ⟨My.Same.new hD, upd_same⟩ (fun k H5 _ hP => My.Same.sqt hP.1 ht) ?_ ?_
        · rintro k x H5 ek ⟨s5, eD⟩
          obtain ⟨y, ey, rfl⟩ : ∃ y, (nearS T z)[k]? = some y ∧ x = .int y := by
            rw [List.getElem?_map] at ek
            cases e : (nearS T z)[k]? with
            | none => rw [e] at ek; cases ek
            | some y => rw [e] at ek; exact ⟨y, rfl, (Option.some.inj ek).symm⟩
          refine ⟨rfl, ?_⟩
          refine ⟨_, rfl, _, rfl, lq, _, rfl, .inr (My.Same.sqt (sm3.trans (s4.trans s5)) hL), rfl, flat_ints, _, rfl, ?_⟩
          show if inV (.int y) (lot.map V.int) = true then _ else _
          rw [inV_ints]
          have hl : (((nearS T z).take k).filter fun y => decide (y ∈ lot)).length ≤ 288 := by
            have h1 := List.length_filter_le (fun y : Int => decide (y ∈ lot)) ((nearS T z).take k)
            rw [List.length_take] at h1
            omega
          by_cases hy : y ∈ lot
          · rw [decide_eq_true hy]
            refine iteT ⟨_, rfl, _, eD, by rw [List.length_map]; exact smallT (by omega), My.Same.updD s5 hD, ?_⟩
            rw [upd_same, List.take_add_one, ey, List.filter_append]
            show some (HO.lst (_ ++ [V.int y])) = some (HO.lst (List.map V.int (_ ++ List.filter _ [y])))
            rw [List.filter_cons_of_pos (by simpa using hy), map_snoc]
            rfl
          · rw [decide_eq_false hy]
            refine iteF ⟨s5, ?_⟩
            rw [eD, List.take_add_one, ey, List.filter_append]
            show some (HO.lst _) = some (HO.lst (List.map V.int (_ ++ List.filter _ [y])))
            rw [List.filter_cons_of_neg (by simpa using hy), List.filter_nil, List.append_nil]
        · rintro H5 ⟨s5, eD⟩
          rw [List.length_map, List.take_length] at eD
          have fl : ((nearS T z).filter fun y => decide (y ∈ lot)).length ≤ 288 := by
            have h1 := List.length_filter_le (fun y : Int => decide (y ∈ lot)) (nearS T z)
            omega
          refine ⟨mb, D, _, _, rfl, rfl, s5 _ _ (s4 _ _ e3), eD, ?_, fun c hc => ?_⟩
          · rw [List.length_map, List.length_map]
            exact small (by omega)
          rw [← List.map_append]
          refine ⟨c, _, ms ++ (nearS T z).filter (fun y => decide (y ∈ lot)), rfl, s3.trans (s4.trans (s5.trans (My.Same.new hc))), upd_same, fun x hx => List.mem_append_left _ (m1 x hx), fun x hx y hy hl => ?_, fun y hy => ?_, ?_⟩
          · rw [List.take_add_one, ez] at hx
            rcases List.mem_append.mp hx with hx | hx
            · exact List.mem_append_left _ (m2 x hx y hy hl)
            · have e : x = z := by simpa using hx
              subst e
              exact List.mem_append_right _ (List.mem_filter.mpr ⟨hy, decide_eq_true hl⟩)
          · rcases List.mem_append.mp hy with hy | hy
            · exact m3 y hy
            · obtain ⟨h1, h2⟩ := List.mem_filter.mp hy
              exact .inr ⟨z, hzm, h1, of_decide_eq_true h2⟩
          · rw [List.length_append]
            omega
      · rintro σ H3 ⟨mb, x6, ms, rfl, s3, e3, m1, m2, m3, m4⟩
        rw [List.length_map, List.take_length] at m2
        rw [List.length_map] at m4
        have mR : ∀ y ∈ ms, Reach T lot s y := fun y hy => by
          rcases m3 y hy with h | ⟨x, hx, h1, h2⟩
          · exact hR y h
          · exact .step (hR x hx) h1 h2
        -- found = sorted(set(more))
        dsimp only
        refine (show tAsg _ _ _ _ _ from tAsg_e ?_)
        refine ⟨_, rfl, mb, ms, rfl, SqL.of e3, by omega, fun sa c hsa _ hcL => ⟨sa, _, c, rfl, upd_same, ?_, fun gs ga hgs hgm hgl hga => ?_⟩⟩
        · have := hcL (s :: lot) (fun k hk => by
            rcases reach_sub (mR k hk) with rfl | h
            · exact List.mem_cons_self
            · exact List.mem_cons_of_mem _ h)
          rw [List.length_cons] at this
          omega
        have gm : ∀ y, y ∈ gs ↔ y ∈ ms := fun y => by rw [hgm y, decide_eq_true_eq]
        refine ⟨ga, _, _, _, gs, rfl, sm1.trans (s3.trans ((My.Same.new hsa).trans (My.Same.new hga))), upd_same, hgs, fun x hx => mR x ((gm x).mp hx), (gm s).mpr (m1 s hs), fun x hx => ?_, ?_⟩
        · rcases m3 x ((gm x).mp hx) with h | ⟨x', hx', h1, h2⟩
          · exact hbd x h
          · exact nearS_bd hWeb h1
        · exact round_next (s := s) (lt_nodup hp) hcl hR (lt_nodup hgs) (fun x hx => (gm x).mpr (m1 x hx)) (fun x hx y hy hl => (gm y).mpr (m2 x hx y hy hl)) (fun y hy => m3 y ((gm y).mp hy))
    · rintro σ H1 ⟨fa, x4, x5, x6, fs, rfl, sm, ef, hp, hR, hs, hbd, hcl⟩
      have hc := round_end (lt_nodup hp) hcl (fun x hx => reach_sub (hR x hx))
      refine ⟨_, rfl, fa, _, rfl, .inl ⟨SqL.of ef, fun ra hra => ?_⟩⟩
      exact q ra fs _ ⟨hp, fun x => ⟨hR x, reach_closed hs hc⟩⟩ (sm.trans (My.Same.new hra)) (SqT.of upd_same)
end
end K27

set_option Elab.async false
set_option linter.all false
set_option maxRecDepth 100000
set_option maxHeartbeats 4000000
namespace K27
open PySem PySem.Spec PyProof.Rows L2 My
abbrev s_law_pieces : Stmt := topS 32
theorem sc_law_pieces : FnScope ["web", "lot", "place"] ["web", "lot"] (defScope s_law_pieces) := ⟨rfl, rfl, rfl, by decide +kernel, rfl, by decide +kernel, by decide +kernel⟩
section
variable {P : Program} {w : World} {K : PySem.W.Frag} {mg : Str → Option Value} {base : Heap}
theorem ok_law_pieces {f : Addr} {fd : FuncData} {m : Nat} (F : Fun K "_law_pieces" "_law_pieces" s_law_pieces f fd) (B : Bn mg) (D_law_piece : Own P w K mg base "_law_piece" m ["web", "lot", "place"] (spPiece K)) : FnOk P w K mg base CX0 (m + 1) f fd ["web", "lot"] (spPieces K) := by
  refine F.ok sc_law_pieces (fun vs H Q E h => ?_) (fun cdv A outer s H vs Q E hr h => ?_)
  · obtain ⟨v, n, T, lq, lot, rfl, _⟩ := h
    rfl
  · obtain ⟨v, n, T, lq, lot, rfl, hv, hWeb, n1, n12, hL, lL, bL, uL, q⟩ := h
    refine ⟨_, (pss_one (ps_ret (pe_callTy (tupleOf K) (by rfl) B.tuple_ (by decide +kernel) (pa_cons (pe_callB (sortedTL K P w rfl) (by rfl) B.sorted (by decide +kernel) (pa_cons (pe_callTy (setOfT K P w rfl hr.units) (by rfl) B.set (by decide +kernel) (pa_cons (pe_lc (own := [("place", 2)]) (by rfl) sc_law_pieces.nd (pi_tupK K (pv 1)) (blkOk_by (own := [("place", 2)]) (N := ["web", "lot", "place"]) (sc := (defScope s_law_pieces)) (by decide +kernel)) (fun _ _ _ _ _ => (pg_name (i := 2) sc_law_pieces.nd rfl (.inl rfl))) (fun _ _ _ _ _ => pts_nil) (fun _ _ _ _ _ => (pe_own D_law_piece hr (by rfl) (pa_cons (pv 0) (pa_cons (pv 1) (pa_cons (pv 2) pa_nil)))))) pa_nil)) pa_nil)) pa_nil)))), ?_⟩
    refine (show tRet _ _ _ _ from tCB1_e (tCB1_e (tCB1_e ?_)))
    refine lc_tuplesT (K := K) (lq := lq) (lot := lot) (Pr := PieceIs T lot) (fun Q h => ⟨_, rfl, h⟩) hL (by omega) (fun x hx H1 t1 R r => ?_) (fun x => rfl) (fun a us rms H1 lr hr s1 ea hus => ?_)
    · have hb := bL x hx
      exact ⟨_, rfl, _, rfl, _, rfl, v, n, T, lq, lot, x, rfl, Dq.same t1 hv, hWeb, n1, n12, My.Same.sqt t1 hL, lL, bL, hb.1, hb.2, fun aa rr H2 hp t2 hrr => r aa rr H2 hp t2 hrr⟩
    obtain ⟨ks, rfl, hks, hkt⟩ := ks_of (DpAll.same wo_le hus)
    have lks : ks.length = lot.length := by
      have := congrArg List.length hks
      rw [List.length_map] at this
      omega
    have kp : ∀ p ∈ ks, ∃ x ∈ lot, PieceIs T lot x p.2 := fun p hp => by
      obtain ⟨j, hj, e⟩ := List.getElem_of_mem hp
      have e1 : rms[j]? = some p.2 := by
        rw [← hks, List.getElem?_map, List.getElem?_eq_getElem hj, e]
        rfl
      have e2 : lot[j]? = some lot[j] := List.getElem?_eq_getElem (by omega)
      exact ⟨_, List.getElem_mem _, hr j _ _ e1 e2⟩
    refine ⟨a, ks, rfl, SqL.of ea, hkt, by omega, fun sa L hsa h1 h2 => ?_⟩
    have sS := My.Same.new (o := SetTO P w sa L) hsa
    refine ⟨sa, L, rfl, upd_same, fun p hp => ⟨My.Same.sqt sS (hkt p (h1 p hp)), ?_⟩, fun L' ra pm nd l64 lx hra => ?_⟩
    · obtain ⟨x, _, hp2⟩ := kp p (h1 p hp)
      exact hp2.ne
    refine ⟨ra, _, rfl, .inl ⟨SqL.of upd_same, fun ta hta => ?_⟩⟩
    have sA := sS.trans ((My.Same.new (o := HO.lst (L'.map fun q => V.ref q.1)) hra).trans (My.Same.new (o := HO.tup (L'.map fun q => V.ref q.1)) hta))
    have pI : PiecesIs T lot (L'.map (·.2)) := by
      refine ⟨lx, nd, fun r => ?_⟩
      constructor
      · intro hr2
        obtain ⟨p, hp, rfl⟩ := List.mem_map.mp hr2
        exact kp p (h1 p (pm.mem_iff.mp hp))
      · rintro ⟨x, hx, hp⟩
        obtain ⟨j, hj, e⟩ := List.getElem_of_mem hx
        have e2 : lot[j]? = some x := List.getElem?_eq_some_iff.mpr ⟨hj, e⟩
        have hjk : j < ks.length := by omega
        have e1 : rms[j]? = some ks[j].2 := by
          rw [← hks, List.getElem?_map, List.getElem?_eq_getElem hjk]
          rfl
        have := (hr j _ _ e1 e2).eq hp
        obtain ⟨p, hp3, e3⟩ := List.mem_map.mp (h2 ks[j] (List.getElem_mem _))
        refine List.mem_map.mpr ⟨p, pm.mem_iff.mpr hp3, ?_⟩
        rw [e3, this]
    have lp : L'.length ≤ 12 := by
      have hsub : ∀ r ∈ L'.map (·.2), r ∈ ks.map (·.2) := fun r hr2 => by
        obtain ⟨p, hp, rfl⟩ := List.mem_map.mp hr2
        exact List.mem_map.mpr ⟨p, h1 p (pm.mem_iff.mp hp), rfl⟩
      have := len_subG nd hsub
      rw [List.length_map, List.length_map] at this
      omega
    refine q ta _ _ pI (by rw [List.length_map]; exact lp) (s1.trans sA) (.tup (SqT.of upd_same) ?_)
    exact ks_to fun p hp => My.Same.sqt sA (hkt p (h1 p (pm.mem_iff.mp hp)))
end
end K27

set_option Elab.async false
set_option linter.all false
set_option maxRecDepth 100000
set_option maxHeartbeats 4000000
namespace K27
open PySem PySem.Spec PyProof.Rows L2 My
abbrev s_law_hangs : Stmt := topS 33
theorem sc_law_hangs : FnScope ["web", "lot"] ["web", "lot"] (defScope s_law_hangs) := ⟨rfl, rfl, rfl, by decide +kernel, rfl, by decide +kernel, by decide +kernel⟩
section
variable {P : Program} {w : World} {K : PySem.W.Frag} {mg : Str → Option Value} {base : Heap}
theorem ok_law_hangs {f : Addr} {fd : FuncData} {m : Nat} (F : Fun K "_law_hangs" "_law_hangs" s_law_hangs f fd) (B : Bn mg) (D_law_pieces : Own P w K mg base "_law_pieces" m ["web", "lot"] (spPieces K)) : FnOk P w K mg base CX0 (m + 1) f fd ["web", "lot"] (spHangs K) := by
  refine F.ok sc_law_hangs (fun vs H Q E h => ?_) (fun cdv A outer s H vs Q E hr h => ?_)
  · obtain ⟨v, n, T, lq, lot, rfl, _⟩ := h
    rfl
  · obtain ⟨v, n, T, lq, lot, rfl, hv, hWeb, n1, n12, hL, lL, bL, uL, q⟩ := h
    refine ⟨_, (pss_one (ps_ret (pe_cmpR op_eq (pe_callB (lenQ K) (by rfl) B.len (by decide +kernel) (pa_cons (pe_own D_law_pieces hr (by rfl) (pa_cons (pv 0) (pa_cons (pv 1) pa_nil))) pa_nil)) pe_int (nomark _)))), ?_⟩
    refine ⟨_, rfl, _, rfl, v, n, T, lq, lot, rfl, hv, hWeb, n1, n12, hL, lL, bL, uL, fun pa ps H1 hp lp s1 hd => ?_⟩
    cases hd with
    | tup hT2 hds =>
      refine ⟨_, _, rfl, .inr hT2, rfl, ?_⟩
      have := q ps H1 hp s1
      rw [My.DpAll.len hds, List.length_map]
      rw [dInt_iff (p := ps.length = 1) (by omega)]
      exact this
end
end K27

set_option Elab.async false
set_option linter.all false
set_option maxRecDepth 100000
set_option maxHeartbeats 4000000
namespace K27
open PySem PySem.Spec PyProof.Rows L2 My
abbrev s_law_is_standing : Stmt := topS 39
theorem sc_law_is_standing : FnScope ["web", "roots", "bounds", "value", "i", "lot"] ["web", "roots", "bounds", "value"] (defScope s_law_is_standing) := ⟨rfl, rfl, rfl, by decide +kernel, rfl, by decide +kernel, by decide +kernel⟩
section
variable {P : Program} {w : World} {K : PySem.W.Frag} {mg : Str → Option Value} {base : Heap}
theorem dealing_ints2 {n k : Int} {d : PyData} (h : dealingD n k d = true) : ∃ ds, d = .tuple ds ∧ (ds.length : Int) = n ∧ IntsD ds ∧ ∀ z ∈ intsOf ds, 0 ≤ z ∧ z < k := by
  cases d with
  | tuple ds =>
    simp only [dealingD, Bool.and_eq_true, decide_eq_true_eq] at h
    have hi := placeD_ints h.2
    refine ⟨ds, rfl, h.1, hi, ?_⟩
    have h2 := List.all_eq_true.mp h.2
    clear h
    induction ds with
    | nil => intro z hz; cases hz
    | cons d ds ih =>
      obtain ⟨i, rfl⟩ := hi d List.mem_cons_self
      intro z hz
      rcases List.mem_cons.mp (show z ∈ i :: intsOf ds from hz) with rfl | hz
      · have := h2 (.int z) List.mem_cons_self
        simp only [placeD, Bool.and_eq_true, decide_eq_true_eq] at this
        exact this
      · exact ih (fun e he => hi e (List.mem_cons_of_mem _ he)) (fun e he => h2 e (List.mem_cons_of_mem _ he)) z hz
  | _ => cases h
theorem ok_law_is_standing {f : Addr} {fd : FuncData} {m : Nat} (F : Fun K "_law_is_standing" "_law_is_standing" s_law_is_standing f fd) (B : Bn mg) (D_law_is_dealing : Own P w K mg base "_law_is_dealing" m ["n", "k", "value"] (spDealing K)) (D_law_hangs : Own P w K mg base "_law_hangs" m ["web", "lot"] (spHangs K)) (D_law_part : Own P w K mg base "_law_part" m ["dealing", "i"] (spPartOf K)) : FnOk P w K mg base CX0 (m + 1) f fd ["web", "roots", "bounds", "value"] (spStanding K) := by
  refine F.ok sc_law_is_standing (fun vs H Q E h => ?_) (fun cdv A outer s H vs Q E hr h => ?_)
  · obtain ⟨v, ra, bv, x, n, T, rs, bs, d, W, D, rfl, _⟩ := h
    rfl
  · obtain ⟨v, ra, bv, x, n, T, rs, bs, d, W, D, rfl, hv, hWeb, n1, n12, hR, hB, rs1, lbs, lrs, hd, sm, hW4, q⟩ := h
    obtain ⟨wa, ta, ts, rfl, hW, hTs, lts, get⟩ := hv.web
    refine ⟨_, (pss_cons (ps_if (pt_not (pt_val (pe_own D_law_is_dealing hr (by rfl) (pa_cons (pe_ix (ixT K) (pv 0) pe_int (fun _ _ => rfl)) (pa_cons (pe_callB (lenQ K) (by rfl) B.len (by decide +kernel) (pa_cons (pv 1) pa_nil)) (pa_cons (pv 3) pa_nil)))))) (pss_one (ps_ret pe_bl)) pss_nil)
      (pss_cons (ps_for PassesOwn.never rfl (pi_range1 (by rfl) B.range (pa_cons (pe_callB (lenQ K) (by rfl) B.len (by decide +kernel) (pa_cons (pv 1) pa_nil)) pa_nil)) (pg_name (i := 4) sc_law_is_standing.nd rfl (.inl rfl)) (pss_cons (ps_set (i := 5) sc_law_is_standing.nd rfl (.inl rfl) (pe_own D_law_part hr (by rfl) (pa_cons (pv 3) (pa_cons (pv 4) pa_nil))))
      (pss_one (ps_if ((pw_or (pt_cmpR op_ne (pe_ix (ixT K) (pv 3) (pe_ix (ixT K) (pv 1) (pv 4) (fun _ _ => rfl)) (fun _ _ => rfl)) (pv 4) (nomark _)) (pw_or (pt_not (pt_chain op_le op_le (pe_ix (ixT K) (pe_ix (ixT K) (pv 2) (pv 4) (fun _ _ => rfl)) pe_int (fun _ _ => rfl)) (pe_callB (lenQ K) (by rfl) B.len (by decide +kernel) (pa_cons (pv 5) pa_nil)) (pe_ix (ixT K) (pe_ix (ixT K) (pv 2) (pv 4) (fun _ _ => rfl)) pe_int (fun _ _ => rfl)))) (pw_or1 (pt_not (pt_val (pe_own D_law_hangs hr (by rfl) (pa_cons (pv 0) (pa_cons (pv 5) pa_nil))))))))).pt (pss_one (ps_ret pe_bl)) pss_nil))))
      (pss_one (ps_ret pe_bl)))), ?_⟩
    refine (show tSeq _ _ _ [some (.ref wa), some (.ref ra), some bv, some x, none, none] _ from tSeq_e ?_)
    refine ⟨_, rfl, wa, _, 0, _, rfl, rfl, hW, rfl, _, rfl, ra, _, rfl, .inr hR, _, rfl, (n : Int), (rs.length : Nat), x, d, W, D, (by rw [List.length_map]; rfl), hd, sm, hW4, fun H1 s1 => ⟨_, rfl, ?_⟩⟩
    cases hde : dealingD (n : Int) (rs.length : Nat) d with
    | false =>
      have e : standD T n rs bs d = false := by
        cases d with
        | tuple ds => simp only [standD, hde, Bool.false_and]
        | _ => rfl
      rw [e] at q
      exact iteT (q H1 s1)
    | true =>
      obtain ⟨ds, rfl, lds, hi, hb⟩ := dealing_ints2 hde
      obtain ⟨va, xs, rfl, hV, hxs⟩ := hd.un_tup
      have ex := hxs.intsOf hi
      rw [ex] at hV
      have lz : (intsOf ds).length = n := by rw [intsOf_len hi]; omega
      simp only [standD, hde, Bool.true_and] at q
      generalize intsOf ds = zs at hV lz hb q
      refine iteF ?_
      have hV1 := My.Same.sqt s1 hV
      have hR1 := My.Same.sqt s1 hR
      have hB1 := Dq.same s1 hB
      have hv1 := Dq.same s1 hv
      dsimp only
      refine (show tSeq _ _ _ [some (.ref wa), some (.ref ra), some bv, some (.ref va), none, none] _ from tSeq_e ?_)
      refine ⟨_, rfl, ra, _, rfl, .inr hR1, _, rfl, by rw [List.length_map]; omega, by rw [List.length_map]; omega, ?_⟩
      rw [Int.toNat_natCast, List.length_map]
      refine for_range (fun j σ H => ∃ (y5 y6 : Option V), σ = [some (.ref wa), some (.ref ra), some bv, some (.ref va), y5, y6] ∧ Same H1 H ∧ (List.range j).all (okStand T rs bs zs) = true) ?_ ?_ ?_
      · exact ⟨none, none, rfl, Same.refl _, rfl⟩
      · rintro j σ H3 hj ⟨y5, y6, rfl, s3, hall⟩
        rw [Int.zero_add]
        obtain ⟨r, er⟩ : ∃ r, rs[j]? = some r := ⟨_, List.getElem?_eq_getElem hj⟩
        obtain ⟨b, eb⟩ : ∃ r, bs[j]? = some r := ⟨_, List.getElem?_eq_getElem (by omega)⟩
        obtain ⟨r0, r1⟩ := rs1 r (List.mem_of_getElem? er)
        have no : ∀ H4, Same H3 H4 → okStand T rs bs zs j = false → Q (.bl false) H4 := fun H4 s4 ho => by
          have := q H4 (s1.trans (s3.trans s4))
          have e : (List.range rs.length).all (okStand T rs bs zs) = false := by
            rw [List.all_eq_false]
            exact ⟨j, List.mem_range.mpr hj, by rw [ho]; decide⟩
          rw [e] at this
          exact this
        -- lot = _law_part(value, i)
        refine (show tSeq _ _ _ [some (.ref wa), some (.ref ra), some bv, some (.ref va), some (.int (j : Int)), y6] _ from tSeq_e (tAsg_e ?_))
        refine ⟨_, rfl, _, rfl, va, zs, (j : Int), rfl, My.Same.sqt s3 hV1, by omega, fun pa H4 s4 hp => ?_⟩
        have pl := partL_len (zs := zs) (i := (j : Int))
        have s34 := s3.trans s4
        dsimp only [gName]
        refine (show tIfS _ _ _ _ [some (.ref wa), some (.ref ra), some bv, some (.ref va), some (.int (j : Int)), some (.ref pa)] _ from ?_)
        have sw : Same H1 (wos [] H4) := s34.trans wo_nil
        have hiv : EvQ K [] H4 [some (.ref wa), some (.ref ra), some bv, some (.ref va), some (.int (j : Int)), some (.ref pa)] (tVar 4) (.int (j : Int)) := EvQ.var rfl (.int _)
        have h1 := EvQ.neI (EvQ.idxT (EvQ.var (i := 3) rfl (Dq.same sw (Dq.ofTI hV1))) (EvQ.idxT (EvQ.var (i := 1) rfl (Dq.same sw (Dq.ofTI hR1))) hiv (by omega) (by omega)) (by rw [Int.toNat_natCast, getD_at er]; exact r0) (by rw [Int.toNat_natCast, getD_at er]; omega)) hiv
        have hlen := EvQ.lenT (EvQ.var (K := K) (av := []) (H0 := H4) (σ := [some (.ref wa), some (.ref ra), some bv, some (.ref va), some (.int (j : Int)), some (.ref pa)]) (i := 5) rfl (Dq.same wo_nil (Dq.ofTI hp)))
        rw [List.length_map] at hlen
        have hbi := EvQ.idxD (d := tI (prI b)) (EvQ.var (i := 2) rfl (Dq.same sw hB1)) hiv (by rw [List.getElem?_map, List.getElem?_map, eb]; rfl)
        have h2 := EvQ.chain (f := fun i j => decide (i ≤ j)) (g := fun i j => decide (i ≤ j)) (EvQ.idxT (ns := prI b) hbi (EvQ.c (.int 0)) (by omega) (by show (0 : Int) < 2; omega)) hlen (EvQ.idxT (ns := prI b) hbi (EvQ.c (.int 1)) (by omega) (by show (1 : Int) < 2; omega))
        rw [Int.toNat_natCast, getD_at er] at h1
        refine h1 H4 (Same.refl _) _ fun y H5 s5 hy => ?_
        cases hy
        refine ⟨_, rfl, ?_⟩
        have ez : zs[r.toNat]? = some (zs.getD r.toNat 0) := getD_of (by omega)
        by_cases hzj : zs.getD r.toNat 0 = (j : Int)
        · refine iteFF (by rw [decide_eq_true hzj]; rfl) ?_
          refine h2 H5 s5 _ fun y H6 s6 hy => ?_
          cases hy
          refine ⟨_, rfl, ?_⟩
          show if (!(withinB b (partL zs (j : Int)).length)) = true then _ else _
          cases hwb : withinB b (partL zs (j : Int)).length with
          | false =>
            refine iteT (no H6 (s4.trans (s5.trans s6)) ?_)
            unfold okStand
            rw [getD_bs eb, hwb, Bool.false_and, Bool.and_false]
          | true =>
            refine iteF ?_
            have s46 := s34.trans (s5.trans s6)
            refine ⟨_, rfl, _, rfl, .ref wa, n, T, pa, _, rfl, Dq.same s46 hv1, hWeb, n1, n12, My.Same.sqt (s5.trans s6) hp, by omega, fun y hy => by have := mem_partL hy; omega, partL_up, fun ps H7 hps s7 => ⟨_, rfl, ?_⟩⟩
            rw [hangsB_eq hps]
            cases hh : hangsB T (partL zs (j : Int)) with
            | true =>
              refine iteF ⟨_, _, rfl, s46.trans s7, ?_⟩
              rw [List.range_succ, List.all_append, hall, Bool.true_and, List.all_cons, List.all_nil, Bool.and_true]
              unfold okStand
              rw [getD_at er, getD_bs eb, ez, hzj, decide_eq_true rfl, hh, hwb]
              rfl
            | false =>
              refine iteT (no H7 (s4.trans (s5.trans (s6.trans s7))) ?_)
              unfold okStand
              rw [hh, Bool.and_false, Bool.and_false]
        · refine iteTT (by rw [decide_eq_false hzj]; rfl) (no H5 (s4.trans s5) ?_)
          unfold okStand
          rw [getD_at er, ez, decide_eq_false (fun e => hzj (Option.some.inj e)), Bool.false_and]
      · rintro σ H3 ⟨y5, y6, rfl, s3, hall⟩
        rw [hall] at q
        exact q H3 (s1.trans s3)
end
end K27

set_option Elab.async false
set_option linter.all false
set_option maxRecDepth 100000
set_option maxHeartbeats 4000000
namespace K27
open PySem PySem.Spec PyProof.Rows L2 My
abbrev s_law_standings : Stmt := topS 40
theorem sc_law_standings : FnScope ["web", "roots", "bounds", "every", "one"] ["web", "roots", "bounds"] (defScope s_law_standings) := ⟨rfl, rfl, rfl, by decide +kernel, rfl, by decide +kernel, by decide +kernel⟩
section
variable {P : Program} {w : World} {K : PySem.W.Frag} {mg : Str → Option Value} {base : Heap}
theorem ok_law_standings {f : Addr} {fd : FuncData} {m : Nat} (F : Fun K "_law_standings" "_law_standings" s_law_standings f fd) (B : Bn mg) (D_law_dealings : Own P w K mg base "_law_dealings" m ["n", "k", "roots"] (spDealsX K)) (D_law_is_standing : Own P w K mg base "_law_is_standing" m ["web", "roots", "bounds", "value"] (spStanding K)) : FnOk P w K mg base CX0 (m + 1) f fd ["web", "roots", "bounds"] (spStandings K) := by
  refine F.ok sc_law_standings (fun vs H Q E h => ?_) (fun cdv A outer s H vs Q E hr h => ?_)
  · obtain ⟨v, ra, bv, n, T, rs, bs, rfl, _⟩ := h
    rfl
  · obtain ⟨v, ra, bv, n, T, rs, bs, rfl, hv, hW, n1, n7, hP, hB, rb, lbs, k1, k5, hfew, q⟩ := h
    obtain ⟨wa, wx, rfl, hWT, _⟩ := id hv.first
    refine ⟨_, (pss_cons (ps_set (i := 3) sc_law_standings.nd rfl (.inl rfl) (pe_own D_law_dealings hr (by rfl) (pa_cons (pe_ix (ixT K) (pv 0) pe_int (fun _ _ => rfl)) (pa_cons (pe_callB (lenQ K) (by rfl) B.len (by decide +kernel) (pa_cons (pv 1) pa_nil)) (pa_cons (pv 1) pa_nil)))))
      (pss_one (ps_ret (pe_lc (own := [("one", 4)]) (by rfl) sc_law_standings.nd (pi_listK K (pv 3)) (blkOk_by (own := [("one", 4)]) (N := ["web", "roots", "bounds", "every", "one"]) (sc := (defScope s_law_standings)) (by decide +kernel)) (fun _ _ _ _ _ => (pg_name (i := 4) sc_law_standings.nd rfl (.inl rfl))) (fun _ _ _ _ _ => (pts_one (pt_val (pe_own D_law_is_standing hr (by rfl) (pa_cons (pv 0) (pa_cons (pv 1) (pa_cons (pv 2) (pa_cons (pv 4) pa_nil)))))))) (fun _ _ _ _ _ => (pv 4)))))), ?_⟩
    refine (show tSeq _ _ _ [some (.ref wa), some (.ref ra), some bv, none, none] _ from tSeq_e (tAsg_e ?_))
    refine ⟨_, rfl, wa, _, 0, _, rfl, rfl, hWT, rfl, _, rfl, ra, _, rfl, .inr hP.sqt, _, rfl, ?_⟩
    rw [List.length_map]
    refine ⟨n, rs.length, ra, rs, rfl, hP, rfl, k1, k5, n7, hfew, fun ea H1 s1 hL => ?_⟩
    dsimp only [gName]
    refine (show tRet _ _ [some (.ref wa), some (.ref ra), some bv, some (.ref ea), none] _ from ?_)
    have h := EvN.lcL (K := K) (av := []) (H0 := H1) (σ := [some (.ref wa), some (.ref ra), some bv, some (.ref ea), none]) (t := tVar 3) (f := tI) (l := dealsL rs.length rs n) (p := fun r => standD T n rs bs (tI r)) (F := tI) (vs := [4]) (g := gName 4) (tt := tTest (tCall (spStanding K) [] E0 (tCons (tVar 0) (tCons (tVar 1) (tCons (tVar 2) (tCons (tVar 4) tNil)))))) (te := tVar 4) avs_nil (hL.ev rfl) (by have := hfew n (Nat.le_refl n); omega) fun r hr H2 s2 => LcTurn.test (fun _ => rfl) fun x av' H3 hin hav sw hx => by
        have sw2 := (s1.trans wo_nil).trans ((My.Same.wos s2).trans sw)
        exact ⟨EvQ.standing hW n1 (by omega) rb lbs (by omega) (smDeal rfl hr (by omega) (by omega)) (by decide) (EvQ.var rfl (Dq.same sw2 hv)) (EvQ.var rfl (Dq.same sw2 (Dq.ofTI hP.sqt))) (EvQ.var rfl (Dq.same sw2 hB)) (EvQ.var rfl hx), fun _ => EvQ.var rfl hx⟩
    refine h H1 (Same.refl _) _ fun a xs H2 na s2 eaa nn hx => q a H2 (s1.free na) (s1.trans s2) ⟨nn, xs, eaa, hx⟩
end
end K27

set_option Elab.async false
set_option linter.all false
set_option maxRecDepth 100000
set_option maxHeartbeats 4000000
namespace K27
open PySem PySem.Spec PyProof.Rows L2 My
abbrev s_put : Stmt := topS 11
theorem sc_put : FnScope ["dealing", "place", "i"] ["dealing", "place", "i"] (defScope s_put) := ⟨rfl, rfl, rfl, by decide +kernel, rfl, by decide +kernel, by decide +kernel⟩
section
variable {P : Program} {w : World} {K : PySem.W.Frag} {mg : Str → Option Value} {base : Heap}
theorem ok_put {f : Addr} {fd : FuncData} {m : Nat} (F : Fun K "put" "put" s_put f fd) (B : Bn mg) : FnOk P w K mg base CX0 (m + 1) f fd ["dealing", "place", "i"] (spPut K) := by
  refine F.ok sc_put (fun vs H Q E h => ?_) (fun cdv A outer s H vs Q E hr h => ?_)
  · obtain ⟨st, ss, p, i, rfl, _⟩ := h
    rfl
  · obtain ⟨st, ss, p, i, rfl, hS, hp, hl, q⟩ := h
    refine ⟨_, (pss_one (ps_ret (pe_op (catA K) (pe_op (catA K) (pe_slice (slT K) (pv 0) po_none (po_some (pv 1))) (pe_tup (pa_cons (pv 2) pa_nil))) (pe_slice (slT K) (pv 0) (po_some (pe_op op_add (pv 1) pe_int)) po_none)))), ?_⟩
    refine (show tRet _ _ _ _ from tOp_e (tOp_e ?_))
    refine ⟨_, rfl, ?_⟩
    unfold tNoPart
    refine ⟨_, rfl, (p : Int), rfl, ?_⟩
    refine slT_any hS (fun b1 H1 t1 hb1 => ?_)
    rw [cut_take, ← List.map_take] at hb1
    refine ⟨_, rfl, by show 1 ≤ sizeLine; decide, fun b2 hb2 => ?_⟩
    have t2 := t1.trans (My.Same.new (o := HO.tup [V.int i]) hb2)
    refine catI (My.Same.sqt (My.Same.new hb2) hb1) (SqT.of upd_same) (by rw [List.length_map, List.length_take, List.length_cons, List.length_nil]; omega) (fun c H3 t3 hc => ?_)
    have t4 := t2.trans t3
    refine (show tSl _ _ _ _ _ _ _ from ?_)
    refine ⟨_, rfl, _, rfl, (p : Int), 1, rfl, rfl, (p : Int) + 1, rfl, ?_⟩
    refine slT_any (My.Same.sqt t4 hS) (fun b3 H5 t5 hb3 => ?_)
    rw [show (p : Int) + 1 = ((p + 1 : Nat) : Int) from rfl, cut_drop (by rw [List.length_map]; omega)] at hb3
    refine catI (My.Same.sqt t5 hc) hb3 (by rw [List.length_append, List.length_map, List.length_take, List.length_drop, List.length_map, List.length_cons, List.length_nil]; omega) (fun d H6 t6 hd => ?_)
    refine q d H6 (t4.trans (t5.trans t6)) ?_
    have e : (ss.take p).map V.int ++ [V.int i] ++ (ss.map V.int).drop (p + 1) = (ss.set p i).map V.int := by
      rw [← set_cut hp, List.map_append, List.map_append, List.map_drop]
      rfl
    rw [← e]
    exact hd
end
end K27

set_option Elab.async false
set_option linter.all false
set_option maxRecDepth 100000
set_option maxHeartbeats 4000000
namespace K27
open PySem PySem.Spec PyProof.Rows L2 My
abbrev s_moves_of : Stmt := topS 17
theorem sc_moves_of : FnScope ["web", "roots", "bounds", "standing", "moved", "place", "part", "i", "dealing"] ["web", "roots", "bounds", "standing"] (defScope s_moves_of) := ⟨rfl, rfl, rfl, by decide +kernel, rfl, by decide +kernel, by decide +kernel⟩
section
variable {P : Program} {w : World} {K : PySem.W.Frag} {mg : Str → Option Value} {base : Heap}
theorem ok_moves_of {f : Addr} {fd : FuncData} {m : Nat} (F : Fun K "moves_of" "moves_of" s_moves_of f fd) (B : Bn mg) (D_is_standing : Own P w K mg base "is_standing" m ["web", "roots", "bounds", "value"] (spStanding K)) (D_put : Own P w K mg base "put" m ["dealing", "place", "i"] (spPut K)) : FnOk P w K mg base CX0 (m + 1) f fd ["web", "roots", "bounds", "standing"] (spMoves K) := by
  refine F.ok sc_moves_of (fun vs H Q E h => ?_) (fun cdv A outer s H vs Q E hr h => ?_)
  · obtain ⟨v, ra, bv, st, n, T, rs, bs, zs, rfl, _⟩ := h
    rfl
  · obtain ⟨v, ra, bv, st, n, T, rs, bs, zs, rfl, hv, hW, n1, n7, hR, hB, rb, lbs, k1, k5, hS, hz, q⟩ := h
    have B := B
    refine ⟨_, (pss_cons (ps_setLc2 (i := 4) (own := [("place", 5), ("part", 6), ("i", 7)]) (vs1 := [7]) rfl sc_moves_of.nd rfl rfl (sw_true rfl rfl rfl (by decide +kernel)) (pi_enumTK K (by rfl) B.enumerate (pa_cons (pv 3) pa_nil)) (blkOk_by (own := [("place", 5), ("part", 6), ("i", 7)]) (N := ["web", "roots", "bounds", "standing", "moved", "place", "part", "i", "dealing"]) (sc := (defScope s_moves_of)) (by decide +kernel)) (by decide) (fun _ _ _ _ _ => (pg_tupK K 2 (by rfl) (pgs_cons (pg_name (i := 5) sc_moves_of.nd rfl (.inl rfl)) (pgs_cons (pg_name (i := 6) sc_moves_of.nd rfl (.inl rfl)) pgs_nil)))) (fun _ _ _ _ _ => pts_nil) (fun _ _ _ _ _ => (pi_range1 (by rfl) B.range (pa_cons (pe_callB (lenQ K) (by rfl) B.len (by decide +kernel) (pa_cons (pv 1) pa_nil)) pa_nil))) (fun _ _ _ _ _ => (pg_name (i := 7) sc_moves_of.nd rfl (.inl rfl))) (fun _ _ _ _ _ => (pts_one (pt_cmpR op_ne (pv 7) (pv 6) (nomark _)))) (fun _ _ _ _ _ => (pe_own D_put hr (by rfl) (pa_cons (pv 3) (pa_cons (pv 5) (pa_cons (pv 7) pa_nil))))))
      (pss_one (ps_ret (pe_callB (sortU K (d := n) (B := (rs.length : Int)) n1) (by rfl) B.sorted (by decide +kernel) (pa_cons (pe_lc (own := [("dealing", 8)]) (by rfl) sc_moves_of.nd (pi_listK K (pv 4)) (blkOk_by (own := [("dealing", 8)]) (N := ["web", "roots", "bounds", "standing", "moved", "place", "part", "i", "dealing"]) (sc := (defScope s_moves_of)) (by decide +kernel)) (fun _ _ _ _ _ => (pg_name (i := 8) sc_moves_of.nd rfl (.inl rfl))) (fun _ _ _ _ _ => (pts_one (pt_val (pe_own D_is_standing hr (by rfl) (pa_cons (pv 0) (pa_cons (pv 1) (pa_cons (pv 2) (pa_cons (pv 8) pa_nil)))))))) (fun _ _ _ _ _ => (pv 8))) pa_nil))))), ?_⟩
    refine (show tSeq _ _ _ [some v, some (.ref ra), some bv, some (.ref st), none, none, none, none, none] _ from tSeq_e (tAsg_e ?_))
    have lz := hz.1
    have h := EvN.lc2ER (K := K) (av := []) (H0 := H) (σ := [some v, some (.ref ra), some bv, some (.ref st), none, none, none, none, none]) (t1 := tVar 3) (t2 := tCB (rLenQ K) (tCons (tVar 1) tNil)) (t3 := tOp rNe (tVar 7) (tVar 6)) (f := PyData.int) (l := zs) (n := rs.length) (u := 5) (v := 6) (w := 7) (vs := [5, 6, 7]) (vs1 := [7]) (p := fun q j => !decide (((j : Nat) : Int) = q.1)) (F := fun q j => tI (zs.set q.2 ((j : Nat) : Int))) (te := tCall (spPut K) [] E0 (tCons (tVar 3) (tCons (tVar 5) (tCons (tVar 7) tNil)))) (fun b hb => nomatch hb) (EvQ.var rfl (Dq.same wo_nil (Dq.ofTI hS))) (by
      have : zs.length * rs.length ≤ 7 * 5 := Nat.mul_le_mul (by omega) (by omega)
      omega) (fun _ _ => rfl) (fun _ _ _ => rfl) (fun x y H1 s1 => by
        have h := EvQ.lenT (EvQ.var (K := K) (av := []) (H0 := H1) (σ := [some v, some (.ref ra), some bv, some (.ref st), none, some x, some y, none, none]) (i := 1) rfl (Dq.same (s1.trans wo_nil) (Dq.ofTI hR)))
        rw [List.length_map] at h
        exact h) fun a i ea j hj y av' H1 hL' s1 sw hy => by
        cases hy
        have hi := (List.getElem?_eq_some_iff.mp ea).1
        refine ⟨EvQ.neI (EvQ.var rfl (.int (j : Int))) (EvQ.var rfl (.int a)), fun H2 s2 Q2 q2 => ?_⟩
        exact ⟨_, rfl, _, rfl, _, rfl, st, zs, i, (j : Int), rfl, My.Same.sqt (s1.trans s2) hS, hi, by omega, fun b H3 s3 hb => q2 _ _ s3 (Dq.ofTI (sqt_wos ((hL'.same s2).same s3) hb))⟩
    have em : (zs.zipIdx.flatMap (rowER (fun (q : Int × Nat) (j : Nat) => !decide (((j : Nat) : Int) = q.1)) (fun (q : Int × Nat) (j : Nat) => tI (zs.set q.2 ((j : Nat) : Int))) rs.length)) = (movesL rs.length zs).map tI := by
      unfold movesL
      rw [List.map_flatMap]
      congr 1
      funext q
      unfold rowER
      rw [List.map_map]
      rfl
    rw [em] at h
    refine h.l.to fun ma H1 s1 hM => ?_
    dsimp only [gName]
    refine (show tRet _ _ [some v, some (.ref ra), some bv, some (.ref st), some (.ref ma), none, none, none, none] _ from tCB1_e ?_)
    have hml := movesL_len (k := rs.length) (zs := zs)
    have hml2 : zs.length * rs.length ≤ 7 * 5 := Nat.mul_le_mul (by omega) (by omega)
    have hbm : ∀ r ∈ movesL rs.length zs, DealtTo n rs.length r := fun r hr => by
      obtain ⟨p, i, z, ez, hi, _, rfl⟩ := mem_movesL.mp hr
      refine ⟨by rw [List.length_set]; exact lz, fun x hx => ?_⟩
      rcases List.mem_or_eq_of_mem_set hx with hx | rfl
      · exact hz.2 x hx
      · omega
    have h2 := EvN.lcL (K := K) (av := []) (H0 := H1) (σ := [some v, some (.ref ra), some bv, some (.ref st), some (.ref ma), none, none, none, none]) (t := tVar 4) (f := tI) (l := movesL rs.length zs) (p := fun r => standD T n rs bs (tI r)) (F := tI) (vs := [8]) (g := gName 8) (tt := tTest (tCall (spStanding K) [] E0 (tCons (tVar 0) (tCons (tVar 1) (tCons (tVar 2) (tCons (tVar 8) tNil)))))) (te := tVar 8) avs_nil (hM.ev rfl) (by omega) fun r hr H2 s2 => LcTurn.test (fun _ => rfl) fun x av' H3 hin hav sw hx => by
        have sw2 := (s1.trans wo_nil).trans ((My.Same.wos s2).trans sw)
        obtain ⟨lr, br⟩ := hbm r hr
        have sm : Sm 12 1 (tI r) := SmAll.tuple ((smInts r fun x hx => by have := br x hx; omega).mono (by omega) (Nat.le_refl 0))
        exact ⟨EvQ.standing hW n1 (by omega) rb lbs (by omega) sm (by decide) (EvQ.var rfl (Dq.same sw2 hv)) (EvQ.var rfl (Dq.same sw2 (Dq.ofTI hR))) (EvQ.var rfl (Dq.same sw2 hB)) (EvQ.var rfl hx), fun _ => EvQ.var rfl hx⟩
    refine h2 H1 (Same.refl _) _ fun a xs H2 na s2 ea nn hx => ?_
    have hx0 := DqAll.same wos_le hx
    have lxs := hx.len
    rw [List.length_map] at lxs
    have hfl := List.length_filter_le (fun r => standD T n rs bs (tI r)) (movesL rs.length zs)
    refine ⟨a, xs, rfl, SqL.of ea, by omega, fun x hxm => ?_, fun ys b hperm hpw hb => ?_⟩
    · obtain ⟨i, hi, e⟩ := List.getElem_of_mem hxm
      obtain ⟨d, hd, hdq⟩ := hx0.mem (List.getElem?_eq_some_iff.mpr ⟨hi, e⟩)
      obtain ⟨r, hr, rfl⟩ := List.mem_map.mp hd
      obtain ⟨t, rfl, ht⟩ := Dq.sqI2 hdq
      obtain ⟨lr, br⟩ := hbm r (List.mem_filter.mp hr).1
      exact ⟨r, ⟨t, rfl, ht⟩, lr, fun m hm => br m hm⟩
    · obtain ⟨es, f1, f2⟩ := DqAll.perm hperm hx0
      have hes : es = (es.map untI).map tI := by
        rw [List.map_map]
        have : ∀ e ∈ es, (tI ∘ untI) e = e := fun e he => by
          obtain ⟨r, _, rfl⟩ := List.mem_map.mp (f1.mem_iff.mp he)
          show tI (untI (tI r)) = tI r
          rw [untI_tI]
        rw [List.map_congr_left this, List.map_id']
      have hp2 : (es.map untI).Perm ((movesL rs.length zs).filter fun r => standD T n rs bs (tI r)) := by
        have := f1.map untI
        rw [List.map_map] at this
        have e : ((movesL rs.length zs).filter fun r => standD T n rs bs (tI r)).map (untI ∘ tI) = ((movesL rs.length zs).filter fun r => standD T n rs bs (tI r)) := by
          have : (untI ∘ tI) = id := funext untI_tI
          rw [this, List.map_id]
        rw [e] at this
        exact this
      rw [hes] at f2
      generalize es.map untI = L at f2 hp2
      have hs : L.Pairwise fun x y => TS.code (rs.length : Int) x ≤ TS.code (rs.length : Int) y := by
        refine List.pairwise_iff_getElem.mpr fun i j hi hj hij => ?_
        have ly := f2.len
        rw [List.length_map] at ly
        have h1 := List.pairwise_iff_getElem.mp hpw i j (by omega) (by omega) hij
        have g : ∀ (i : Nat) (h : i < L.length) (h' : i < ys.length), TupI K H2 ys[i] L[i] := fun i h h' => by
          obtain ⟨d, ed, hd⟩ := f2.get (List.getElem?_eq_getElem h')
          rw [List.getElem?_map, List.getElem?_eq_getElem h] at ed
          cases ed
          exact Dq.sqI2 hd
        exact h1 _ _ (g i hi (by omega)) (g j hj (by omega))
      rw [nextL_eq hz hp2 hs] at f2
      have sb := My.Same.new (o := HO.lst ys) hb
      exact q b _ (s1.free (s2.free hb)) (s1.trans (s2.trans sb)) ⟨by simp, ys, upd_same, DqAll.same (sb.trans wo_nil) f2⟩
end
end K27

set_option Elab.async false
set_option linter.all false
set_option maxRecDepth 100000
set_option maxHeartbeats 4000000
namespace K27
open PySem PySem.Spec PyProof.Rows L2 My
abbrev s_law_dealings : Stmt := topS 37
theorem sc_law_dealings : FnScope ["n", "k", "roots", "found", "place", "parts", "later", "dealing", "i"] ["n", "k", "roots"] (defScope s_law_dealings) := ⟨rfl, rfl, rfl, by decide +kernel, rfl, by decide +kernel, by decide +kernel⟩
section
variable {P : Program} {w : World} {K : PySem.W.Frag} {mg : Str → Option Value} {base : Heap}
theorem ok_law_dealings {f : Addr} {fd : FuncData} {m : Nat} (F : Fun K "_law_dealings" "_law_dealings" s_law_dealings f fd) (B : Bn mg) : FnOk P w K mg base CX0 (m + 1) f fd ["n", "k", "roots"] (spDealsX K) := by
  refine F.ok sc_law_dealings (fun vs H Q E h => ?_) (fun cdv A outer s H vs Q E hr h => ?_)
  · obtain ⟨n, k, ra, rs, rfl, _⟩ := h
    rfl
  · obtain ⟨n, k, ra, rs, rfl, hP, lrs, k1, k5, n7, hfew, q⟩ := h
    refine ⟨_, (pss_cons (ps_set (i := 3) sc_law_dealings.nd rfl (.inl rfl) (pe_lst (pa_cons (pe_tup pa_nil) pa_nil)))
      (pss_cons (ps_for PassesOwn.never rfl (pi_range1 (by rfl) B.range (pa_cons (pv 0) pa_nil)) (pg_name (i := 4) sc_law_dealings.nd rfl (.inl rfl)) (pss_cons (ps_set (i := 5) sc_law_dealings.nd rfl (.inl rfl) (pe_ifExp (pt_cmpR (inQ K) (pv 4) (pv 2) (by rfl)) (pe_lst (pa_cons (pe_bmF PySem.F.plainAttrs_tuple PySem.F.slot_tuple_index PySem.F.type_tuple_index (indexT K) (pv 2) (pa_cons (pv 4) pa_nil)) pa_nil)) (pe_listRg (by rfl) (by rfl) B.list_ (prg_1 (by rfl) B.range (pv 1)))))
      (pss_cons (ps_set (i := 6) sc_law_dealings.nd rfl (.inl rfl) (pe_lst pa_nil))
      (pss_cons (ps_for PassesOwn.never rfl (pi_listK K (pv 3)) (pg_name (i := 7) sc_law_dealings.nd rfl (.inr rfl)) (pss_one (ps_set (i := 6) sc_law_dealings.nd rfl (.inl rfl) (pe_op op_cat (pv 6) (pe_lc (own := [("i", 8)]) (by rfl) sc_law_dealings.nd (pi_listK K (pv 5)) (blkOk_by (own := [("i", 8)]) (N := ["n", "k", "roots", "found", "place", "parts", "later", "dealing", "i"]) (sc := (defScope s_law_dealings)) (by decide +kernel)) (fun _ _ _ _ _ => (pg_name (i := 8) sc_law_dealings.nd rfl (.inl rfl))) (fun _ _ _ _ _ => pts_nil) (fun _ _ _ _ _ => (pe_op (catA K) (pv 7) (pe_tup (pa_cons (pv 8) pa_nil)))))))))
      (pss_one (ps_set (i := 3) sc_law_dealings.nd rfl (.inl rfl) (pv 6)))))))
      (pss_one (ps_ret (pv 3))))), ?_⟩
    -- found = [()]
    refine (show tSeq _ _ _ [some (.int (n : Int)), some (.int (k : Int)), some (.ref ra), none, none, none, none, none, none] _ from tSeq_e (tAsg_e ?_))
    refine (EvL.lst (K := K) (av := []) (ds := ([[]] : List (List Int)).map tI) avs_nil (EvA.cons (EvQ.tup avs_nil EvA.nil (by simp)) EvA.nil) (by simp)).to fun fa H1 s1 hF => ?_
    dsimp only [gName]
    refine (show tSeq _ _ _ [some (.int (n : Int)), some (.int (k : Int)), some (.ref ra), some (.ref fa), none, none, none, none, none] _ from tSeq_e ?_)
    refine ⟨_, rfl, _, rfl, by omega, by omega, ?_⟩
    rw [Int.toNat_natCast]
    refine for_range (fun i σ H3 => ∃ (x4 x5 x6 x7 x8 : Option V) (fa : Addr), σ = [some (.int (n : Int)), some (.int (k : Int)), some (.ref ra), some (.ref fa), x4, x5, x6, x7, x8] ∧ Same H H3 ∧ LAt K [] H3 fa ((dealsL k rs i).map tI)) ?_ ?_ ?_
    · exact ⟨none, none, none, none, none, fa, rfl, s1, hF⟩
    · rintro i σ H3 hi ⟨x4, x5, x6, x7, x8, fa, rfl, s3, hF⟩
      have hin : i < n := hi
      -- parts
      refine (show tSeq _ _ _ [some (.int (n : Int)), some (.int (k : Int)), some (.ref ra), some (.ref fa), some (.int (0 + (i : Int))), x5, x6, x7, x8] _ from tSeq_e (tAsg_e ?_))
      rw [show (0 : Int) + (i : Int) = (i : Int) from Int.zero_add _]
      refine withQ (fun v H4 => ∃ (pa : Addr), v = .ref pa ∧ Same H3 H4 ∧ LAt K [] H4 pa ((optsL k rs (i : Int)).map PyData.int)) ?_ (fun R Y => ?_)
      rotate_left
      · refine ⟨_, rfl, _, rfl, ra, _, rfl, .inr (My.Same.sqt s3 hP.sqt), rfl, flat_ints, _, rfl, ?_⟩
        show if inV (.int (i : Int)) (rs.map V.int) = true then _ else _
        rw [inV_ints]
        by_cases hm : (i : Int) ∈ rs
        · rw [decide_eq_true hm]
          obtain ⟨h1, h2⟩ := ixOf_at hm
          refine iteT ⟨_, rfl, ⟨ra, _, rfl, hP.same s3⟩, _, rfl, ra, rs, _, _, rfl, rfl, My.Same.sqt s3 hP.sqt, h1, h2, by show 1 ≤ sizeLine; decide, fun pa hpa => ?_⟩
          refine Y _ _ ⟨pa, rfl, My.Same.new hpa, by simp, _, upd_same, ?_⟩
          unfold optsL
          rw [if_pos hm]
          exact .cons (.int _) .nil
        · rw [decide_eq_false hm]
          refine iteF ⟨_, rfl, _, rfl, RgOk.of_le (Int.le_refl 0) (by omega) (by decide) (by omega), fun pa hpa => ?_⟩
          have hrg : rgV 0 (k : Int) = (ups k).map V.int := by
            unfold rgV ups
            rw [List.map_map, show ((k : Int) - 0).toNat = k by omega]
            refine List.map_congr_left fun i _ => ?_
            show V.int (0 + (i : Int)) = V.int (i : Int)
            rw [Int.zero_add]
          rw [hrg]
          refine Y _ _ ⟨pa, rfl, My.Same.new hpa, by simp, _, upd_same, ?_⟩
          unfold optsL
          rw [if_neg hm]
          exact DqAll.ints _
      rintro _ H4 ⟨pa, rfl, s4, hO⟩
      have hol : (optsL k rs (i : Int)).length ≤ 5 := by
        rw [optsL_len]
        split <;> omega
      have hfl := hfew (i + 1) (by omega)
      have hfi := hfew i (by omega)
      -- later = []
      dsimp only [gName]
      refine (show tSeq _ _ _ [some (.int (n : Int)), some (.int (k : Int)), some (.ref ra), some (.ref fa), some (.int (i : Int)), some (.ref pa), x6, x7, x8] _ from tSeq_e (tAsg_e ?_))
      refine (EvL.lst (K := K) (av := []) (ds := ([] : List (List Int)).map tI) avs_nil EvA.nil (by simp)).to fun la H5 s5 hL => ?_
      dsimp only [gName]
      refine (show tSeq _ _ _ [some (.int (n : Int)), some (.int (k : Int)), some (.ref ra), some (.ref fa), some (.int (i : Int)), some (.ref pa), some (.ref la), x7, x8] _ from tSeq_e ?_)
      have s35 := s4.trans s5
      have hF5 := hF.same0 s35
      have hO5 := hO.same0 s5
      obtain ⟨_, us, efa, hus⟩ := hF5
      have lus := hus.len
      rw [List.length_map] at lus
      refine ⟨_, rfl, fa, rfl, ⟨_, SqL.of efa⟩, ?_⟩
      refine for_list (xs := us) (fun j σ H6 => ∃ (x7 x8 : Option V) (la : Addr), σ = [some (.int (n : Int)), some (.int (k : Int)), some (.ref ra), some (.ref fa), some (.int (i : Int)), some (.ref pa), some (.ref la), x7, x8] ∧ Same H5 H6 ∧ LAt K [] H6 la ((((dealsL k rs i).take j).flatMap fun d => (optsL k rs (i : Int)).map fun z => d ++ [z]).map tI)) ?_ ?_ ?_ ?_
      · exact ⟨x7, x8, la, rfl, Same.refl _, hL⟩
      · rintro j σ H6 _ ⟨_, _, _, _, s6, _⟩
        exact SqL.of (s6 _ _ efa)
      · rintro j x σ H6 ex ⟨x7, x8, la, rfl, s6, hL⟩
        obtain ⟨d, ed, hd⟩ := hus.get ex
        obtain ⟨r, er, rfl⟩ := map_at ed
        have hd := Dq.same (wos_le.trans s6) hd
        have hjl : j < (dealsL k rs i).length := (List.getElem?_eq_some_iff.mp er).1
        obtain ⟨lr, br⟩ := dealsL_bd lrs (List.mem_of_getElem? er)
        have htl : (((dealsL k rs i).take j).flatMap fun d => (optsL k rs (i : Int)).map fun z => d ++ [z]).length + (optsL k rs (i : Int)).length ≤ 10000 := by
          have : ∀ L : List (List Int), (L.flatMap fun d => (optsL k rs (i : Int)).map fun z => d ++ [z]).length = L.length * (optsL k rs (i : Int)).length := fun L => by
            induction L with
            | nil => simp
            | cons d L ih => rw [List.flatMap_cons, List.length_append, ih, List.length_map, List.length_cons, Nat.succ_mul]; omega
          rw [this, List.length_take]
          have h1 : min j (dealsL k rs i).length * (optsL k rs (i : Int)).length ≤ 1000 * 5 := Nat.mul_le_mul (by omega) hol
          omega
        refine (show tAsg _ _ _ [some (.int (n : Int)), some (.int (k : Int)), some (.ref ra), some (.ref fa), some (.int (i : Int)), some (.ref pa), some (.ref la), some x, x8] _ from tAsg_e ?_)
        have h2 := EvN.lcL (K := K) (av := []) (H0 := H6) (σ := [some (.int (n : Int)), some (.int (k : Int)), some (.ref ra), some (.ref fa), some (.int (i : Int)), some (.ref pa), some (.ref la), some x, x8]) (t := tVar 5) (f := PyData.int) (l := optsL k rs (i : Int)) (p := fun _ => true) (F := fun z => tI (r ++ [z])) (vs := [8]) (g := gName 8) (tt := tYes) (te := tOp (rCatA K) (tVar 7) (tTup (tCons (tVar 8) tNil))) avs_nil ((hO5.same0 s6).ev rfl) (by omega) fun z hz H7 s7 => LcTurn.plain (fun _ => rfl) fun y av' H8 _ hav sw hy => by
          have h3 := EvQ.catT (K := K) (av := av') (H0 := H8) (σ := [some (.int (n : Int)), some (.int (k : Int)), some (.ref ra), some (.ref fa), some (.int (i : Int)), some (.ref pa), some (.ref la), some x, some y]) (t1 := tVar 7) (t2 := tTup (tCons (tVar 8) tNil)) hav (EvQ.var rfl (Dq.same (wo_nil.trans ((My.Same.wos s7).trans sw)) hd)) (EvQ.tup hav (EvA.cons (EvQ.var rfl hy) EvA.nil) (by simp)) (by rw [List.length_map, lr]; simp; omega)
          have : (r.map PyData.int ++ [PyData.int z]) = (r ++ [z]).map PyData.int := by
            rw [List.map_append]
            rfl
          rw [this] at h3
          exact h3
        rw [filter_true] at h2
        have h1 := EvL.cat avs_nil (hL.ev (σ := [some (.int (n : Int)), some (.int (k : Int)), some (.ref ra), some (.ref fa), some (.int (i : Int)), some (.ref pa), some (.ref la), some x, x8]) (i := 6) rfl) h2.l (by rw [List.length_map, List.length_map]; exact htl)
        refine h1.to fun lb H7 s7 hL7 => ?_
        refine ⟨_, _, lb, rfl, s6.trans s7, ?_⟩
        rw [List.take_add_one, er, List.flatMap_append, List.map_append]
        have e2 : ((optsL k rs (i : Int)).map fun z => tI (r ++ [z])) = (((some r).toList.flatMap fun d => (optsL k rs (i : Int)).map fun z => d ++ [z]).map tI) := by
          rw [Option.toList_some, List.flatMap_cons, List.flatMap_nil, List.append_nil, List.map_map]
          rfl
        rw [e2] at hL7
        exact hL7
      · rintro σ H6 ⟨x7, x8, la, rfl, s6, hL⟩
        rw [lus, List.take_of_length_le (Nat.le_refl _)] at hL
        -- found = later
        dsimp only
        refine (show tAsg _ _ _ [some (.int (n : Int)), some (.int (k : Int)), some (.ref ra), some (.ref fa), some (.int (i : Int)), some (.ref pa), some (.ref la), x7, x8] _ from tAsg_e ?_)
        exact ⟨_, rfl, _, _, _, _, _, la, rfl, s3.trans (s35.trans s6), hL⟩
    · rintro σ H3 ⟨x4, x5, x6, x7, x8, fa, rfl, s3, hF⟩
      exact ⟨_, rfl, q fa H3 s3 hF⟩
end
end K27

set_option Elab.async false
set_option linter.all false
set_option maxRecDepth 100000
set_option maxHeartbeats 4000000
namespace K27
open PySem PySem.Spec PyProof.Rows L2 My
abbrev s_law_one_of : Stmt := topS 23
theorem sc_law_one_of : FnScope ["pen", "some"] ["pen", "some"] (defScope s_law_one_of) := ⟨rfl, rfl, rfl, by decide +kernel, rfl, by decide +kernel, by decide +kernel⟩
section
variable {P : Program} {w : World} {K : PySem.W.Frag} {mg : Str → Option Value} {base : Heap}
theorem ok_one_of {f : Addr} {fd : FuncData} {m : Nat} (F : Fun K "_law_one_of" "_law_one_of" s_law_one_of f fd) (B : Bn mg) (D_law_take : Own P w K mg base "_law_take" m ["pen", "amount"] spTake) : FnOk P w K mg base CX0 (m + 1) f fd ["pen", "some"] (spOneOf K) := by
  refine F.ok sc_law_one_of (fun vs H Q E h => ?_) (fun cdv A outer s H vs Q E hr h => ?_)
  · obtain ⟨p, c, n, l, xs, rfl, _⟩ := h
    rfl
  · obtain ⟨p, c, n, l, xs, rfl, pen, hn, hl, h1, h2, q⟩ := h
    refine ⟨_, (pss_one (ps_ret (pe_ix (ixL K) (pv 1) (pe_own D_law_take hr (by rfl) (pa_cons (pv 0) (pa_cons (pe_callB (lenQ K) (by rfl) B.len (by decide +kernel) (pa_cons (pv 1) pa_nil)) pa_nil))) (fun _ _ => rfl)))), ?_⟩
    refine ⟨_, rfl, _, rfl, _, rfl, l, xs, rfl, .inl (wo_le.seq hl), p, c, _, n, rfl, pen, hn, by omega, by omega, fun r H' r0 r1 pen' sm => ?_⟩
    obtain ⟨x, e, hx⟩ := at_get (xs := xs) r0 r1
    exact ⟨l, xs, r, x, rfl, rfl, wo_le.seq (sm.seq hl), hx, q _ x H' e pen' sm⟩
end
end K27

set_option Elab.async false
set_option linter.all false
set_option maxRecDepth 100000
set_option maxHeartbeats 4000000
namespace K27
open PySem PySem.Spec PyProof.Rows L2 My
abbrev s_law_draw_order : Stmt := topS 27
theorem sc_law_draw_order : FnScope ["pen", "n", "left", "found", "turn"] ["pen", "n"] (defScope s_law_draw_order) := ⟨rfl, rfl, rfl, by decide +kernel, rfl, by decide +kernel, by decide +kernel⟩
section
variable {P : Program} {w : World} {K : PySem.W.Frag} {mg : Str → Option Value} {base : Heap}
theorem ok_draw_order {f : Addr} {fd : FuncData} {m : Nat} (F : Fun K "_law_draw_order" "_law_draw_order" s_law_draw_order f fd) (B : Bn mg) (D_law_take : Own P w K mg base "_law_take" m ["pen", "amount"] spTake) : FnOk P w K mg base CX0 (m + 1) f fd ["pen", "n"] spOrderF := by
  refine F.ok sc_law_draw_order (fun vs H Q E h => ?_) (fun cdv A outer s H vs Q E hr h => ?_)
  · obtain ⟨p, c, n, k, rfl, _⟩ := h
    rfl
  · obtain ⟨p, c, n, k, rfl, pen, hn, hk, q⟩ := h
    refine ⟨_, (pss_cons (ps_par (i := 2) (j := 3) (by rfl) sc_law_draw_order.nd rfl rfl (by decide) rfl rfl (pa_cons (pe_listRg (by rfl) (by rfl) B.list_ (prg_1 (by rfl) B.range (pv 1))) (pa_cons (pe_lst pa_nil) pa_nil)) (by rfl))
      (pss_cons (ps_for PassesOwn.never rfl (pi_range1 (by rfl) B.range (pa_cons (pv 1) pa_nil)) (pg_name (i := 4) sc_law_draw_order.nd rfl (.inl rfl)) (pss_one (ps_expr (pe_bmK K PySem.F.plainAttrs_list PySem.F.slot_list_append PySem.F.type_list_append mt_append (pv 3) (pa_cons (pe_bmK K PySem.F.plainAttrs_list PySem.F.slot_list_pop PySem.F.type_list_pop mt_popAt (pv 2) (pa_cons (pe_own D_law_take hr (by rfl) (pa_cons (pv 0) (pa_cons (pe_callB (lenQ K) (by rfl) B.len (by decide +kernel) (pa_cons (pv 2) pa_nil)) pa_nil))) pa_nil)) pa_nil)))))
      (pss_one (ps_ret (pe_callTy (tupleOfF K) (by rfl) B.tuple_ (by decide +kernel) (pa_cons (pv 3) pa_nil)))))), ?_⟩
    -- left, found = list(range(n)), []
    refine ⟨_, rfl, k, rfl, RgOk.of_le (Int.le_refl 0) (by omega) (by decide) (by omega), fun la hla => ?_⟩
    refine ⟨by show 0 ≤ sizeLine; decide, fun fa hfa => ⟨_, _, rfl, ?_⟩⟩
    have hrg : rgV 0 (k : Int) = (ups k).map V.int := by
      unfold rgV ups
      rw [List.map_map, show ((k : Int) - 0).toNat = k by omega]
      refine List.map_congr_left fun i _ => ?_
      show V.int (0 + (i : Int)) = V.int (i : Int)
      rw [Int.zero_add]
    rw [hrg] at hfa ⊢
    have s1 := (My.Same.new (o := HO.lst ((ups k).map V.int)) hla).trans (My.Same.new (o := HO.lst []) hfa)
    have hfla : fa ≠ la := fun z => by
      rw [z, upd_same] at hfa
      cases hfa
    have pen1 := Pen.same s1 pen
    have ela : upd (upd H la (.lst ((ups k).map V.int))) fa (.lst []) la = some (.lst ((ups k).map V.int)) := (upd_ne hfla.symm).trans upd_same
    have efa : upd (upd H la (.lst ((ups k).map V.int))) fa (.lst []) fa = some (.lst []) := upd_same
    have nla := Pen.ne pen hla
    have nfa := Pen.ne (Pen.same (My.Same.new (o := HO.lst ((ups k).map V.int)) hla) pen) hfa
    have hfa0 := (My.Same.new (o := HO.lst ((ups k).map V.int)) hla).free hfa
    generalize upd (upd H la (.lst ((ups k).map V.int))) fa (.lst []) = H1 at s1 pen1 ela efa ⊢
    -- for turn in range(n)
    refine ⟨_, rfl, _, rfl, by omega, by omega, ?_⟩
    refine for_range (fun i σ H2 => ∃ (x4 : Option V) (ls fs : List Int), σ = [some (.ref p), some (.int k), some (.ref la), some (.ref fa), x4] ∧ Pen H2 p c (n + i) ∧ Same (wo p H) (wo p H2) ∧ H2 la = some (.lst (ls.map V.int)) ∧ H2 fa = some (.lst (fs.map V.int)) ∧ ls.length + i = k ∧ (fs ++ ls).Perm (ups k)) ?_ ?_ ?_
    · exact ⟨none, ups k, [], rfl, pen1, My.Same.wo s1, ela, efa, by rw [ups_len]; rfl, .refl _⟩
    · rintro i σ H2 hi ⟨x4, ls, fs, rfl, pen2, s2, el, ef, hlen, hperm⟩
      have hik : i < k := by omega
      have el' : wo p H2 la = some (.lst (ls.map V.int)) := (wo_ne nla.1).trans el
      have ef' : wo p H2 fa = some (.lst (fs.map V.int)) := (wo_ne nfa.1).trans ef
      -- found.append(left.pop(_law_take(pen, len(left))))
      refine ⟨_, rfl, .inl ⟨rfl, _, SqL.of ef⟩, ?_⟩
      refine ⟨_, rfl, .inl ⟨rfl, _, SqL.of el⟩, ?_⟩
      refine ⟨_, rfl, _, rfl, la, _, rfl, .inl (SqL.of el), p, c, _, n + i, rfl, pen2, by omega, by rw [List.length_map]; omega, by rw [List.length_map]; omega, fun r H3 r0 r1 pen3 s3 => ?_⟩
      rw [List.length_map] at r1
      have el3 : H3 la = some (.lst (ls.map V.int)) := (wo_some (s3 _ _ el')).2
      have ef3 : H3 fa = some (.lst (fs.map V.int)) := (wo_some (s3 _ _ ef')).2
      obtain ⟨z, hz⟩ : ∃ z, ls[r.toNat]? = some z := ⟨_, List.getElem?_eq_getElem (by omega)⟩
      refine ⟨la, _, r, r.toNat, .int z, rfl, rfl, el3, by omega, by omega, ?_, by rw [List.getElem?_map, hz]; rfl, ?_⟩
      · rw [List.length_map]
        have h1 := (ixN_seq (n := ls.length) (i := r) (j := r.toNat) (by unfold ixN; rw [if_pos r0, if_pos r1])).1
        exact h1
      have hge : ∀ i, (ls.map V.int).eraseIdx i = (ls.eraseIdx i).map V.int := fun i => map_erase _ _ _
      rw [hge]
      have ef4 : upd H3 la (.lst ((ls.eraseIdx r.toNat).map V.int)) fa = some (.lst (fs.map V.int)) := (upd_ne hfla).trans ef3
      refine ⟨fa, _, _, rfl, rfl, ef4, ?_, ?_⟩
      · rw [List.length_map]
        have := hperm.length_eq
        rw [List.length_append, ups_len] at this
        exact smallT (by omega)
      · refine ⟨_, ls.eraseIdx r.toNat, fs ++ [z], rfl, ?_, ?_, ?_, ?_, ?_, ?_⟩
        · exact Pen.upd (Pen.upd pen3 nla) nfa
        · rw [wo_upd nfa.1, wo_upd nla.1]
          exact My.Same.updD (My.Same.updD (s2.trans s3) (wo_none hla)) (wo_none hfa0)
        · exact (upd_ne hfla.symm).trans upd_same
        · rw [upd_same, List.map_append]
          rfl
        · rw [List.length_eraseIdx_of_lt (by omega)]
          omega
        · rw [List.append_assoc]
          exact (List.Perm.append_left fs (erase_perm hz)).trans hperm
    · rintro σ H2 ⟨x4, ls, fs, rfl, pen2, s2, el, ef, hlen, hperm⟩
      have hls : ls = [] := List.length_eq_zero_iff.mp (by omega)
      subst hls
      rw [List.append_nil] at hperm
      refine ⟨_, rfl, fa, _, rfl, SqL.of ef, fun l ob hl oc od => ?_⟩
      have nl := Pen.ne pen2 hl
      exact q l fs _ hperm (Pen.upd (by rw [Int.toNat_natCast] at pen2; exact pen2) nl) (s2.trans (My.Same.wo (Same.new hl))) (s2.free (wo_none hl)) ⟨ob, upd_same, oc, od⟩
end
end K27

set_option Elab.async false
set_option linter.all false
set_option maxRecDepth 100000
set_option maxHeartbeats 4000000
namespace K27
open PySem PySem.Spec PyProof.Rows L2 My
abbrev s_law_web : Stmt := topS 28
theorem sc_law_web : FnScope ["n", "pairs", "a", "b"] ["n", "pairs"] (defScope s_law_web) := ⟨rfl, rfl, rfl, by decide +kernel, rfl, by decide +kernel, by decide +kernel⟩
section
variable {P : Program} {w : World} {K : PySem.W.Frag} {mg : Str → Option Value} {base : Heap}
theorem ok_web {f : Addr} {fd : FuncData} {m : Nat} (F : Fun K "_law_web" "_law_web" s_law_web f fd) (B : Bn mg) : FnOk P w K mg base CX0 (m + 1) f fd ["n", "pairs"] (spWeb K) := by
  refine F.ok sc_law_web (fun vs H Q E h => ?_) (fun cdv A outer s H vs Q E hr h => ?_)
  · obtain ⟨n, l, us, ps, rfl, _⟩ := h
    rfl
  · obtain ⟨n, l, us, ps, rfl, hl, hus, h64, hb, q⟩ := h
    refine ⟨_, (pss_one (ps_ret (pe_tup (pa_cons (pv 0) (pa_cons (pe_callTy (tupleOf K) (by rfl) B.tuple_ (by decide +kernel) (pa_cons (pe_callB (sortedT K P w rfl) (by rfl) B.sorted (by decide +kernel) (pa_cons (pe_callTy (setOfT K P w rfl hr.units) (by rfl) B.set (by decide +kernel) (pa_cons (pe_lc (own := [("a", 2), ("b", 3)]) (by rfl) sc_law_web.nd (pi_seqK K (pv 1)) (blkOk_by (own := [("a", 2), ("b", 3)]) (N := ["n", "pairs", "a", "b"]) (sc := (defScope s_law_web)) (by decide +kernel)) (fun _ _ _ _ _ => (pg_tupK K 2 (by rfl) (pgs_cons (pg_name (i := 2) sc_law_web.nd rfl (.inl rfl)) (pgs_cons (pg_name (i := 3) sc_law_web.nd rfl (.inl rfl)) pgs_nil)))) (fun _ _ _ _ _ => (pts_one (pt_cmpR op_ne (pv 2) (pv 3) (nomark _)))) (fun _ _ _ _ _ => (pe_tup (pa_cons (pe_callB (call_min2 rfl) (by rfl) B.min (by decide +kernel) (pa_cons (pv 2) (pa_cons (pv 3) pa_nil))) (pa_cons (pe_callB (call_max2 rfl) (by rfl) B.max (by decide +kernel) (pa_cons (pv 2) (pa_cons (pv 3) pa_nil))) pa_nil))))) pa_nil)) pa_nil)) pa_nil)) pa_nil))))), ?_⟩
    refine ⟨_, rfl, ?_⟩
    have lus : us.length = ps.length := by rw [My.DpAll.len hus, List.length_map, List.length_map]
    -- [(min(a, b), max(a, b)) for a, b in pairs if a != b]
    let ft : List (Int × Int) → List (List Int) := fun l => ((l.filter fun s => !decide (s.1 = s.2)).map lowP).map prI
    refine in_seq (l := l) (us := us) (fun R h => ⟨_, rfl, h⟩) hl (fun D i H3 => Same H H3 ∧ ∃ ws, H3 D = some (.lst ws) ∧ DpAll K (wo D H3) ws ((ft (ps.take i)).map tI)) (fun D i H' _ h => h.1) (fun D hD => ⟨My.Same.new hD, [], upd_same, .nil⟩) ?_ ?_
    · rintro D i x H3 hD ex ⟨s3, ws, eD, hws⟩
      obtain ⟨ab, t, es, rfl, qt⟩ := tI_get (DpAll.same s3 hus) ex
      rw [List.getElem?_map] at es
      obtain ⟨s, e1, rfl⟩ : ∃ s, ps[i]? = some s ∧ ab = prI s := by
        cases e : ps[i]? with
        | none => rw [e] at es; cases es
        | some s => rw [e] at es; exact ⟨s, rfl, (Option.some.inj es).symm⟩
      have hnext : ft (ps.take (i + 1)) = ft (ps.take i) ++ if s.1 = s.2 then [] else [prI (lowP s)] := by
        show List.map prI (List.map lowP (List.filter _ (ps.take (i + 1)))) = _
        rw [List.take_add_one, e1, List.filter_append, List.map_append, List.map_append]
        congr 1
        show List.map prI (List.map lowP (List.filter _ [s])) = _
        rw [List.filter_cons]
        by_cases e : s.1 = s.2
        · rw [decide_eq_true e, if_pos e]
          rfl
        · rw [decide_eq_false e, if_neg e]
          rfl
      refine ⟨t, _, rfl, qt, rfl, _, _, rfl, _, _, rfl, rfl, rfl, ?_⟩
      refine ⟨_, rfl, _, rfl, rfl, _, rfl, ite2 (fun e => ?_) (fun e => ?_)⟩
      · have hne : ¬ s.1 = s.2 := fun z => by
          rw [z, decide_eq_true rfl] at e
          cases e
        refine ⟨_, rfl, _, rfl, s.1, s.2, rfl, _, rfl, _, rfl, s.1, s.2, rfl, by show 2 ≤ sizeLine; decide, fun t2 ht2 => ?_⟩
        have ht2D : t2 ≠ D := (ne_of_none eD ht2).symm
        have sT := My.Same.new (o := HO.tup [V.int (if s.2 < s.1 then s.2 else s.1), V.int (if s.2 > s.1 then s.2 else s.1)]) ht2
        obtain ⟨g1, g2⟩ := push (DpAll.same (My.Same.wo sT) hws) (Dp.ofTI (K := K) (a := t2) (ns := prI (lowP s)) (SqT.of ((wo_ne ht2D).trans upd_same)))
        refine ⟨ws, sT _ _ eD, ?_, My.Same.updD (s3.trans sT) hD, _, g1, ?_⟩
        · rw [My.DpAll.len hws, List.length_map, List.length_map, List.length_map]
          have h1 := List.length_filter_le (fun s : Int × Int => !decide (s.1 = s.2)) (ps.take i)
          have h2 : (ps.take i).length ≤ ps.length := by
            rw [List.length_take]
            exact Nat.min_le_right _ _
          exact smallT (by omega)
        · rw [hnext, if_neg hne, List.map_append]
          exact g2
      · have heq : s.1 = s.2 := by
          by_cases z : s.1 = s.2
          · exact z
          · rw [show decide (V.int s.1 = V.int s.2) = false from decide_eq_false (fun y => z (V.int.inj y))] at e
            exact absurd rfl e
        refine ⟨s3, ws, eD, ?_⟩
        rw [hnext, if_pos heq, List.append_nil]
        exact hws
    · rintro D H3 hD ⟨s3, ws, eD, hws⟩
      rw [lus, List.take_length] at hws
      obtain ⟨ks, rfl, hks, hkt⟩ := ks_of (DpAll.same wo_le hws)
      have lks : ks.length < 64 := by
        have h1 := congrArg List.length hks
        rw [List.length_map, List.length_map, List.length_map] at h1
        have h2 := List.length_filter_le (fun s : Int × Int => !decide (s.1 = s.2)) ps
        omega
      -- set(..)
      refine ⟨D, ks, rfl, SqL.of eD, hkt, lks, fun sa L hsa h1 h2 => ?_⟩
      have sS := My.Same.new (o := SetTO P w sa L) hsa
      have hb2 : ∀ p ∈ ks, p.2.length = 2 ∧ TS.Bd 64 p.2 := fun p hp => by
        have hm : p.2 ∈ ks.map (·.2) := List.mem_map.mpr ⟨p, hp, rfl⟩
        rw [hks] at hm
        obtain ⟨t, ht, e⟩ := List.mem_map.mp hm
        obtain ⟨s, hs, rfl⟩ := List.mem_map.mp ht
        have b := hb s (List.mem_filter.mp hs).1
        rw [← e]
        refine ⟨rfl, fun z hz => ?_⟩
        have hz2 : z = (lowP s).1 ∨ z = (lowP s).2 := by
          simpa [prI] using hz
        unfold lowP at hz2
        dsimp only at hz2
        rcases hz2 with e | e <;> subst e <;> split <;> omega
      -- sorted(..)
      refine ⟨sa, L, 2, 64, rfl, upd_same, fun p hp => My.Same.sqt sS (hkt p (h1 p hp)), by decide, fun p hp => hb2 p (h1 p hp), fun L' ra pm nd l64 pw hra => ?_⟩
      obtain ⟨T, hT, hcan⟩ := canon_of hks hb h1 h2 pm nd pw
      -- tuple(..)
      refine ⟨ra, _, rfl, .inl ⟨SqL.of upd_same, fun ta hta => ?_⟩⟩
      refine ⟨by show 2 ≤ sizeLine; decide, fun wa hwa => ?_⟩
      have sA := sS.trans ((My.Same.new (o := HO.lst (L'.map fun q => V.ref q.1)) hra).trans (My.Same.new (o := HO.tup (L'.map fun q => V.ref q.1)) hta))
      have dT : DpAll K (upd (upd (upd H3 sa (SetTO P w sa L)) ra (.lst (L'.map fun q => V.ref q.1))) ta (.tup (L'.map fun q => V.ref q.1))) (L'.map fun q => V.ref q.1) ((T.map prI).map tI) := by
        rw [← hT]
        exact ks_to fun p hp => My.Same.sqt sA (hkt p (h1 p (pm.mem_iff.mp hp)))
      refine q wa T _ hcan (s3.trans (sA.trans (Same.new hwa))) ((s3.trans sA).free hwa) ?_
      refine tup_new hwa (.cons (.int n) (.cons (.tup (SqT.of upd_same) ?_) .nil))
      rw [List.map_map] at dT
      exact dT
end
end K27

set_option Elab.async false
namespace K27
end K27

set_option Elab.async false
set_option linter.all false
set_option maxRecDepth 100000
set_option maxHeartbeats 4000000
namespace K27
open PySem PySem.Spec PyProof.Rows L2 My
abbrev s_law_draw_roots : Stmt := topS 34
theorem sc_law_draw_roots : FnScope ["pen", "n", "k"] ["pen", "n", "k"] (defScope s_law_draw_roots) := ⟨rfl, rfl, rfl, by decide +kernel, rfl, by decide +kernel, by decide +kernel⟩
section
variable {P : Program} {w : World} {K : PySem.W.Frag} {mg : Str → Option Value} {base : Heap}
theorem ok_draw_roots {f : Addr} {fd : FuncData} {m : Nat} (F : Fun K "_law_draw_roots" "_law_draw_roots" s_law_draw_roots f fd) (B : Bn mg) (D_law_draw_order : Own P w K mg base "_law_draw_order" m ["pen", "n"] spOrderF) : FnOk P w K mg base CX0 (m + 1) f fd ["pen", "n", "k"] spDrawRootsF := by
  refine F.ok sc_law_draw_roots (fun vs H Q E h => ?_) (fun cdv A outer s H vs Q E hr h => ?_)
  · obtain ⟨p, c, n0, n, k, rfl, _⟩ := h
    rfl
  · obtain ⟨p, c, n0, n, k, rfl, pen, hn0, hn, hk, q⟩ := h
    refine ⟨_, (pss_one (ps_ret (pe_slice slF (pe_own D_law_draw_order hr (by rfl) (pa_cons (pv 0) (pa_cons (pv 1) pa_nil))) po_none (po_some (pv 2))))), ?_⟩
    refine ⟨_, rfl, _, rfl, p, c, n0, n, rfl, pen, by omega, by omega, fun o r H1 hperm pen1 s1 no qo => ?_⟩
    unfold tNoPart
    refine ⟨_, rfl, (k : Int), rfl, ?_⟩
    refine ⟨o, _, rfl, qo, fun b H2 s2 hb => ?_⟩
    rw [cut_take, ← List.map_take] at hb
    refine q b (r.take k) H2 ?_ (fun x hx => ?_) ?_ (Pen.same s2 pen1) (s1.trans (My.Same.wo s2)) hb
    · exact List.Sublist.nodup (List.take_sublist _ _) (hperm.nodup_iff.mpr (ups_nodup n))
    · exact mem_ups.mp (hperm.mem_iff.mp (List.mem_of_mem_take hx))
    · rw [List.length_take, hperm.length_eq, ups_len]
      omega
end
end K27

set_option Elab.async false
set_option linter.all false
set_option maxRecDepth 100000
set_option maxHeartbeats 4000000
namespace K27
open PySem PySem.Spec PyProof.Rows L2 My
abbrev s_law_draw_web : Stmt := topS 29
theorem sc_law_draw_web : FnScope ["pen", "low", "high", "n", "way", "order", "pairs", "half", "rings", "ring", "k", "more", "other"] ["pen", "low", "high"] (defScope s_law_draw_web) := ⟨rfl, rfl, rfl, by decide +kernel, rfl, by decide +kernel, by decide +kernel⟩
section
variable {P : Program} {w : World} {K : PySem.W.Frag} {mg : Str → Option Value} {base : Heap}
theorem ok_draw_web {f : Addr} {fd : FuncData} {m : Nat} (F : Fun K "_law_draw_web" "_law_draw_web" s_law_draw_web f fd) (B : Bn mg) (D_law_take : Own P w K mg base "_law_take" m ["pen", "amount"] spTake)
    (D_law_draw_order : Own P w K mg base "_law_draw_order" m ["pen", "n"] (spOrder K)) (D_law_web : Own P w K mg base "_law_web" m ["n", "pairs"] (spWeb K)) : FnOk P w K mg base CX0 (m + 1) f fd ["pen", "low", "high"] (spDrawWeb K) := by
  refine F.ok sc_law_draw_web (fun vs H Q E h => ?_) (fun cdv A outer s H vs Q E hr h => ?_)
  · obtain ⟨p, c, n, lo, hi, rfl, _⟩ := h
    rfl
  · obtain ⟨p, c, n0, lo, hi, rfl, pen, hn, lo1, lohi, hi12, q⟩ := h
    refine ⟨_, (pss_cons (ps_asg (pe_tup (pa_cons (pe_op op_add (pv 1) (pe_own D_law_take hr (by rfl) (pa_cons (pv 0) (pa_cons (pe_op op_add (pe_op op_sub (pv 2) (pv 1)) pe_int) pa_nil)))) (pa_cons (pe_own D_law_take hr (by rfl) (pa_cons (pv 0) (pa_cons pe_int pa_nil))) pa_nil))) (pg_tupK K 2 (by rfl) (pgs_cons (pg_name (i := 3) sc_law_draw_web.nd rfl (.inr rfl)) (pgs_cons (pg_name (i := 4) sc_law_draw_web.nd rfl (.inl rfl)) pgs_nil))))
      (pss_cons (ps_asg (pe_tup (pa_cons (pe_own D_law_draw_order hr (by rfl) (pa_cons (pv 0) (pa_cons (pv 3) pa_nil))) (pa_cons (pe_lst pa_nil) pa_nil))) (pg_tupK K 2 (by rfl) (pgs_cons (pg_name (i := 5) sc_law_draw_web.nd rfl (.inr rfl)) (pgs_cons (pg_name (i := 6) sc_law_draw_web.nd rfl (.inl rfl)) pgs_nil))))
      (pss_cons (ps_if (pt_cmpR op_eq (pv 4) pe_int (nomark _)) (pss_cons (ps_setLc (i := 6) (own := [("k", 10)]) rfl sc_law_draw_web.nd rfl rfl (sw_true rfl rfl rfl (by decide +kernel)) (pi_range1 (by rfl) B.range (pa_cons (pe_own D_law_take hr (by rfl) (pa_cons (pv 0) (pa_cons (pe_op op_add (pv 3) pe_int) pa_nil))) pa_nil)) (blkOk_by (own := [("k", 10)]) (N := ["pen", "low", "high", "n", "way", "order", "pairs", "half", "rings", "ring", "k", "more", "other"]) (sc := (defScope s_law_draw_web)) (by decide +kernel)) (fun _ _ _ _ _ => (pg_name (i := 10) sc_law_draw_web.nd rfl (.inl rfl))) (fun _ _ _ _ _ => pts_nil) (fun _ _ _ _ _ => (pe_tup (pa_cons (pe_own D_law_take hr (by rfl) (pa_cons (pv 0) (pa_cons (pv 3) pa_nil))) (pa_cons (pe_own D_law_take hr (by rfl) (pa_cons (pv 0) (pa_cons (pv 3) pa_nil))) pa_nil)))))
      (pss_one (ps_ret (pe_own D_law_web hr (by rfl) (pa_cons (pv 3) (pa_cons (pv 6) pa_nil)))))) pss_nil)
      (pss_cons (ps_if (pt_cmpR (inQ K) (pv 4) (pe_lst (pa_cons pe_int (pa_cons pe_int pa_nil))) (by rfl)) (pss_cons (ps_set (i := 6) sc_law_draw_web.nd rfl (.inl rfl) (pe_op op_cat (pe_lc (own := [("k", 10)]) (by rfl) sc_law_draw_web.nd (pi_range2 (by rfl) B.range (pa_cons (pe_op op_sub pe_int (pv 4)) (pa_cons (pv 3) pa_nil))) (blkOk_by (own := [("k", 10)]) (N := ["pen", "low", "high", "n", "way", "order", "pairs", "half", "rings", "ring", "k", "more", "other"]) (sc := (defScope s_law_draw_web)) (by decide +kernel)) (fun _ _ _ _ _ => (pg_name (i := 10) sc_law_draw_web.nd rfl (.inl rfl))) (fun _ _ _ _ _ => pts_nil) (fun _ _ _ _ _ => (pe_tup (pa_cons (pe_ix (ixT K) (pv 5) (pe_op op_sub (pv 10) pe_int) (fun _ _ => rfl)) (pa_cons (pe_ix (ixT K) (pv 5) (pv 10) (fun _ _ => rfl)) pa_nil))))) (pe_lst (pa_cons (pe_tup (pa_cons (pe_ix (ixT K) (pv 5) pe_int (fun _ _ => rfl)) (pa_cons (pe_ix (ixT K) (pv 5) (pe_op op_mul pe_int (pe_callTy call_int1 (by rfl) B.int_ (by decide +kernel) (pa_cons (pe_cmpR op_gt (pv 3) pe_int (nomark _)) pa_nil))) (fun _ _ => rfl)) pa_nil))) pa_nil))))
      (pss_one (ps_ret (pe_own D_law_web hr (by rfl) (pa_cons (pv 3) (pa_cons (pe_op op_cat (pv 6) (pe_op op_rep (pe_lst (pa_cons (pe_tup (pa_cons (pe_ix (ixT K) (pv 5) pe_int (fun _ _ => rfl)) (pa_cons (pe_ix (ixT K) (pv 5) (pe_op op_sub (pv 3) pe_int) (fun _ _ => rfl)) pa_nil))) pa_nil)) (pe_op op_sub (pv 4) pe_int))) pa_nil)))))) pss_nil)
      (pss_cons (ps_if (pt_cmpR op_eq (pv 4) pe_int (nomark _)) (pss_one (ps_ret (pe_own D_law_web hr (by rfl) (pa_cons (pv 3) (pa_cons (pe_lc (own := [("other", 12)]) (by rfl) sc_law_draw_web.nd (pi_tupK K (pv 5)) (blkOk_by (own := [("other", 12)]) (N := ["pen", "low", "high", "n", "way", "order", "pairs", "half", "rings", "ring", "k", "more", "other"]) (sc := (defScope s_law_draw_web)) (by decide +kernel)) (fun _ _ _ _ _ => (pg_name (i := 12) sc_law_draw_web.nd rfl (.inl rfl))) (fun _ _ _ _ _ => pts_nil) (fun _ _ _ _ _ => (pe_tup (pa_cons (pe_ix (ixT K) (pv 5) pe_int (fun _ _ => rfl)) (pa_cons (pv 12) pa_nil))))) pa_nil))))) pss_nil)
      (C8.pss_cut (ps_if ((pw_and (pt_cmpR op_eq (pv 4) pe_int (nomark _)) (pw_and1 (pt_cmpR op_gt (pv 3) pe_int (nomark _))))).pt (pss_cons (ps_set (i := 7) sc_law_draw_web.nd rfl (.inl rfl) (pe_op op_add pe_int (pe_own D_law_take hr (by rfl) (pa_cons (pv 0) (pa_cons (pe_op op_sub (pv 3) pe_int) pa_nil)))))
      (pss_cons (ps_set (i := 8) sc_law_draw_web.nd rfl (.inl rfl) (pe_lst (pa_cons (pe_slice (slT K) (pv 5) po_none (po_some (pe_op op_add (pv 7) pe_int))) (pa_cons (pe_slice (slT K) (pv 5) (po_some (pv 7)) po_none) pa_nil))))
      (pss_cons (ps_for PassesOwn.never rfl (pi_listK K (pv 8)) (pg_name (i := 9) sc_law_draw_web.nd rfl (.inr rfl)) (pss_one (ps_set (i := 6) sc_law_draw_web.nd rfl (.inl rfl) (pe_op op_cat (pv 6) (pe_lc (own := [("k", 10)]) (by rfl) sc_law_draw_web.nd (pi_range1 (by rfl) B.range (pa_cons (pe_callB (lenQ K) (by rfl) B.len (by decide +kernel) (pa_cons (pv 9) pa_nil)) pa_nil)) (blkOk_by (own := [("k", 10)]) (N := ["pen", "low", "high", "n", "way", "order", "pairs", "half", "rings", "ring", "k", "more", "other"]) (sc := (defScope s_law_draw_web)) (by decide +kernel)) (fun _ _ _ _ _ => (pg_name (i := 10) sc_law_draw_web.nd rfl (.inl rfl))) (fun _ _ _ _ _ => pts_nil) (fun _ _ _ _ _ => (pe_tup (pa_cons (pe_ix (ixT K) (pv 9) (pe_op op_sub (pv 10) pe_int) (fun _ _ => rfl)) (pa_cons (pe_ix (ixT K) (pv 9) (pv 10) (fun _ _ => rfl)) pa_nil)))))))))
      (pss_one (ps_ret (pe_own D_law_web hr (by rfl) (pa_cons (pv 3) (pa_cons (pv 6) pa_nil)))))))) pss_nil)
      (pss_cons (ps_for PassesOwn.never rfl (pi_range2 (by rfl) B.range (pa_cons pe_int (pa_cons (pv 3) pa_nil))) (pg_name (i := 10) sc_law_draw_web.nd rfl (.inl rfl)) (pss_one (ps_expr (pe_bmK K PySem.F.plainAttrs_list PySem.F.slot_list_append PySem.F.type_list_append mt_append (pv 6) (pa_cons (pe_tup (pa_cons (pe_ix (ixT K) (pv 5) (pe_own D_law_take hr (by rfl) (pa_cons (pv 0) (pa_cons (pv 10) pa_nil))) (fun _ _ => rfl)) (pa_cons (pe_ix (ixT K) (pv 5) (pv 10) (fun _ _ => rfl)) pa_nil))) pa_nil)))))
      (pss_cons (ps_set (i := 11) sc_law_draw_web.nd rfl (.inl rfl) (pe_ix (ixL K) (pe_lst (pa_cons pe_int (pa_cons pe_int (pa_cons pe_int (pa_cons pe_int (pa_cons pe_int (pa_cons pe_int (pa_cons pe_int (pa_cons (pv 3) (pa_cons (pe_op op_mul pe_int (pv 3)) pa_nil)))))))))) (pv 4) (fun _ _ => rfl)))
      (pss_one (ps_ret (pe_own D_law_web hr (by rfl) (pa_cons (pv 3) (pa_cons (pe_op op_cat (pv 6) (pe_lc (own := [("k", 10)]) (by rfl) sc_law_draw_web.nd (pi_range1 (by rfl) B.range (pa_cons (pv 11) pa_nil)) (blkOk_by (own := [("k", 10)]) (N := ["pen", "low", "high", "n", "way", "order", "pairs", "half", "rings", "ring", "k", "more", "other"]) (sc := (defScope s_law_draw_web)) (by decide +kernel)) (fun _ _ _ _ _ => (pg_name (i := 10) sc_law_draw_web.nd rfl (.inl rfl))) (fun _ _ _ _ _ => pts_nil) (fun _ _ _ _ _ => (pe_tup (pa_cons (pe_own D_law_take hr (by rfl) (pa_cons (pv 0) (pa_cons (pv 3) pa_nil))) (pa_cons (pe_own D_law_take hr (by rfl) (pa_cons (pv 0) (pa_cons (pv 3) pa_nil))) pa_nil)))))) pa_nil))))))))))))), ?_⟩
    -- n, way
    refine ⟨_, rfl, _, rfl, _, rfl, _, rfl, (hi : Int), (lo : Int), rfl, rfl, _, 1, rfl, rfl, p, c, _, n0, rfl, pen, by omega, by omega, by omega, fun r1 H1 r10 r11 pen1 s1 => ⟨_, r1, rfl, rfl, ?_⟩⟩
    refine ⟨_, rfl, p, c, 9, n0 + 1, rfl, pen1, by omega, by decide, by decide, fun way H2 w0 w1 pen2 s2 => ?_⟩
    refine ⟨by show 2 ≤ sizeLine; decide, fun t1 ht1 => ?_⟩
    refine ⟨t1, _, rfl, SqT.of upd_same, rfl, _, _, rfl, _, _, rfl, rfl, ?_⟩
    obtain ⟨k, hk⟩ : ∃ k : Nat, (lo : Int) + r1 = k := ⟨((lo : Int) + r1).toNat, by omega⟩
    have nt1 := Pen.ne pen2 ht1
    have pen3 := Pen.upd (o := HO.tup [V.int ((lo : Int) + r1), V.int way]) pen2 nt1
    have s3 : Same (wo p H) (wo p (upd H2 t1 (.tup [V.int ((lo : Int) + r1), V.int way]))) := s1.trans (s2.trans (My.Same.wo (My.Same.new ht1)))
    generalize upd H2 t1 (.tup [V.int ((lo : Int) + r1), V.int way]) = H3 at pen3 s3 ⊢
    dsimp only
    rw [hk]
    have hklo : lo ≤ k := by omega
    have hkhi : k ≤ hi := by omega
    clear hk r10 r11 r1
    -- order, pairs
    refine ⟨_, rfl, _, rfl, p, c, n0 + 2, k, rfl, pen3, by omega, by omega, fun oa o H4 hperm pen4 s4 noa qo => ?_⟩
    have s4 := s3.trans s4
    refine ⟨by show 0 ≤ sizeLine; decide, fun pa hpa => ?_⟩
    have npa := Pen.ne pen4 hpa
    have pen5 := Pen.upd (o := HO.lst []) pen4 npa
    have sA := My.Same.new (o := HO.lst []) hpa
    refine ⟨by show 2 ≤ sizeLine; decide, fun t2 ht2 => ?_⟩
    refine ⟨t2, _, rfl, SqT.of upd_same, rfl, _, _, rfl, _, _, rfl, rfl, ?_⟩
    have nt2 := Pen.ne pen5 ht2
    have pen6 := Pen.upd (o := HO.tup [V.ref oa, V.ref pa]) pen5 nt2
    have sB := My.Same.new (o := HO.tup [V.ref oa, V.ref pa]) ht2
    have qo := My.Same.sqt (My.Same.wo (sA.trans sB)) qo
    have s6 := s4.trans (My.Same.wo (sA.trans sB))
    have epa : upd (upd H4 pa (.lst [])) t2 (.tup [V.ref oa, V.ref pa]) pa = some (.lst []) := sB _ _ upd_same
    have fpa : wo p H pa = none := s4.free (wo_none hpa)
    generalize upd (upd H4 pa (.lst [])) t2 (.tup [V.ref oa, V.ref pa]) = H6 at pen6 qo s6 epa ⊢
    clear pen1 pen2 pen3 pen4 pen5 s1 s2 s3 s4 sA sB hpa ht2 ht1
    -- what the order is
    have olen : o.length = k := by rw [hperm.length_eq, ups_len]
    have oat : ∀ (i : Int), 0 ≤ i → i < k → ∃ x : Int, 0 ≤ x ∧ x < k ∧ atI (o.map V.int) i = some (.int x) := fun i i0 i1 => by
      obtain ⟨x, e, h⟩ := at_int (cs := o) i0 (by omega)
      have hx := mem_ups.mp (hperm.mem_iff.mp (List.mem_of_getElem? e))
      exact ⟨x, hx.1, hx.2, h⟩
    -- what every way ends with: the pairs, then _law_web
    have fin : ∀ (la : Addr) (H7 : Hp) (j i : Nat), Pen H7 p c j → j ≤ n0 + 200 → Same (wo p H) (wo p H7) → PL K k H7 la i → i < 64 → spWeb K [.int k, .ref la] H7 Q E0 := by
      intro la H7 j i pj hj s7 hpl h64
      obtain ⟨us, ps, el, lps, hb, hus⟩ := hpl
      refine ⟨k, la, us, ps, rfl, .inl (SqL.of el), hus, by omega, fun s hs => ?_, fun qa T H8 hcan s8 nq hd => ?_⟩
      · have := hb s hs
        omega
      · obtain ⟨ul, epl⟩ := Pen.lst (Pen.same s8 pj)
        exact q qa k T H8 hklo hkhi (hcan.web hb) (Pen.mono (Pen.same s8 pj) hj) (s7.trans (My.Same.wo s8)) (s7.free (wo_none nq)) (web_wo hd epl)
    -- if way == 0
    refine ⟨_, rfl, rfl, _, rfl, ite2 (fun e => ?_) (fun e => ?_)⟩
    · refine ⟨_, rfl, _, rfl, (k : Int), 1, rfl, rfl, p, c, _, n0 + 2 + k, rfl, pen6, by omega, by omega, by omega, fun r H7 r0 r1 pen7 s7 => ?_⟩
      refine ⟨_, rfl, by omega, by omega, fun D hD => ?_⟩
      refine draw_pairs (K := K) (k := k) hD (fun _ => rfl) (fun _ => rfl) (fun _ => rfl) pen7 (by omega) (by omega) (by omega) (by omega) ?_
      generalize hm0 : r.toNat = m0
      intro H8 us ps pen8 s8 eD lps hps hus
      refine ⟨_, rfl, _, rfl, ?_⟩
      exact fin D H8 _ m0 pen8 (by omega) (s6.trans (s7.trans s8)) ⟨us, ps, eD, lps, hps, DpAll.same (wo_le.trans wo_le) hus⟩ (by omega)
    -- if way in [2, 3]
    refine ⟨_, rfl, by show 2 ≤ sizeLine; decide, fun l1 hl1 => ?_⟩
    refine ⟨l1, _, rfl, .inl (SqL.of upd_same), rfl, rfl, _, rfl, ite2 (fun e2 => ?_) (fun e2 => ?_)⟩
    · have hw := in_two e2
      have sL := My.Same.new (o := HO.lst [V.int 2, V.int 3]) hl1
      have pen7 := Pen.same sL pen6
      have s7 := s6.trans (My.Same.wo sL)
      have qo7 := My.Same.sqt wo_le (My.Same.sqt (My.Same.wo sL) qo)
      generalize upd H6 l1 (.lst [V.int 2, V.int 3]) = H7 at pen7 s7 qo7 ⊢
      refine ⟨_, rfl, 4, way, rfl, rfl, _, rfl, _, _, rfl, ⟨by omega, by omega, by omega, by omega⟩, fun D hD => ?_⟩
      refine lc_range (fun j H3 => PairsAt K k H7 D j H3) (PairsAt.start hD) ?_ ?_
      · rintro j H8 hj hP
        have qo8 := My.Same.sqt hP.1 qo7
        obtain ⟨x, x0, x1, hx⟩ := oat (4 - way + (j : Int) - 1) (by omega) (by omega)
        obtain ⟨y, y0, y1, hy⟩ := oat (4 - way + (j : Int)) (by omega) (by omega)
        refine ⟨rfl, _, rfl, _, rfl, _, 1, rfl, rfl, oa, _, _, _, rfl, rfl, qo8, hx, _, rfl, _, rfl, oa, _, _, _, rfl, rfl, qo8, hy, by show 2 ≤ sizeLine; decide, fun t ht => ?_⟩
        exact hP.push hD ht ⟨x0, x1⟩ ⟨y0, y1⟩ (by omega)
      · intro H8 hP
        have qo8 := My.Same.sqt hP.1 qo7
        obtain ⟨x, x0, x1, hx⟩ := oat 0 (by omega) (by omega)
        -- order[1 * int(n > 1)]
        have hb : ∃ b : Int, (if decide ((1 : Int) < k) = true then (1 : Int) else 0) = b ∧ 0 ≤ b ∧ b < k := by
          by_cases z : (1 : Int) < k
          · rw [decide_eq_true z]
            exact ⟨1, rfl, by decide, z⟩
          · rw [decide_eq_false z]
            exact ⟨0, rfl, by decide, by omega⟩
        obtain ⟨b, eb, b0, b1⟩ := hb
        obtain ⟨y, y0, y1, hy⟩ := oat (1 * b) (by omega) (by omega)
        refine ⟨_, rfl, oa, _, 0, _, rfl, rfl, qo8, hx, _, rfl, _, rfl, _, 1, rfl, rfl, .inr ⟨_, rfl, ?_⟩⟩
        rw [eb]
        refine ⟨1, b, rfl, rfl, .inl ⟨by decide, by decide⟩, oa, _, _, _, rfl, rfl, qo8, hy, by show 2 ≤ sizeLine; decide, fun t ht => ?_⟩
        refine ⟨by show 1 ≤ sizeLine; decide, fun l2 hl2 => ?_⟩
        have hone := PL.one (K := K) (k := k) ht hl2 ⟨x0, x1⟩ ⟨y0, y1⟩
        have sT := (My.Same.new (o := HO.tup [V.int x, V.int y]) ht).trans (My.Same.new (o := HO.lst [V.ref t]) hl2)
        obtain ⟨us, vs, e1, e3, hsz, hcat⟩ := PL.cat (hP.pl.same sT) hone (by omega)
        refine ⟨D, l2, us, vs, rfl, rfl, e1, e3, hsz, fun pl hpl => ?_⟩
        have hp9 := hcat pl hpl
        have s9 := hP.1.trans (sT.trans (My.Same.new (o := HO.lst (us ++ vs)) hpl))
        have pen9 := Pen.same s9 pen7
        have sw9 := s7.trans (My.Same.wo s9)
        have qo9 := My.Same.sqt s9 qo7
        generalize upd _ pl (.lst (us ++ vs)) = H9 at hp9 s9 pen9 sw9 qo9 ⊢
        -- return _law_web(n, pairs + [(order[0], order[n - 1])] * (way - 2))
        obtain ⟨z, z0, z1, hz⟩ := oat ((k : Int) - 1) (by omega) (by omega)
        refine ⟨_, rfl, _, rfl, _, rfl, oa, _, 0, _, rfl, rfl, qo9, hx, _, rfl, _, rfl, (k : Int), 1, rfl, rfl, oa, _, _, _, rfl, rfl, qo9, hz, by show 2 ≤ sizeLine; decide, fun t3 ht3 => ?_⟩
        refine ⟨by show 1 ≤ sizeLine; decide, fun l3 hl3 => ?_⟩
        have hone3 := PL.one (K := K) (k := k) ht3 hl3 ⟨x0, x1⟩ ⟨z0, z1⟩
        have s10 := (My.Same.new (o := HO.tup [V.int x, V.int z]) ht3).trans (My.Same.new (o := HO.lst [V.ref t3]) hl3)
        refine ⟨_, rfl, way, 2, rfl, rfl, l3, _, _, rfl, rfl, upd_same, by omega, by omega, ?_, fun l4 hl4 => ?_⟩
        · show 1 * (way - 2).toNat ≤ sizeLine
          exact small (by omega)
        have hl4L : ∃ i, i ≤ 1 ∧ PL K k (upd (upd (upd H9 t3 (.tup [V.int x, V.int z])) l3 (.lst [V.ref t3])) l4 (.lst (List.replicate (way - 2).toNat [V.ref t3]).flatten)) l4 i := by
          rcases hw with rfl | rfl
          · exact ⟨0, by decide, [], [], upd_same, rfl, (fun _ h => nomatch h), .nil⟩
          · obtain ⟨us3, ps3, f1, f2, f3, f4⟩ := hone3
            refine ⟨1, by decide, [V.ref t3], ps3, upd_same, f2, f3, ?_⟩
            rw [upd_same] at f1
            cases f1
            exact DpAll.same (My.Same.new hl4) f4
        obtain ⟨i, hi1, hl4P⟩ := hl4L
        have s11 := s10.trans (My.Same.new (o := HO.lst (List.replicate (way - 2).toNat [V.ref t3]).flatten) hl4)
        obtain ⟨us2, vs2, g1, g3, hsz2, hcat2⟩ := PL.cat (hp9.same s11) hl4P (by omega)
        refine ⟨pl, l4, us2, vs2, rfl, rfl, g1, g3, hsz2, fun p5 hp5 => ?_⟩
        have s12 := s11.trans (My.Same.new (o := HO.lst (us2 ++ vs2)) hp5)
        exact fin p5 _ _ _ (Pen.same s12 pen9) (by omega) (sw9.trans (My.Same.wo s12)) (hcat2 p5 hp5) (by omega)
    -- if way == 4
    refine ⟨_, rfl, rfl, _, rfl, ite2 (fun e4 => ?_) (fun e4 => ?_)⟩
    · have sL := My.Same.new (o := HO.lst [V.int 2, V.int 3]) hl1
      have pen7 := Pen.same sL pen6
      have s7 := s6.trans (My.Same.wo sL)
      have qo7 := My.Same.sqt wo_le (My.Same.sqt (My.Same.wo sL) qo)
      generalize upd H6 l1 (.lst [V.int 2, V.int 3]) = H7 at pen7 s7 qo7 ⊢
      refine ⟨_, rfl, _, rfl, oa, rfl, ⟨_, qo7⟩, fun D hD => ?_⟩
      refine lc_tup (xs := o.map V.int) (fun j H3 => PairsAt K k H7 D j H3) (PairsAt.start hD) (fun j H3 _ hP => My.Same.sqt hP.1 qo7) ?_ ?_
      · rintro j x H8 ex hP
        have qo8 := My.Same.sqt hP.1 qo7
        obtain ⟨x0, x00, x01, hx0⟩ := oat 0 (by omega) (by omega)
        obtain ⟨y, rfl, y0, y1⟩ : ∃ y, x = .int y ∧ 0 ≤ y ∧ y < k := by
          rw [List.getElem?_map] at ex
          cases e : o[j]? with
          | none => rw [e] at ex; cases ex
          | some y =>
            rw [e] at ex
            have := mem_ups.mp (hperm.mem_iff.mp (List.mem_of_getElem? e))
            exact ⟨y, (Option.some.inj ex).symm, this.1, this.2⟩
        have hj : j < o.length := by
          have := (List.getElem?_eq_some_iff.mp ex).1
          rwa [List.length_map] at this
        refine ⟨rfl, _, rfl, oa, _, 0, _, rfl, rfl, qo8, hx0, _, rfl, by show 2 ≤ sizeLine; decide, fun t ht => ?_⟩
        exact hP.push hD ht ⟨x00, x01⟩ ⟨y0, y1⟩ (by omega)
      · intro H8 hP
        rw [List.length_map] at hP
        exact fin D H8 _ _ (Pen.same hP.1 pen7) (by omega) (s7.trans (My.Same.wo hP.1)) hP.pl (by omega)
    -- if way == 5 and n > 4: else the rest, from the state as it is
    have sL := My.Same.new (o := HO.lst [V.int 2, V.int 3]) hl1
    have pen7 := Pen.same sL pen6
    have s7 := s6.trans (My.Same.wo sL)
    have qo7 := My.Same.sqt (My.Same.wo sL) qo
    have epa7 := sL _ _ epa
    generalize upd H6 l1 (.lst [V.int 2, V.int 3]) = H7 at pen7 s7 qo7 epa7 ⊢
    refine ⟨fun σ H' => σ = [some (.ref p), some (.int lo), some (.int hi), some (.int k), some (.int way), some (.ref oa), some (.ref pa), none, none, none, none, none, none] ∧ H' = H7, ?_, ?_⟩
    · refine ⟨_, rfl, rfl, _, rfl, ite2 (fun e5 => ?_) (fun e5 => iteF ⟨rfl, rfl⟩)⟩
      refine ⟨_, rfl, (k : Int), 4, rfl, rfl, _, rfl, ite2 (fun e6 => ?_) (fun e6 => ⟨rfl, rfl⟩)⟩
      have hk4 : (4 : Int) < k := dT e6
      -- half
      refine ⟨_, rfl, _, rfl, (k : Int), 4, rfl, rfl, p, c, _, n0 + 2 + k, rfl, pen7, by omega, by omega, by omega, fun r H8 r0 r1 pen8 s8 => ⟨2, r, rfl, rfl, ?_⟩⟩
      have qo8 := My.Same.sqt wo_le (My.Same.sqt s8 qo7)
      have epa8 := (wo_some (s8 _ _ ((wo_ne npa.1).trans epa7))).2
      have s8 := s7.trans s8
      -- rings
      refine ⟨_, rfl, _, rfl, _, 1, rfl, rfl, _, rfl, slT_any qo8 fun b1 H9 s9 q1 => ?_⟩
      refine ⟨_, rfl, _, rfl, _, rfl, ?_⟩
      unfold tNoPart
      refine slT_any (My.Same.sqt s9 qo8) fun b2 H10 s10 q2 => ?_
      refine ⟨by show 2 ≤ sizeLine; decide, fun ra hra => ?_⟩
      obtain ⟨r1, er1, hr1, lr1⟩ := cutV_ints (o := o) (lo := none) (hi := some (2 + r + 1))
      obtain ⟨r2, er2, hr2, lr2⟩ := cutV_ints (o := o) (lo := some (2 + r)) (hi := none)
      rw [er1] at q1
      rw [er2] at q2
      have sR := My.Same.new (o := HO.lst [V.ref b1, V.ref b2]) hra
      have q1 := My.Same.sqt (s10.trans sR) q1
      have q2 := My.Same.sqt sR q2
      have pen11 := Pen.same (s9.trans (s10.trans sR)) pen8
      have s11 := s8.trans (My.Same.wo (s9.trans (s10.trans sR)))
      have epa11 := sR _ _ (s10 _ _ (s9 _ _ epa8))
      have era : upd H10 ra (.lst [V.ref b1, V.ref b2]) ra = some (.lst [V.ref b1, V.ref b2]) := upd_same
      generalize upd H10 ra (.lst [V.ref b1, V.ref b2]) = H11 at q1 q2 pen11 s11 epa11 era ⊢
      refine ⟨_, rfl, ra, rfl, ⟨_, SqL.of era⟩, ?_⟩
      refine for_list (xs := [V.ref b1, V.ref b2]) (fun j σ H' => ∃ (pl : Addr) (x9 : Option V) (i : Nat), σ = [some (.ref p), some (.int lo), some (.int hi), some (.int k), some (.int way), some (.ref oa), some (.ref pl), some (.int (2 + r)), some (.ref ra), x9, none, none, none] ∧ Same H11 H' ∧ PL K k H' pl i ∧ i ≤ 12 * j) ?_ ?_ ?_ ?_
      · exact ⟨pa, none, 0, rfl, Same.refl _, ⟨[], [], epa11, rfl, (fun _ h => nomatch h), .nil⟩, by omega⟩
      · rintro j σ H' _ ⟨_, _, _, _, sm, _⟩
        exact SqL.of (sm _ _ era)
      · rintro j x σ H12 ex ⟨pl, x9, i, rfl, sm, hpl, hi⟩
        obtain ⟨b, rr, rfl, qb, hrr, lrr⟩ : ∃ (b : Addr) (rr : List Int), x = .ref b ∧ SqT K H12 b (rr.map V.int) ∧ (∀ x ∈ rr, x ∈ o) ∧ rr.length ≤ 12 := by
          match j, ex with
          | 0, ex => exact ⟨b1, r1, (Option.some.inj ex).symm, My.Same.sqt sm q1, hr1, by omega⟩
          | 1, ex => exact ⟨b2, r2, (Option.some.inj ex).symm, My.Same.sqt sm q2, hr2, by omega⟩
        have hin : ∀ x ∈ rr, 0 ≤ x ∧ x < k := fun x hx => mem_ups.mp (hperm.mem_iff.mp (hrr x hx))
        refine ⟨_, rfl, _, rfl, b, _, rfl, .inr qb, _, rfl, by omega, by rw [List.length_map]; omega, fun D hD => ?_⟩
        rw [Int.toNat_natCast, List.length_map]
        refine lc_range (fun j H3 => PairsAt K k H12 D j H3) (PairsAt.start hD) ?_ ?_
        · rintro t H13 ht hP
          have qb3 := My.Same.sqt hP.1 qb
          obtain ⟨x, mx, hx⟩ := at_back (r := rr) (i := 0 + (t : Int) - 1) (by omega) (by omega) (by omega)
          obtain ⟨y, my, hy⟩ := at_back (r := rr) (i := 0 + (t : Int)) (by omega) (by omega) (by omega)
          refine ⟨rfl, _, rfl, _, rfl, _, 1, rfl, rfl, b, _, _, _, rfl, rfl, qb3, hx, _, rfl, _, rfl, b, _, _, _, rfl, rfl, qb3, hy, by show 2 ≤ sizeLine; decide, fun t3 ht3 => ?_⟩
          exact hP.push hD ht3 (hin x mx) (hin y my) (by omega)
        · intro H13 hP
          obtain ⟨us, vs, e1, e3, hsz, hcat⟩ := PL.cat (hpl.same hP.1) hP.pl (by
            have : j < 2 := (List.getElem?_eq_some_iff.mp ex).1
            omega)
          refine ⟨pl, D, us, vs, rfl, rfl, e1, e3, hsz, fun p5 hp5 => ?_⟩
          exact ⟨p5, _, _, rfl, sm.trans (hP.1.trans (My.Same.new hp5)), hcat p5 hp5, by omega⟩
      · rintro σ H12 ⟨pl, x9, i, rfl, sm, hpl, hi⟩
        refine ⟨_, rfl, _, rfl, ?_⟩
        have hi2 : i ≤ 24 := hi
        exact fin pl H12 _ i (Pen.same sm pen11) (by omega) (s11.trans (My.Same.wo sm)) hpl (by omega)
    · rintro σ H' ⟨rfl, rfl⟩
      -- for k in range(1, n): pairs.append(..)
      refine ⟨_, rfl, 1, _, rfl, ⟨by decide, by decide, by omega, by omega⟩, ?_⟩
      refine for_range (fun j σ H2 => ∃ (x10 : Option V), σ = [some (.ref p), some (.int lo), some (.int hi), some (.int k), some (.int way), some (.ref oa), some (.ref pa), none, none, none, x10, none, none] ∧ Pen H2 p c (n0 + 2 + k + j) ∧ Same (wo p H) (wo p H2) ∧ SqT K (wo p H2) oa (o.map V.int) ∧
        ∃ (us : List V) (ps : List (Int × Int)), H2 pa = some (.lst us) ∧ ps.length = j ∧ (∀ s ∈ ps, (0 ≤ s.1 ∧ s.1 < k) ∧ 0 ≤ s.2 ∧ s.2 < k) ∧ DpAll K (wo pa (wo p H2)) us ((ps.map prI).map tI)) ?_ ?_ ?_
      · exact ⟨none, rfl, pen7, s7, qo7, [], [], epa7, rfl, (fun _ h => nomatch h), .nil⟩
      · rintro j σ H8 hj ⟨x10, rfl, pen8, s8, qo8, us, ps, ep8, lps, hps, hus⟩
        refine ⟨_, rfl, .inl ⟨rfl, _, SqL.of ep8⟩, ?_⟩
        refine ⟨_, rfl, _, rfl, _, rfl, p, c, _, _, rfl, pen8, by omega, by omega, by omega, fun r H9 r0 r1 pen9 s9 => ?_⟩
        have qo9 := My.Same.sqt s9 qo8
        have ep8' : wo p H8 pa = some (.lst us) := (wo_ne npa.1).trans ep8
        have ep9' := s9 _ _ ep8'
        have ep9 := (wo_some ep9').2
        obtain ⟨x, x0, x1, hx⟩ := oat r r0 (by omega)
        obtain ⟨y, y0, y1, hy⟩ := oat (1 + (j : Int)) (by omega) (by omega)
        refine ⟨oa, _, _, _, rfl, rfl, My.Same.sqt wo_le qo9, hx, _, rfl, _, rfl, oa, _, _, _, rfl, rfl, My.Same.sqt wo_le qo9, hy, by show 2 ≤ sizeLine; decide, fun t ht => ?_⟩
        have nt := Pen.ne pen9 ht
        have htp : t ≠ pa := (ne_of_none ep9 ht).symm
        have sT := My.Same.new (o := HO.tup [V.int x, V.int y]) ht
        refine ⟨pa, us, .ref t, rfl, rfl, sT _ _ ep9, ?_, ?_⟩
        · rw [My.DpAll.len hus, List.length_map, List.length_map]
          exact smallT (by omega)
        · have pen10 := Pen.upd (o := HO.lst (us ++ [V.ref t])) (Pen.upd (o := HO.tup [V.int x, V.int y]) pen9 nt) npa
          obtain ⟨g1, g2⟩ := push (DpAll.same (My.Same.wo (s9.trans (My.Same.wo sT))) hus) (Dp.ofTI (K := K) (a := t) (ns := prI (x, y)) (SqT.of ((wo_ne htp).trans ((wo_ne nt.1).trans upd_same))))
          refine ⟨_, rfl, pen10, ?_, ?_, us ++ [.ref t], ps ++ [(x, y)], upd_same, ?_, ?_, ?_⟩
          · rw [wo_upd npa.1]
            exact My.Same.updD (s8.trans (s9.trans (My.Same.wo sT))) fpa
          · rw [wo_upd npa.1]
            exact My.Same.sqt wo_le (My.Same.sqt My.Same.put (sqt_wo (My.Same.sqt (My.Same.wo sT) qo9) ((wo_ne npa.1).trans (sT _ _ ep9))))
          · rw [List.length_append, lps]
            rfl
          · intro z hz
            rcases List.mem_append.mp hz with hz | hz
            · exact hps z hz
            · rw [List.mem_singleton.mp hz]
              exact ⟨⟨x0, x1⟩, y0, y1⟩
          · rw [wo_upd npa.1, List.map_append, List.map_append]
            exact g2
      · rintro σ H8 ⟨x10, rfl, pen8, s8, qo8, us, ps, ep8, lps, hps, hus⟩
        have lk : ps.length + 1 = k := by omega
        -- more
        refine ⟨_, rfl, _, rfl, 3, (k : Int), rfl, rfl, .inl ⟨by decide, by decide⟩, by show 9 ≤ sizeLine; decide, fun ml hml => ?_⟩
        obtain ⟨mo, mo1, hmo⟩ : ∃ mo : Nat, mo ≤ 36 ∧ atI [V.int 0, V.int 1, V.int 0, V.int 0, V.int 0, V.int 2, V.int 3, V.int k, V.int (3 * (k : Int))] way = some (.int mo) := by
          have hc : way = 0 ∨ way = 1 ∨ way = 2 ∨ way = 3 ∨ way = 4 ∨ way = 5 ∨ way = 6 ∨ way = 7 ∨ way = 8 := by omega
          rcases hc with e | e | e | e | e | e | e | e | e <;> subst e
          · exact ⟨0, by decide, rfl⟩
          · exact ⟨1, by decide, rfl⟩
          · exact ⟨0, by decide, rfl⟩
          · exact ⟨0, by decide, rfl⟩
          · exact ⟨0, by decide, rfl⟩
          · exact ⟨2, by decide, rfl⟩
          · exact ⟨3, by decide, rfl⟩
          · exact ⟨k, by omega, rfl⟩
          · refine ⟨3 * k, by omega, ?_⟩
            show some (V.int (3 * (k : Int))) = _
            rw [Int.natCast_mul]
            rfl
        refine ⟨_, rfl, ml, _, way, _, rfl, rfl, SqL.of upd_same, hmo, ?_⟩
        have sM := My.Same.new (o := HO.lst [V.int 0, V.int 1, V.int 0, V.int 0, V.int 0, V.int 2, V.int 3, V.int k, V.int (3 * (k : Int))]) hml
        have pen9 := Pen.same sM pen8
        have s9 := s8.trans (My.Same.wo sM)
        have hpl : PL K k (wo p (upd H8 ml (.lst [V.int 0, V.int 1, V.int 0, V.int 0, V.int 0, V.int 2, V.int 3, V.int k, V.int (3 * (k : Int))]))) pa ps.length :=
          ⟨us, ps, (My.Same.wo sM) _ _ ((wo_ne npa.1).trans ep8), rfl, hps, DpAll.same (wo_le.trans (My.Same.wo sM)) hus⟩
        generalize upd H8 ml _ = H9 at pen9 s9 hpl ⊢
        -- return _law_web(n, pairs + [..])
        refine ⟨_, rfl, _, rfl, _, rfl, _, rfl, by omega, by omega, fun D hD => ?_⟩
        rw [Int.toNat_natCast]
        refine draw_pairs (K := K) (k := k) hD (fun _ => rfl) (fun _ => rfl) (fun _ => rfl) pen9 (by omega) (by omega) (by omega) (by omega) ?_
        intro H10 us2 ps2 pen10 s10 eD lps2 hps2 hus2
        have hp1 : PL K k H10 pa ps.length := (hpl.same s10).same wo_le
        have hp2 : PL K k H10 D mo := ⟨us2, ps2, eD, lps2, hps2, DpAll.same (wo_le.trans wo_le) hus2⟩
        obtain ⟨ua, ub, f1, f2, fz, fcat⟩ := PL.cat hp1 hp2 (by omega)
        refine ⟨pa, D, ua, ub, rfl, rfl, f1, f2, fz, fun p5 hp5 => ?_⟩
        have s11 := My.Same.new (o := HO.lst (ua ++ ub)) hp5
        exact fin p5 _ _ _ (Pen.same s11 pen10) (by omega) (s9.trans (s10.trans (My.Same.wo s11))) (fcat p5 hp5) (by omega)
end
end K27

set_option Elab.async false
set_option linter.all false
set_option maxRecDepth 100000
set_option maxHeartbeats 4000000
namespace K27
open PySem PySem.Spec PyProof.Rows L2 My
abbrev s_law_draw_bounds : Stmt := topS 42
theorem sc_law_draw_bounds : FnScope ["pen", "n", "k", "found", "i", "low"] ["pen", "n", "k"] (defScope s_law_draw_bounds) := ⟨rfl, rfl, rfl, by decide +kernel, rfl, by decide +kernel, by decide +kernel⟩
abbrev s_law_draw_scene : Stmt := topS 43
theorem sc_law_draw_scene : FnScope ["pen", "most", "web", "k", "roots", "bounds", "every"] ["pen", "most"] (defScope s_law_draw_scene) := ⟨rfl, rfl, rfl, by decide +kernel, rfl, by decide +kernel, by decide +kernel⟩
section
variable {P : Program} {w : World} {K : PySem.W.Frag} {mg : Str → Option Value} {base : Heap}
theorem ok_draw_bounds {f : Addr} {fd : FuncData} {m : Nat} (F : Fun K "_law_draw_bounds" "_law_draw_bounds" s_law_draw_bounds f fd) (B : Bn mg) (D_law_take : Own P w K mg base "_law_take" m ["pen", "amount"] spTake) : FnOk P w K mg base CX0 (m + 1) f fd ["pen", "n", "k"] (spBounds K) := by
  refine F.ok sc_law_draw_bounds (fun vs H Q E h => ?_) (fun cdv A outer s H vs Q E hr h => ?_)
  · obtain ⟨p, c, n0, n, k, rfl, _⟩ := h
    rfl
  · obtain ⟨p, c, n0, n, k, rfl, pen, hn0, k1, kn, n100, q⟩ := h
    refine ⟨_, (pss_cons (ps_set (i := 3) sc_law_draw_bounds.nd rfl (.inl rfl) (pe_lst pa_nil))
      (pss_cons (ps_for PassesOwn.never rfl (pi_range1 (by rfl) B.range (pa_cons (pv 2) pa_nil)) (pg_name (i := 4) sc_law_draw_bounds.nd rfl (.inl rfl)) (pss_cons (ps_set (i := 5) sc_law_draw_bounds.nd rfl (.inl rfl) (pe_op op_add pe_int (pe_op op_mul (pe_own D_law_take hr (by rfl) (pa_cons (pv 0) (pa_cons (pe_callB (call_max2 rfl) (by rfl) B.max (by decide +kernel) (pa_cons pe_int (pa_cons (pe_op op_add (pe_op op_sub (pv 1) (pv 2)) pe_int) pa_nil))) pa_nil))) (pe_callTy call_int1 (by rfl) B.int_ (by decide +kernel) (pa_cons (pe_cmpR op_eq (pe_own D_law_take hr (by rfl) (pa_cons (pv 0) (pa_cons pe_int pa_nil))) pe_int (nomark _)) pa_nil)))))
      (pss_one (ps_expr (pe_bmK K PySem.F.plainAttrs_list PySem.F.slot_list_append PySem.F.type_list_append mt_append (pv 3) (pa_cons (pe_tup (pa_cons (pv 5) (pa_cons (pe_op op_add (pe_op op_add (pv 5) (pe_own D_law_take hr (by rfl) (pa_cons (pv 0) (pa_cons (pv 1) pa_nil)))) (pe_op op_mul (pe_op op_pow pe_int pe_int) (pe_callTy call_int1 (by rfl) B.int_ (by decide +kernel) (pa_cons (pe_cmpR op_eq (pe_own D_law_take hr (by rfl) (pa_cons (pv 0) (pa_cons pe_int pa_nil))) pe_int (nomark _)) pa_nil)))) pa_nil))) pa_nil))))))
      (pss_one (ps_ret (pe_callTy (tupleOf K) (by rfl) B.tuple_ (by decide +kernel) (pa_cons (pv 3) pa_nil)))))), ?_⟩
    refine (show tSeq _ _ _ [some (.ref p), some (.int (n : Int)), some (.int (k : Int)), none, none, none] _ from tSeq_e (tAsg_e ?_))
    refine ⟨by show 0 ≤ sizeLine; decide, fun D hD => ?_⟩
    have nD := Pen.ne pen hD
    have pen1 := Pen.upd (o := HO.lst []) pen nD
    have s1 := My.Same.wo (p := p) (My.Same.new (o := HO.lst []) hD)
    have eD1 : upd H D (.lst []) D = some (.lst []) := upd_same
    generalize upd H D (HO.lst []) = H1 at pen1 s1 eD1 ⊢
    dsimp only [gName]
    refine (show tSeq _ _ _ [some (.ref p), some (.int (n : Int)), some (.int (k : Int)), some (.ref D), none, none] _ from tSeq_e ?_)
    refine ⟨_, rfl, _, rfl, by omega, by omega, ?_⟩
    rw [Int.toNat_natCast]
    refine for_range (fun i σ H2 => ∃ (x4 x5 : Option V) (us : List V) (bs : List (Int × Int)), σ = [some (.ref p), some (.int (n : Int)), some (.int (k : Int)), some (.ref D), x4, x5] ∧ Pen H2 p c (n0 + 4 * i) ∧ Same (wo p H) (wo p H2) ∧ H2 D = some (.lst us) ∧ DqAll K (wos [D, p] H2) us ((bs.map prI).map tI) ∧ bs.length = i ∧ BdOk n bs) ?_ ?_ ?_
    · exact ⟨none, none, [], [], rfl, pen1, s1, eD1, .nil, rfl, fun b hb => nomatch hb⟩
    · rintro i σ H2 hi ⟨x4, x5, us, bs, rfl, pen2, s2, eD, hus, lbs, hb⟩
      -- low
      refine (show tSeq _ _ _ [some (.ref p), some (.int (n : Int)), some (.int (k : Int)), some (.ref D), some (.int (0 + (i : Int))), x5] _ from tSeq_e (tAsg_e ?_))
      refine ⟨_, rfl, _, rfl, _, rfl, (n : Int), (k : Int), rfl, rfl, _, 1, rfl, rfl, 1, _, rfl, ?_⟩
      obtain ⟨mx, emx, mx1, mxn⟩ : ∃ mx : Nat, (if (n : Int) - k + 1 > 1 then (n : Int) - k + 1 else 1) = mx ∧ 1 ≤ mx ∧ mx ≤ n := by
        by_cases h : (n : Int) - k + 1 > 1
        · exact ⟨n - k + 1, by rw [if_pos h]; omega, by omega, by omega⟩
        · exact ⟨1, by rw [if_neg h]; rfl, by omega, by omega⟩
      rw [emx]
      refine ⟨p, c, (mx : Int), _, rfl, pen2, by omega, by omega, by omega, fun r1 H3 a0 a1 pen3 s3 => ?_⟩
      refine ⟨_, rfl, p, c, 3, _, rfl, pen3, by omega, by omega, by omega, fun r2 H4 b0 b1 pen4 s4 => ?_⟩
      refine ⟨rfl, .inr ⟨_, rfl, ?_⟩⟩
      generalize decide (V.int r2 = V.int 0) = kb
      obtain ⟨lo, hlo, lo1, lo2⟩ : ∃ lo : Int, 1 + r1 * (if kb = true then 1 else 0) = lo ∧ 1 ≤ lo ∧ lo ≤ n := by
        cases kb
        · exact ⟨1, by simp, by omega, by omega⟩
        · exact ⟨1 + r1, by simp, by omega, by omega⟩
      refine ⟨r1, _, rfl, rfl, (by cases kb <;> exact .inr ⟨by decide, by decide⟩), 1, _, rfl, rfl, ?_⟩
      dsimp only [gName]
      rw [hlo]
      have s24 := s3.trans s4
      have eD4 := (wo_some (s24 _ _ ((wo_ne nD.1).trans eD))).2
      have hw24 : Same (wos [D, p] H2) (wos [D, p] H4) := My.Same.wos_of (by simp) s24
      -- found.append((low, ..))
      refine (show tDrop _ _ [some (.ref p), some (.int (n : Int)), some (.int (k : Int)), some (.ref D), some (.int (0 + (i : Int))), some (.int lo)] _ from ?_)
      refine ⟨_, rfl, .inl ⟨rfl, _, SqL.of eD4⟩, _, rfl, _, rfl, _, rfl, _, rfl, p, c, (n : Int), _, rfl, pen4, by omega, by omega, by omega, fun r3 H5 c0 c1 pen5 s5 => ?_⟩
      refine ⟨lo, r3, rfl, rfl, 10, 6, rfl, rfl, ⟨by decide, by decide, by decide⟩, ?_⟩
      refine ⟨_, rfl, p, c, 9, _, rfl, pen5, by omega, by omega, by omega, fun r4 H6 d0 d1 pen6 s6 => ?_⟩
      refine ⟨rfl, .inr ⟨_, rfl, ?_⟩⟩
      generalize decide (V.int r4 = V.int 0) = kc
      obtain ⟨hg, hhg, hg1, hg2⟩ : ∃ hg : Int, lo + r3 + 10 ^ (6 : Int).toNat * (if kc = true then 1 else 0) = hg ∧ lo ≤ hg ∧ hg ≤ 2000000 := by
        cases kc
        · exact ⟨lo + r3, by simp, by omega, by omega⟩
        · exact ⟨lo + r3 + 1000000, by simp, by omega, by omega⟩
      refine ⟨_, _, rfl, rfl, (by cases kc <;> exact .inr ⟨by decide, by decide⟩), _, _, rfl, rfl, ?_⟩
      dsimp only
      rw [hhg]
      refine ⟨by show 2 ≤ sizeLine; decide, fun t ht => ?_⟩
      have st := My.Same.new (o := HO.tup [V.int lo, V.int hg]) ht
      have s46 := s5.trans s6
      have eD6 := st _ _ (wo_some (s46 _ _ ((wo_ne nD.1).trans eD4))).2
      have pen7 := Pen.same st pen6
      have hw46 : Same (wos [D, p] H4) (wos [D, p] (upd H6 t (.tup [V.int lo, V.int hg]))) := (My.Same.wos_of (by simp) s46).trans (My.Same.wos st)
      have ntD : t ≠ D := fun z => by
        rw [z, (wo_some (s46 _ _ ((wo_ne nD.1).trans eD4))).2] at ht
        cases ht
      have ntp := Pen.ne pen6 ht
      have et : wos [D, p] (upd H6 t (.tup [V.int lo, V.int hg])) t = some (.tup [V.int lo, V.int hg]) := (wos_in (by simp; exact ⟨ntD, ntp.1⟩)).trans upd_same
      have hus6 := DqAll.same (hw24.trans hw46) hus
      have sF : Same (wo p H2) (wo p (upd H6 t (.tup [V.int lo, V.int hg]))) := s24.trans (s46.trans (My.Same.wo st))
      generalize upd H6 t (HO.tup [V.int lo, V.int hg]) = H7 at eD6 pen7 et hus6 sF ⊢
      have lus := hus6.len
      rw [List.length_map, List.length_map, lbs] at lus
      refine ⟨D, us, _, rfl, rfl, eD6, smallT (by omega), ?_⟩
      refine ⟨_, _, us ++ [.ref t], bs ++ [(lo, hg)], rfl, (Pen.upd pen7 nD).mono (by omega), wo_updD (s2.trans sF) (wo_none hD), upd_same, ?_, by rw [List.length_append, lbs]; rfl, fun b hb' => ?_⟩
      · rw [List.map_append, List.map_append]
        exact DqAll.append (DqAll.same wos_put hus6) (.cons (Dq.same wos_put (.tup (SqT.of et) (.cons (.int lo) (.cons (.int hg) .nil)))) .nil)
      · rcases List.mem_append.mp hb' with hb' | hb'
        · exact hb b hb'
        · rw [List.mem_singleton.mp hb']
          exact ⟨lo1, by omega, hg1, hg2⟩
    · rintro σ H2 ⟨x4, x5, us, bs, rfl, pen2, s2, eD, hus, lbs, hb⟩
      dsimp only
      refine (show tRet _ _ [some (.ref p), some (.int (n : Int)), some (.int (k : Int)), some (.ref D), x4, x5] _ from ?_)
      refine ⟨_, rfl, D, us, rfl, .inl ⟨SqL.of eD, fun l hl => ?_⟩⟩
      have nl := Pen.ne pen2 hl
      have sl := My.Same.new (o := HO.tup us) hl
      refine q l bs _ lbs hb (Pen.upd pen2 nl) (s2.trans (My.Same.wo sl)) (.tup (SqT.of ((wo_ne nl.1).trans upd_same)) (DqAll.same (Same.trans ?_ (My.Same.wo sl)) hus))
      exact fun b o e => by
        obtain ⟨h1, h2⟩ := wos_some e
        exact (wo_ne fun z => h1 (by rw [z]; simp)).trans h2
theorem ok_draw_scene {f : Addr} {fd : FuncData} {m : Nat} (F : Fun K "_law_draw_scene" "_law_draw_scene" s_law_draw_scene f fd) (B : Bn mg) (D_law_draw_web : Own P w K mg base "_law_draw_web" m ["pen", "low", "high"] (spDrawWeb K)) (D_law_take : Own P w K mg base "_law_take" m ["pen", "amount"] spTake) (D_law_draw_roots : Own P w K mg base "_law_draw_roots" m ["pen", "n", "k"] spDrawRootsF) (D_law_draw_bounds : Own P w K mg base "_law_draw_bounds" m ["pen", "n", "k"] (spBounds K)) (D_law_standings : Own P w K mg base "_law_standings" m ["web", "roots", "bounds"] (spStandings K)) : FnOk P w K mg base CX0 (m + 1) f fd ["pen", "most"] (spScene K) := by
  refine F.ok sc_law_draw_scene (fun vs H Q E h => ?_) (fun cdv A outer s H vs Q E hr h => ?_)
  · obtain ⟨p, c, n0, most, rfl, _⟩ := h
    rfl
  · obtain ⟨p, c, n0, most, rfl, pen, hn0, m1, m7, q⟩ := h
    refine ⟨_, (pss_cons (ps_set (i := 2) sc_law_draw_scene.nd rfl (.inl rfl) (pe_own D_law_draw_web hr (by rfl) (pa_cons (pv 0) (pa_cons pe_int (pa_cons (pv 1) pa_nil)))))
      (pss_cons (ps_set (i := 3) sc_law_draw_scene.nd rfl (.inl rfl) (pe_op op_add pe_int (pe_own D_law_take hr (by rfl) (pa_cons (pv 0) (pa_cons (pe_callB (call_min2 rfl) (by rfl) B.min (by decide +kernel) (pa_cons pe_int (pa_cons (pe_ix (ixT K) (pv 2) pe_int (fun _ _ => rfl)) pa_nil))) pa_nil)))))
      (pss_cons (ps_set (i := 4) sc_law_draw_scene.nd rfl (.inl rfl) (pe_own D_law_draw_roots hr (by rfl) (pa_cons (pv 0) (pa_cons (pe_ix (ixT K) (pv 2) pe_int (fun _ _ => rfl)) (pa_cons (pv 3) pa_nil)))))
      (pss_cons (ps_set (i := 5) sc_law_draw_scene.nd rfl (.inl rfl) (pe_own D_law_draw_bounds hr (by rfl) (pa_cons (pv 0) (pa_cons (pe_ix (ixT K) (pv 2) pe_int (fun _ _ => rfl)) (pa_cons (pv 3) pa_nil)))))
      (pss_cons (ps_set (i := 6) sc_law_draw_scene.nd rfl (.inl rfl) (pe_own D_law_standings hr (by rfl) (pa_cons (pv 2) (pa_cons (pv 4) (pa_cons (pv 5) pa_nil)))))
      (C8.pss_cut (ps_if (pt_cmpR op_lt (pe_callB (lenQ K) (by rfl) B.len (by decide +kernel) (pa_cons (pv 6) pa_nil)) pe_int (nomark _)) (pss_cons (ps_set (i := 5) sc_law_draw_scene.nd rfl (.inl rfl) (pe_op (repT1 K) (pe_tup (pa_cons (pe_tup (pa_cons pe_int (pa_cons (pe_ix (ixT K) (pv 2) pe_int (fun _ _ => rfl)) pa_nil))) pa_nil)) (pv 3)))
      (pss_one (ps_set (i := 6) sc_law_draw_scene.nd rfl (.inl rfl) (pe_own D_law_standings hr (by rfl) (pa_cons (pv 2) (pa_cons (pv 4) (pa_cons (pv 5) pa_nil))))))) pss_nil)
      (pss_one (ps_ret (pe_tup (pa_cons (pv 2) (pa_cons (pv 4) (pa_cons (pv 5) (pa_cons (pv 6) pa_nil))))))))))))), ?_⟩
    have hpav : p ∈ [p] := List.mem_singleton.mpr rfl
    refine (show tSeq _ _ _ [some (.ref p), some (.int (most : Int)), none, none, none, none, none] _ from tSeq_e (tAsg_e ?_))
    refine ⟨_, rfl, _, rfl, p, c, n0, 1, most, rfl, pen, by omega, by omega, by omega, by omega, fun wq n T H1 n1 nm hT pen1 s1 nwq hD => ?_⟩
    have hW : Dq K (wo p H1) (.ref wq) (webD n T) := Dq.of hD
    clear nwq hD
    -- k
    dsimp only [gName]
    refine (show tSeq _ _ _ [some (.ref p), some (.int (most : Int)), some (.ref wq), none, none, none, none] _ from tSeq_e (tAsg_e ?_))
    obtain ⟨wq', wx, e, hWT, _⟩ := hW.first
    cases e
    refine ⟨_, rfl, _, rfl, wq, _, 0, _, rfl, rfl, My.Same.sqt wo_le hWT, rfl, (3 : Int), (n : Int), rfl, ?_⟩
    obtain ⟨b, eb, b1, b2, b3⟩ : ∃ b : Nat, (if (n : Int) < 3 then (n : Int) else 3) = b ∧ 1 ≤ b ∧ b ≤ 3 ∧ b ≤ n := by
      by_cases z : (n : Int) < 3
      · rw [if_pos z]
        exact ⟨n, rfl, by omega, by omega, by omega⟩
      · rw [if_neg z]
        exact ⟨3, rfl, by omega, by omega, by omega⟩
    rw [eb]
    refine ⟨p, c, (b : Int), _, rfl, pen1, by omega, by omega, by omega, fun r H2 r0 r1 pen2 s2 => ⟨1, r, rfl, rfl, ?_⟩⟩
    obtain ⟨k, hk⟩ : ∃ k : Nat, (1 : Int) + r = k := ⟨(1 + r).toNat, by omega⟩
    have hW := Dq.same s2 hW
    have k1 : 1 ≤ k := by omega
    have k3 : k ≤ 3 := by omega
    have kn : k ≤ n := by omega
    dsimp only [gName]
    rw [hk]
    have hWT2 := My.Same.sqt s2 hWT
    -- roots
    refine (show tSeq _ _ _ [some (.ref p), some (.int (most : Int)), some (.ref wq), some (.int (k : Int)), none, none, none] _ from tSeq_e (tAsg_e ?_))
    refine ⟨_, rfl, _, rfl, wq, _, 0, _, rfl, rfl, My.Same.sqt wo_le hWT2, rfl, _, rfl, p, c, _, n, k, rfl, pen2, by omega, by omega, by omega, fun ra rs H3 nd hrs lrs pen3 s3 hra => ?_⟩
    have hW := Dq.same s3 hW
    have hra := hra.wo (Pen.lst pen3)
    have hWT3 := My.Same.sqt s3 hWT2
    subst lrs
    -- bounds
    dsimp only [gName]
    refine (show tSeq _ _ _ [some (.ref p), some (.int (most : Int)), some (.ref wq), some (.int (rs.length : Nat)), some (.ref ra), none, none] _ from tSeq_e (tAsg_e ?_))
    refine ⟨_, rfl, _, rfl, wq, _, 0, _, rfl, rfl, My.Same.sqt wo_le hWT3, rfl, _, rfl, p, c, _, n, rs.length, rfl, pen3, by omega, by omega, by omega, by omega, fun bq bs H4 lbs hbs pen4 s4 hB => ?_⟩
    have hW := Dq.same s4 hW
    have hra := hra.same s4
    have hWT4 := My.Same.sqt s4 hWT3
    have hfew : ∀ j ≤ n, (dealsL rs.length rs j).length ≤ 1000 := fun j hj => dealsL_few nd hrs k1 (by omega) (by omega) hj
    have pen4 : Pen H4 p c (n0 + 300) := pen4.mono (by omega)
    have s14 : Same (wo p H) (wo p H4) := s1.trans (s2.trans (s3.trans s4))
    clear pen pen1 pen2 pen3 s1 s2 s3 s4 hWT hWT2 hWT3
    -- every
    dsimp only [gName]
    refine (show tSeq _ _ _ [some (.ref p), some (.int (most : Int)), some (.ref wq), some (.int (rs.length : Nat)), some (.ref ra), some (.ref bq), none] _ from tSeq_e (tAsg_e ?_))
    refine ⟨_, rfl, _, rfl, _, rfl, .ref wq, ra, .ref bq, n, T, rs, bs, rfl, Dq.same wo_le hW, hT, n1, by omega, hra.same wo_le, Dq.same wo_le hB, hrs, lbs, k1, by omega, hfew, fun ea H5 nea s5 hE => ?_⟩
    dsimp only [gName]
    have fresh : ∀ {a : Addr} {H5 : Hp}, Same H4 H5 → H5 a = none → H a = none := fun {a H5} s5 na => by
      have n4 := s5.free na
      cases e : H a with
      | none => rfl
      | some o =>
        by_cases ap : a = p
        · obtain ⟨us, hus⟩ := Pen.lst pen4
          rw [ap, hus] at n4
          cases n4
        · have := (wo_some (s14 _ _ ((wo_ne ap).trans e))).2
          rw [this] at n4
          cases n4
    have toP : ∀ {a : Addr} {H5 H6 : Hp} {L : List (List Int)}, Same H4 H5 → H5 a = none → Same H5 H6 → LAt K [] H6 a (L.map tI) → LAt K [p] H6 a (L.map tI) := fun {a H5 H6 L} s5 na s6 h => by
      obtain ⟨us, hus⟩ := Pen.lst pen4
      refine h.pen (s6 _ _ (s5 _ _ hus)) fun e => ?_
      rw [e, s5 _ _ hus] at na
      cases na
    refine (show (∃ Mid, _) from ?_)
    refine ⟨fun σ H' => ∃ (bq ea : Addr) (bs : List (Int × Int)), σ = [some (.ref p), some (.int (most : Int)), some (.ref wq), some (.int (rs.length : Nat)), some (.ref ra), some (.ref bq), some (.ref ea)] ∧ bs.length = rs.length ∧ BdOk n bs ∧ Same H4 H' ∧ Dq K (wo p H') (.ref bq) (bD bs) ∧ LAt K [p] H' ea ((standL T n rs bs).map tI) ∧ H ea = none, ?_, ?_⟩
    · refine (show tIfS _ _ _ _ [some (.ref p), some (.int (most : Int)), some (.ref wq), some (.int (rs.length : Nat)), some (.ref ra), some (.ref bq), some (.ref ea)] _ from ?_)
      obtain ⟨_, es, eea, hes⟩ := id hE
      refine ⟨_, rfl, ea, _, rfl, .inl (SqL.of eea), _, 2, rfl, rfl, _, rfl, ?_⟩
      refine ite2 (fun _ => ?_) (fun _ => ?_)
      · refine (show tSeq _ _ _ [some (.ref p), some (.int (most : Int)), some (.ref wq), some (.int (rs.length : Nat)), some (.ref ra), some (.ref bq), some (.ref ea)] _ from tSeq_e (tAsg_e ?_))
        have pen5 := Pen.same s5 pen4
        have hWT5 := My.Same.sqt (My.Same.wo (p := p) s5) hWT4
        have hav5 : Avs [p] H5 := fun b hb => by
          rw [List.mem_singleton.mp hb]
          exact Pen.at pen5
        have hW5 := Dq.same (My.Same.wo (p := p) s5) hW
        have hrep := EvQ.repT (K := K) (av := [p]) (H0 := H5) (σ := [some (.ref p), some (.int (most : Int)), some (.ref wq), some (.int (rs.length : Nat)), some (.ref ra), some (.ref bq), some (.ref ea)]) (k := rs.length) hav5 (EvQ.tup hav5 (EvA.cons (EvQ.tup hav5 (EvA.cons (EvQ.c (.int 1)) (EvA.cons (EvQ.idxD (j := 0) (EvQ.var (i := 2) rfl (Dq.same wo_wos hW5)) (EvQ.c (.int 0)) rfl) EvA.nil)) (by simp)) EvA.nil) (by simp)) (EvQ.var (i := 3) rfl (.int (rs.length : Nat))) (by simp) (by simp) k1 (by omega)
        refine hrep H5 (Same.refl _) _ fun bv H6 s6 hbv => ?_
        have ebs : (PyData.tuple (List.replicate rs.length [PyData.tuple [.int 1, .int (n : Int)]]).flatten) = bD (List.replicate rs.length (1, (n : Int))) := by
          have : ∀ k : Nat, (List.replicate k [PyData.tuple [.int 1, .int (n : Int)]]).flatten = ((List.replicate k ((1 : Int), (n : Int))).map prI).map tI := fun k => by
            induction k with
            | zero => rfl
            | succ k ih =>
              rw [List.replicate_succ, List.flatten_cons, ih, List.replicate_succ]
              rfl
          unfold bD
          rw [this]
        rw [ebs] at hbv
        obtain ⟨bq2, bxs, rfl, _, _⟩ := Dq.un_tup hbv
        have hB6 : Dq K (wo p H6) (.ref bq2) (bD (List.replicate rs.length (1, (n : Int)))) := Dq.same (wos_wo hpav) hbv
        dsimp only [gName]
        refine (show tAsg _ _ _ [some (.ref p), some (.int (most : Int)), some (.ref wq), some (.int (rs.length : Nat)), some (.ref ra), some (.ref bq2), some (.ref ea)] _ from tAsg_e ?_)
        have s56 := s5.trans s6
        have hw6 := My.Same.wo (p := p) s56
        refine ⟨_, rfl, _, rfl, _, rfl, .ref wq, ra, .ref bq2, n, T, rs, _, rfl, Dq.same wo_le (Dq.same hw6 hW), hT, n1, by omega, (hra.same hw6).same wo_le, Dq.same wo_le hB6, hrs, by rw [List.length_replicate], k1, by omega, hfew, fun ea2 H7 nea2 s7 hE2 => ?_⟩
        refine ⟨bq2, ea2, _, rfl, by rw [List.length_replicate], fun b hb => ?_, s56.trans s7, Dq.same (My.Same.wo s7) hB6, toP s56 nea2 s7 hE2, fresh s56 nea2⟩
        rw [List.eq_of_mem_replicate hb]
        show (1 : Int) ≤ 1 ∧ (1 : Int) ≤ 1 + n ∧ (1 : Int) ≤ n ∧ (n : Int) ≤ 2000000
        omega
      · exact ⟨bq, ea, bs, rfl, lbs, hbs, s5, Dq.same (My.Same.wo s5) hB, toP (Same.refl _) nea s5 hE, fresh (Same.refl _) nea⟩
    · rintro σ H6 ⟨bq, ea, bs, rfl, lbs, hbs, s6, hB, hE, nea⟩
      refine (show tRet _ _ [some (.ref p), some (.int (most : Int)), some (.ref wq), some (.int (rs.length : Nat)), some (.ref ra), some (.ref bq), some (.ref ea)] _ from ?_)
      refine ⟨_, rfl, _, rfl, _, rfl, _, rfl, by show 4 ≤ sizeLine; decide, fun t ht => ?_⟩
      have pen6 := Pen.same s6 pen4
      have nt := Pen.ne pen6 ht
      have st := My.Same.new (o := HO.tup [V.ref wq, V.ref ra, V.ref bq, V.ref ea]) ht
      have hw := My.Same.wo (p := p) (s6.trans st)
      exact q t wq ra bq ea n T rs bs _ n1 nm hT nd hrs k1 k3 lbs hbs (Pen.upd pen6 nt) (s14.trans hw) (SqT.of ((wo_ne nt.1).trans upd_same)) (Dq.same hw hW) (hra.same hw) (Dq.same (My.Same.wo st) hB) (hE.same0 st) nea
end
end K27

set_option Elab.async false
set_option linter.all false
set_option maxRecDepth 100000
set_option maxHeartbeats 4000000
namespace K27
open PySem PySem.Spec PyProof.Rows L2 My
abbrev s_law_apart : Stmt := topS 41
theorem sc_law_apart : FnScope ["one", "other", "place"] ["one", "other"] (defScope s_law_apart) := ⟨rfl, rfl, rfl, by decide +kernel, rfl, by decide +kernel, by decide +kernel⟩
section
variable {P : Program} {w : World} {K : PySem.W.Frag} {mg : Str → Option Value} {base : Heap}
theorem ok_law_apart {f : Addr} {fd : FuncData} {m : Nat} (F : Fun K "_law_apart" "_law_apart" s_law_apart f fd) (B : Bn mg) : FnOk P w K mg base CX0 (m + 1) f fd ["one", "other"] (spApart K) := by
  refine F.ok sc_law_apart (fun vs H Q E h => ?_) (fun cdv A outer s H vs Q E hr h => ?_)
  · obtain ⟨a, b, zs, r, rfl, _⟩ := h
    rfl
  · obtain ⟨a, b, zs, r, rfl, ha, hb, hl, h100, q⟩ := h
    refine ⟨_, (pss_one (ps_ret (pe_callB (lenQ K) (by rfl) B.len (by decide +kernel) (pa_cons (pe_lc (own := [("place", 2)]) (by rfl) sc_law_apart.nd (pi_range1 (by rfl) B.range (pa_cons (pe_callB (lenQ K) (by rfl) B.len (by decide +kernel) (pa_cons (pv 0) pa_nil)) pa_nil)) (blkOk_by (own := [("place", 2)]) (N := ["one", "other", "place"]) (sc := (defScope s_law_apart)) (by decide +kernel)) (fun _ _ _ _ _ => (pg_name (i := 2) sc_law_apart.nd rfl (.inl rfl))) (fun _ _ _ _ _ => (pts_one (pt_cmpR op_ne (pe_ix (ixT K) (pv 0) (pv 2) (fun _ _ => rfl)) (pe_ix (ixT K) (pv 1) (pv 2) (fun _ _ => rfl)) (nomark _)))) (fun _ _ _ _ _ => (pv 2))) pa_nil)))), ?_⟩
    have hlen := EvQ.lenT (EvQ.var (K := K) (av := []) (H0 := H) (σ := [some a, some b, none]) (i := 0) rfl (Dq.same wo_nil ha))
    rw [List.length_map] at hlen
    have h := EvN.lcR1 (K := K) (av := []) (H0 := H) (σ := [some a, some b, none]) (t := tCB (rLenQ K) (tCons (tVar 0) tNil)) (n := zs.length) (p := fun j => !decide (zs.getD j 0 = r.getD j 0)) (F := fun j => .int (j : Nat)) (vs := [2]) (g := gName 2) (tt := tTest (tOp rNe (tOp (rIxT K) (tVar 0) (tVar 2)) (tOp (rIxT K) (tVar 1) (tVar 2)))) (te := tVar 2) avs_nil hlen (by omega) fun j hj H1 s1 => LcTurn.test (fun _ => rfl) fun x av' H2 hin hav sw hx => by
      cases hx
      have sw2 := wo_nil.trans ((My.Same.wos s1).trans sw)
      have h1 := EvQ.idxT (EvQ.var (K := K) (av := av') (H0 := H2) (σ := [some a, some b, some (.int (j : Int))]) (i := 0) rfl (Dq.same sw2 ha)) (EvQ.var (i := 2) rfl (.int (j : Int))) (by omega) (by omega)
      have h2 := EvQ.idxT (EvQ.var (K := K) (av := av') (H0 := H2) (σ := [some a, some b, some (.int (j : Int))]) (i := 1) rfl (Dq.same sw2 hb)) (EvQ.var (i := 2) rfl (.int (j : Int))) (by omega) (by omega)
      rw [Int.toNat_natCast] at h1 h2
      exact ⟨EvQ.neI h1 h2, fun _ => EvQ.var rfl (.int (j : Int))⟩
    have h3 := EvQ.lenL h.l
    rw [List.length_map] at h3
    refine h3 H (Same.refl _) _ fun x H1 s1 hx => ?_
    cases hx
    exact q H1 s1
end
end K27

set_option Elab.async false
set_option linter.all false
set_option maxRecDepth 100000
set_option maxHeartbeats 4000000
namespace K27
open PySem PySem.Spec PyProof.Rows L2 My
abbrev s_law_put : Stmt := topS 38
theorem sc_law_put : FnScope ["state", "place", "i"] ["state", "place", "i"] (defScope s_law_put) := ⟨rfl, rfl, rfl, by decide +kernel, rfl, by decide +kernel, by decide +kernel⟩
section
variable {P : Program} {w : World} {K : PySem.W.Frag} {mg : Str → Option Value} {base : Heap}
theorem ok_law_put {f : Addr} {fd : FuncData} {m : Nat} (F : Fun K "_law_put" "_law_put" s_law_put f fd) (B : Bn mg) : FnOk P w K mg base CX0 (m + 1) f fd ["state", "place", "i"] (spPut K) := by
  refine F.ok sc_law_put (fun vs H Q E h => ?_) (fun cdv A outer s H vs Q E hr h => ?_)
  · obtain ⟨st, ss, p, i, rfl, _⟩ := h
    rfl
  · obtain ⟨st, ss, p, i, rfl, hS, hp, hl, q⟩ := h
    refine ⟨_, (pss_one (ps_ret (pe_op (catA K) (pe_op (catA K) (pe_slice (slT K) (pv 0) po_none (po_some (pv 1))) (pe_tup (pa_cons (pv 2) pa_nil))) (pe_slice (slT K) (pv 0) (po_some (pe_op op_add (pv 1) pe_int)) po_none)))), ?_⟩
    refine (show tRet _ _ _ _ from tOp_e (tOp_e ?_))
    refine ⟨_, rfl, ?_⟩
    unfold tNoPart
    refine ⟨_, rfl, (p : Int), rfl, ?_⟩
    refine slT_any hS (fun b1 H1 t1 hb1 => ?_)
    rw [cut_take, ← List.map_take] at hb1
    refine ⟨_, rfl, by show 1 ≤ sizeLine; decide, fun b2 hb2 => ?_⟩
    have t2 := t1.trans (My.Same.new (o := HO.tup [V.int i]) hb2)
    refine catI (My.Same.sqt (My.Same.new hb2) hb1) (SqT.of upd_same) (by rw [List.length_map, List.length_take, List.length_cons, List.length_nil]; omega) (fun c H3 t3 hc => ?_)
    have t4 := t2.trans t3
    refine (show tSl _ _ _ _ _ _ _ from ?_)
    refine ⟨_, rfl, _, rfl, (p : Int), 1, rfl, rfl, (p : Int) + 1, rfl, ?_⟩
    refine slT_any (My.Same.sqt t4 hS) (fun b3 H5 t5 hb3 => ?_)
    rw [show (p : Int) + 1 = ((p + 1 : Nat) : Int) from rfl, cut_drop (by rw [List.length_map]; omega)] at hb3
    refine catI (My.Same.sqt t5 hc) hb3 (by rw [List.length_append, List.length_map, List.length_take, List.length_drop, List.length_map, List.length_cons, List.length_nil]; omega) (fun d H6 t6 hd => ?_)
    refine q d H6 (t4.trans (t5.trans t6)) ?_
    have e : (ss.take p).map V.int ++ [V.int i] ++ (ss.map V.int).drop (p + 1) = (ss.set p i).map V.int := by
      rw [← set_cut hp, List.map_append, List.map_append, List.map_drop]
      rfl
    rw [← e]
    exact hd
end
end K27

set_option Elab.async false
set_option linter.all false
set_option maxRecDepth 100000
set_option maxHeartbeats 4000000
namespace K27
open PySem PySem.Spec PyProof.Rows L2 My
abbrev s_law_same : Stmt := topS 22
theorem sc_law_same : FnScope ["found", "due", "one", "other"] ["found", "due"] (defScope s_law_same) := ⟨rfl, rfl, rfl, by decide +kernel, rfl, by decide +kernel, by decide +kernel⟩
section
variable {P : Program} {w : World} {K : PySem.W.Frag} {mg : Str → Option Value} {base : Heap}
theorem ok_same {f : Addr} {fd : FuncData} {n : Nat} (F : Fun K "_law_same" "_law_same" s_law_same f fd) (B : Bn mg) (D_law_same : Own P w K mg base "_law_same" n ["found", "due"] (spSame K n)) : FnOk P w K mg base CX0 (n + 1) f fd ["found", "due"] (spSame K (n + 1)) := by
  refine F.ok sc_law_same (fun vs H Q E h => ?_) (fun cdv A outer s H vs Q E hr h => ?_)
  · obtain ⟨p, m, d, rfl, _⟩ := h
    rfl
  · obtain ⟨x, y, d, rfl, hx, hy, fit, q⟩ := h
    refine ⟨_, (pss_cons (ps_if ((pw_or (pt_cmpR op_isN (pv 1) pe_non (nomark _)) (pw_or1 (pt_cmpR op_isN (pv 0) pe_non (nomark _))))).pt (pss_one (ps_ret (pe_and (pe_cmpR op_isN (pv 1) pe_non (nomark _)) (pe_one (pe_cmpR op_isN (pv 0) pe_non (nomark _)))))) pss_nil)
      (pss_cons (ps_if ((pw_or (pt_val (pe_callB (isi K) (by rfl) B.isinstance (by decide +kernel) (pa_cons (pv 1) (pa_cons (pe_bltn (v := .ty "bool") (by rfl) B.bool_ (by decide +kernel) rfl) pa_nil)))) (pw_or1 (pt_val (pe_callB (isi K) (by rfl) B.isinstance (by decide +kernel) (pa_cons (pv 0) (pa_cons (pe_bltn (v := .ty "bool") (by rfl) B.bool_ (by decide +kernel) rfl) pa_nil))))))).pt (pss_one (ps_ret (pe_and (pe_callB (isi K) (by rfl) B.isinstance (by decide +kernel) (pa_cons (pv 1) (pa_cons (pe_bltn (v := .ty "bool") (by rfl) B.bool_ (by decide +kernel) rfl) pa_nil))) (pe_and (pe_callB (isi K) (by rfl) B.isinstance (by decide +kernel) (pa_cons (pv 0) (pa_cons (pe_bltn (v := .ty "bool") (by rfl) B.bool_ (by decide +kernel) rfl) pa_nil))) (pe_one (pe_cmpR op_eq (pv 0) (pv 1) (nomark _))))))) pss_nil)
      (pss_cons (ps_if (pt_val (pe_callB (isiT K) (by rfl) B.isinstance (by decide +kernel) (pa_cons (pv 1) (pa_cons (pe_tup (pa_cons (pe_bltn (v := .ty "int") (by rfl) B.int_ (by decide +kernel) rfl) (pa_cons (pe_bltn (v := .ty "str") (by rfl) B.str_ (by decide +kernel) rfl) pa_nil))) pa_nil)))) (pss_cons (ps_if (pt_cmpR op_ne (pe_callB (isi K) (by rfl) B.isinstance (by decide +kernel) (pa_cons (pv 0) (pa_cons (pe_bltn (v := .ty "int") (by rfl) B.int_ (by decide +kernel) rfl) pa_nil))) (pe_callB (isi K) (by rfl) B.isinstance (by decide +kernel) (pa_cons (pv 1) (pa_cons (pe_bltn (v := .ty "int") (by rfl) B.int_ (by decide +kernel) rfl) pa_nil))) (nomark _)) (pss_one (ps_ret pe_bl)) pss_nil)
      (pss_one (ps_ret (pe_and (pe_callB (isiT K) (by rfl) B.isinstance (by decide +kernel) (pa_cons (pv 0) (pa_cons (pe_tup (pa_cons (pe_bltn (v := .ty "int") (by rfl) B.int_ (by decide +kernel) rfl) (pa_cons (pe_bltn (v := .ty "str") (by rfl) B.str_ (by decide +kernel) rfl) pa_nil))) pa_nil))) (pe_one (pe_cmpR op_eq (pv 0) (pv 1) (nomark _))))))) pss_nil)
      (pss_cons (ps_if ((pw_or (pt_cmpR op_ne (pe_callB (isi K) (by rfl) B.isinstance (by decide +kernel) (pa_cons (pv 1) (pa_cons (pe_bltn (v := .ty "tuple") (by rfl) B.tuple_ (by decide +kernel) rfl) pa_nil))) (pe_callB (isi K) (by rfl) B.isinstance (by decide +kernel) (pa_cons (pv 0) (pa_cons (pe_bltn (v := .ty "tuple") (by rfl) B.tuple_ (by decide +kernel) rfl) pa_nil))) (nomark _)) (pw_or1 (pt_cmpR op_ne (pe_callB (isi K) (by rfl) B.isinstance (by decide +kernel) (pa_cons (pv 1) (pa_cons (pe_bltn (v := .ty "list") (by rfl) B.list_ (by decide +kernel) rfl) pa_nil))) (pe_callB (isi K) (by rfl) B.isinstance (by decide +kernel) (pa_cons (pv 0) (pa_cons (pe_bltn (v := .ty "list") (by rfl) B.list_ (by decide +kernel) rfl) pa_nil))) (nomark _))))).pt (pss_one (ps_ret pe_bl)) pss_nil)
      (pss_cons (ps_if (pt_cmpR op_ne (pe_callB (lenQ K) (by rfl) B.len (by decide +kernel) (pa_cons (pv 0) pa_nil)) (pe_callB (lenQ K) (by rfl) B.len (by decide +kernel) (pa_cons (pv 1) pa_nil)) (nomark _)) (pss_one (ps_ret pe_bl)) pss_nil)
      (pss_one (ps_ret (pe_cmpR (notInQ K) pe_bl (pe_lc (own := [("one", 2), ("other", 3)]) (by rfl) sc_law_same.nd (pi_zipK K (by rfl) B.zip (pa_cons (pv 0) (pa_cons (pv 1) pa_nil))) (blkOk_by (own := [("one", 2), ("other", 3)]) (N := ["found", "due", "one", "other"]) (sc := (defScope s_law_same)) (by decide +kernel)) (fun _ _ _ _ _ => (pg_tupK K 2 (by rfl) (pgs_cons (pg_name (i := 2) sc_law_same.nd rfl (.inl rfl)) (pgs_cons (pg_name (i := 3) sc_law_same.nd rfl (.inl rfl)) pgs_nil)))) (fun _ _ _ _ _ => pts_nil) (fun _ _ _ _ _ => (pe_own D_law_same hr (by rfl) (pa_cons (pv 2) (pa_cons (pv 3) pa_nil))))) (by rfl))))))))), ?_⟩
    -- if due is None or found is None
    refine ⟨_, rfl, rfl, decide (y = .non), rfl, ?_⟩
    cases d with
    | none =>
      cases hx
      cases hy
      exact iteT (iteT ⟨_, rfl, rfl, true, rfl, iteT ⟨_, rfl, rfl, q H (Same.refl H)⟩⟩)
    | bool b =>
      cases hx
      cases hy
      refine iteFF rfl ⟨_, rfl, rfl, false, rfl, iteF ?_⟩
      refine isiV .bl rfl (kBl b) ⟨true, rfl, ?_⟩
      refine iteT (iteT ?_)
      refine isiV .bl rfl (kBl b) ⟨true, rfl, iteT ?_⟩
      refine isiV .bl rfl (kBl b) ⟨true, rfl, iteT ?_⟩
      refine ⟨_, rfl, _, rfl, rfl, ?_⟩
      rw [decide_eq_true rfl]
      exact q H (Same.refl H)
    | int i =>
      cases hx
      cases hy
      refine iteFF rfl ⟨_, rfl, rfl, false, rfl, iteF ?_⟩
      refine isiV .bl rfl (kInt i) ⟨false, rfl, iteF ?_⟩
      refine isiV .bl rfl (kInt i) ⟨false, rfl, iteF ?_⟩
      refine isiV2 .int .str rfl (kInt i) fun H1 s1 => ⟨true, rfl, iteT ?_⟩
      refine isiV .int rfl (kInt i) ?_
      refine isiV .int rfl (kInt i) ⟨rfl, false, rfl, iteF ?_⟩
      refine isiV2 .int .str rfl (kInt i) fun H2 s2 => ⟨true, rfl, iteT ?_⟩
      refine ⟨_, rfl, _, rfl, rfl, ?_⟩
      rw [decide_eq_true rfl]
      exact q _ (s1.trans s2)
    | str i =>
      cases hx
      cases hy
      refine iteFF rfl ⟨_, rfl, rfl, false, rfl, iteF ?_⟩
      refine isiV .bl rfl (kStr i) ⟨false, rfl, iteF ?_⟩
      refine isiV .bl rfl (kStr i) ⟨false, rfl, iteF ?_⟩
      refine isiV2 .int .str rfl (kStr i) fun H1 s1 => ⟨true, rfl, iteT ?_⟩
      refine isiV .int rfl (kStr i) ?_
      refine isiV .int rfl (kStr i) ⟨rfl, false, rfl, iteF ?_⟩
      refine isiV2 .int .str rfl (kStr i) fun H2 s2 => ⟨true, rfl, iteT ?_⟩
      refine ⟨_, rfl, _, rfl, rfl, ?_⟩
      rw [decide_eq_true rfl]
      exact q _ (s1.trans s2)
    | dict _ => exact fit.elim
    | list ds =>
      obtain ⟨hf, hfit⟩ := fit
      have k1 := Dp.knd hx
      have k2 := Dp.knd hy
      cases hx with
      | @lst a xs _ qa la =>
      cases hy with
      | @lst b ys _ qb lb =>
      refine iteFF rfl ⟨_, rfl, rfl, false, rfl, iteF ?_⟩
      refine isiV .bl rfl k2 ⟨false, rfl, iteF ?_⟩
      refine isiV .bl rfl k1 ⟨false, rfl, iteF ?_⟩
      refine isiV2 .int .str rfl k2 fun H1 s1 => ⟨false, rfl, iteF ?_⟩
      have qa1 := s1.seq qa
      have qb1 := s1.seq qb
      refine isiV .tup rfl (sql_knd qb1) ?_
      refine isiV .tup rfl (sql_knd qa1) ⟨rfl, false, rfl, iteF ?_⟩
      refine isiV .lst rfl (sql_knd qb1) ?_
      refine isiV .lst rfl (sql_knd qa1) ⟨rfl, false, rfl, iteF ?_⟩
      refine ⟨_, rfl, a, xs, rfl, .inl qa1, ?_⟩
      refine ⟨_, rfl, b, ys, rfl, .inl qb1, rfl, false, ?_, iteF ?_⟩
      · rw [My.DpAll.len la, My.DpAll.len lb, decide_eq_true rfl]
        rfl
      refine ⟨_, rfl, _, rfl, a, b, xs, ys, rfl, .inl ⟨qa1, qb1, ?_⟩⟩
      intro D hD
      refine lc_zipL (xs := xs) (ys := ys) (by rw [My.DpAll.len la, My.DpAll.len lb]) (fun i H3 => Same H1 H3 ∧ ∃ bs : List V, H3 D = some (.lst bs) ∧ bs.length = i ∧ ∀ b ∈ bs, b = V.bl true) ?_ ?_ ?_ ?_
      · exact ⟨My.Same.new hD, [], upd_same, rfl, fun b hb => nomatch hb⟩
      · rintro i H3 ⟨sm, _⟩
        exact ⟨sm.seq qa1, sm.seq qb1⟩
      · rintro i u v T H3 eu ev ⟨sm, bs, eD, lD, hbs⟩ hT
        obtain ⟨d1, e1, p1⟩ := My.DpAll.get la eu
        obtain ⟨d2, e2, p2⟩ := My.DpAll.get lb ev
        cases e1.symm.trans e2
        have sT := My.Same.new (o := HO.tup [u, v]) hT
        refine ⟨T, _, rfl, SqT.of upd_same, rfl, _, _, rfl, _, _, rfl, rfl, rfl, ?_⟩
        refine ⟨_, rfl, _, rfl, u, v, d1, rfl, Dp.same (s1.trans (sm.trans sT)) p1, Dp.same (s1.trans (sm.trans sT)) p2, hfit _ (List.mem_of_getElem? e1), fun H4 s4 => ?_⟩
        have hi : i < ds.length := (List.getElem?_eq_some_iff.mp e1).1
        refine ⟨bs, s4 _ _ (sT _ _ eD), smallT (by omega), ?_, bs ++ [V.bl true], upd_same, by rw [List.length_append, lD]; rfl, ?_⟩
        · intro z o e
          have hz : z ≠ D := ne_of_none e hD
          rw [upd_ne hz]
          exact s4 _ _ (sT _ _ (sm _ _ e))
        · intro z hz
          rcases List.mem_append.mp hz with hz | hz
          · exact hbs z hz
          · exact List.mem_singleton.mp hz
      · rintro H3 ⟨sm, bs, eD, lD, hbs⟩
        obtain ⟨i1, i2⟩ := notIn_all 0 bs hbs
        refine ⟨D, bs, rfl, .inl (SqL.of eD), rfl, i2, ?_⟩
        rw [i1]
        exact q H3 (s1.trans sm)
    | tuple ds =>
      obtain ⟨hf, hfit⟩ := fit
      have k1 := Dp.knd hx
      have k2 := Dp.knd hy
      cases hx with
      | @tup a xs _ qa la =>
      cases hy with
      | @tup b ys _ qb lb =>
      refine iteFF rfl ⟨_, rfl, rfl, false, rfl, iteF ?_⟩
      refine isiV .bl rfl k2 ⟨false, rfl, iteF ?_⟩
      refine isiV .bl rfl k1 ⟨false, rfl, iteF ?_⟩
      refine isiV2 .int .str rfl k2 fun H1 s1 => ⟨false, rfl, iteF ?_⟩
      have qa1 := My.Same.sqt s1 qa
      have qb1 := My.Same.sqt s1 qb
      refine isiV .tup rfl (sqt_knd qb1) ?_
      refine isiV .tup rfl (sqt_knd qa1) ⟨rfl, false, rfl, iteF ?_⟩
      refine isiV .lst rfl (sqt_knd qb1) ?_
      refine isiV .lst rfl (sqt_knd qa1) ⟨rfl, false, rfl, iteF ?_⟩
      refine ⟨_, rfl, a, xs, rfl, .inr qa1, ?_⟩
      refine ⟨_, rfl, b, ys, rfl, .inr qb1, rfl, false, ?_, iteF ?_⟩
      · rw [My.DpAll.len la, My.DpAll.len lb, decide_eq_true rfl]
        rfl
      refine ⟨_, rfl, _, rfl, a, b, xs, ys, rfl, .inr ⟨qa1, qb1, ?_⟩⟩
      intro D hD
      refine lc_zipT (xs := xs) (ys := ys) xs.length (by rw [My.DpAll.len la, My.DpAll.len lb]; omega) (fun i H3 => Same H1 H3 ∧ ∃ bs : List V, H3 D = some (.lst bs) ∧ bs.length = i ∧ ∀ b ∈ bs, b = V.bl true) ?_ ?_ ?_ ?_
      · exact ⟨My.Same.new hD, [], upd_same, rfl, fun b hb => nomatch hb⟩
      · rintro i H3 ⟨sm, _⟩
        exact ⟨My.Same.sqt sm qa1, My.Same.sqt sm qb1⟩
      · rintro i u v T H3 eu ev ⟨sm, bs, eD, lD, hbs⟩ hT
        obtain ⟨d1, e1, p1⟩ := My.DpAll.get la eu
        obtain ⟨d2, e2, p2⟩ := My.DpAll.get lb ev
        cases e1.symm.trans e2
        have sT := My.Same.new (o := HO.tup [u, v]) hT
        refine ⟨T, _, rfl, SqT.of upd_same, rfl, _, _, rfl, _, _, rfl, rfl, rfl, ?_⟩
        refine ⟨_, rfl, _, rfl, u, v, d1, rfl, Dp.same (s1.trans (sm.trans sT)) p1, Dp.same (s1.trans (sm.trans sT)) p2, hfit _ (List.mem_of_getElem? e1), fun H4 s4 => ?_⟩
        have hi : i < ds.length := (List.getElem?_eq_some_iff.mp e1).1
        refine ⟨bs, s4 _ _ (sT _ _ eD), smallT (by omega), ?_, bs ++ [V.bl true], upd_same, by rw [List.length_append, lD]; rfl, ?_⟩
        · intro z o e
          have hz : z ≠ D := ne_of_none e hD
          rw [upd_ne hz]
          exact s4 _ _ (sT _ _ (sm _ _ e))
        · intro z hz
          rcases List.mem_append.mp hz with hz | hz
          · exact hbs z hz
          · exact List.mem_singleton.mp hz
      · rintro H3 ⟨sm, bs, eD, lD, hbs⟩
        obtain ⟨i1, i2⟩ := notIn_all 0 bs hbs
        refine ⟨D, bs, rfl, .inl (SqL.of eD), rfl, i2, ?_⟩
        rw [i1]
        exact q H3 (s1.trans sm)
theorem same_all (S : At K mg "_law_same" s_law_same ["found", "due"]) (B : Bn mg) : ∀ n, Own P w K mg base "_law_same" n ["found", "due"] (spSame K n)
  | 0 => S.own fun f fd F => ⟨fun vs H Q E ⟨_, _, _, _, _, _, h, _⟩ => h.elim, fun _ _ _ _ _ _ _ _ _ _ _ _ _ ⟨_, _, _, _, _, _, h, _⟩ => h.elim⟩
  | n + 1 => S.own fun f fd F => ok_same F B (same_all S B n)
end
end K27

set_option Elab.async false
set_option linter.all false
set_option maxRecDepth 100000
set_option maxHeartbeats 4000000
namespace K27
open PySem PySem.Spec PyProof.Rows L2 My
abbrev s_law_odd : Stmt := topS 24
theorem sc_law_odd : FnScope ["pen"] ["pen"] (defScope s_law_odd) := ⟨rfl, rfl, rfl, by decide +kernel, rfl, by decide +kernel, by decide +kernel⟩
section
variable {P : Program} {w : World} {K : PySem.W.Frag} {mg : Str → Option Value} {base : Heap}
theorem ok_odd {f : Addr} {fd : FuncData} {m : Nat} (F : Fun K "_law_odd" "_law_odd" s_law_odd f fd) (B : Bn mg) (D_law_one_of : Own P w K mg base "_law_one_of" m ["pen", "some"] (spOneOf K)) : FnOk P w K mg base CX0 (m + 1) f fd ["pen"] (spOdd K) := by
  refine F.ok sc_law_odd (fun vs H Q E h => ?_) (fun cdv A outer s H vs Q E hr h => ?_)
  · obtain ⟨p, c, n, av, rfl, _⟩ := h
    rfl
  · obtain ⟨p, c, n, av, rfl, pen, hn, hpav, hp, q⟩ := h
    refine ⟨_, (pss_one (ps_ret (pe_own D_law_one_of hr (by rfl) (pa_cons (pv 0) (pa_cons (pe_lst (pa_cons pe_non (pa_cons pe_bl (pa_cons pe_bl (pa_cons pe_int (pa_cons pe_int (pa_cons (pe_un un_neg pe_int) (pa_cons pe_str (pa_cons pe_str (pa_cons (pe_tup pa_nil) (pa_cons (pe_lst pa_nil) (pa_cons pe_dnewK (pa_cons (pe_tup (pa_cons pe_int pa_nil)) (pa_cons (pe_tup (pa_cons pe_int (pa_cons pe_int pa_nil))) (pa_cons (pe_lst (pa_cons (pe_tup pa_nil) pa_nil)) (pa_cons (pe_tup (pa_cons (pe_tup pa_nil) pa_nil)) (pa_cons pe_int (pa_cons (pe_op op_pow pe_int pe_int) pa_nil)))))))))))))))))) pa_nil))))), ?_⟩
    refine ⟨_, rfl, ?_⟩
    refine (EvQ.lst (K := K) hp (EvA.cons (EvQ.c .non) <| EvA.cons (EvQ.c (.bl true)) <| EvA.cons (EvQ.c (.bl false)) <| EvA.cons (EvQ.c (.int 0)) <| EvA.cons (EvQ.c (.int 1)) <| EvA.cons (EvQ.pure (v := .int (-1)) (fun _ _ q => ⟨1, rfl, q⟩) (.int (-1))) <|
      EvA.cons (EvQ.c (.str "")) <| EvA.cons (EvQ.c (.str "a")) <| EvA.cons (EvQ.tup hp EvA.nil (by decide)) <| EvA.cons (EvQ.lst hp EvA.nil (by decide)) <| EvA.cons (EvQ.dict hp) <| EvA.cons (EvQ.tup hp (EvA.cons (EvQ.c (.int 0)) EvA.nil) (by decide)) <|
      EvA.cons (EvQ.tup hp (EvA.cons (EvQ.c (.int 0)) (EvA.cons (EvQ.c (.int 0)) EvA.nil)) (by decide)) <| EvA.cons (EvQ.lst hp (EvA.cons (EvQ.tup hp EvA.nil (by decide)) EvA.nil) (by decide)) <| EvA.cons (EvQ.tup hp (EvA.cons (EvQ.tup hp EvA.nil (by decide)) EvA.nil) (by decide)) <|
      EvA.cons (EvQ.c (.int 99)) <| EvA.cons (EvQ.pure (v := .int (10 ^ 20)) (fun _ _ q => ⟨10, 20, rfl, rfl, ⟨by decide, by decide, by decide⟩, q⟩) (.int (10 ^ 20))) EvA.nil) (by decide)) H (fun _ _ e => e) _ (fun x H1 s1 hx => ?_)
    cases hx with
    | lst hl hxs =>
    have hlen := hxs.len
    refine ⟨p, c, n, _, _, rfl, Pen.same s1 pen, by omega, (wos_wo hpav).seq hl, by rw [hlen]; decide, by rw [hlen]; decide, fun j x H2 ej pen2 s2 => ?_⟩
    obtain ⟨d, hd, hx⟩ := hxs.mem ej
    refine q x d H2 (Dq.same (My.Same.wos_of hpav s2) hx) ?_ pen2 ((My.Same.wo s1).trans s2)
    have i10 : Sm 0 0 (.int (10 ^ 20)) := Sm.int (by decide)
    have nilT : Sm 0 1 (.tuple []) := SmAll.tuple SmAll.nil
    have nilL : Sm 0 1 (.list []) := SmAll.list SmAll.nil
    have i0 : Sm 0 0 (.int 0) := Sm.int (by decide)
    simp only [List.mem_cons, List.not_mem_nil, or_false] at hd
    rcases hd with rfl | rfl | rfl | rfl | rfl | rfl | rfl | rfl | rfl | rfl | rfl | rfl | rfl | rfl | rfl | rfl | rfl
    · exact Sm.none.mono (by decide) (by decide)
    · exact Sm.bool.mono (by decide) (by decide)
    · exact Sm.bool.mono (by decide) (by decide)
    · exact i0.mono (by decide) (by decide)
    · exact (Sm.int (i := 1) (by decide)).mono (by decide) (by decide)
    · exact (Sm.int (i := -1) (by decide)).mono (by decide) (by decide)
    · exact Sm.str0.mono (by decide) (by decide)
    · exact Sm.strA.mono (by decide) (by decide)
    · exact nilT.mono (by decide) (by decide)
    · exact nilL.mono (by decide) (by decide)
    · exact Sm.dict0.mono (by decide) (by decide)
    · exact (SmAll.tuple (SmAll.cons i0 SmAll.nil)).mono (by decide) (by decide)
    · exact (SmAll.tuple (SmAll.cons i0 (SmAll.cons i0 SmAll.nil))).mono (by decide) (by decide)
    · exact (SmAll.list (SmAll.cons nilT SmAll.nil)).mono (by decide) (by decide)
    · exact (SmAll.tuple (SmAll.cons nilT SmAll.nil)).mono (by decide) (by decide)
    · exact (Sm.int (i := 99) (by decide)).mono (by decide) (by decide)
    · exact i10.mono (by decide) (by decide)
end
end K27

set_option Elab.async false
set_option linter.all false
set_option maxRecDepth 100000
set_option maxHeartbeats 4000000
namespace K27
open PySem PySem.Spec PyProof.Rows L2 My
abbrev s_law_bent : Stmt := topS 25
theorem sc_law_bent : FnScope ["pen", "value", "found", "way", "k"] ["pen", "value"] (defScope s_law_bent) := ⟨rfl, rfl, rfl, by decide +kernel, rfl, by decide +kernel, by decide +kernel⟩
section
variable {P : Program} {w : World} {K : PySem.W.Frag} {mg : Str → Option Value} {base : Heap}
theorem ok_bent {f : Addr} {fd : FuncData} {m j : Nat} (F : Fun K "_law_bent" "_law_bent" s_law_bent f fd) (B : Bn mg) (D_law_take : Own P w K mg base "_law_take" m ["pen", "amount"] spTake) (D_law_one_of : Own P w K mg base "_law_one_of" m ["pen", "some"] (spOneOf K)) (D_law_odd : Own P w K mg base "_law_odd" m ["pen"] (spOdd K)) (D_law_bent : Own P w K mg base "_law_bent" m ["pen", "value"] (spBent K j)) : FnOk P w K mg base CX0 (m + 1) f fd ["pen", "value"] (spBent K (j + 1)) := by
  refine F.ok sc_law_bent (fun vs H Q E h => ?_) (fun cdv A outer s H vs Q E hr h => ?_)
  · obtain ⟨p, c, n, W, e, v, d, av, rfl, _⟩ := h
    rfl
  · obtain ⟨p, c, n, W, e, v, d, av, rfl, pen, hn, he, ti, sm, hd, hW, hpav, hav, q⟩ := h
    refine ⟨_, (C8.pss_cut (ps_if ((pw_and (pt_val (pe_callB (isi K) (by rfl) B.isinstance (by decide +kernel) (pa_cons (pv 1) (pa_cons (pe_bltn (v := .ty "int") (by rfl) B.int_ (by decide +kernel) rfl) pa_nil)))) (pw_and1 (pt_cmpR op_gt (pe_own D_law_take hr (by rfl) (pa_cons (pv 0) (pa_cons pe_int pa_nil))) pe_int (nomark _))))).pt (pss_one (ps_ret (pe_own D_law_one_of hr (by rfl) (pa_cons (pv 0) (pa_cons (pe_lst (pa_cons (pe_op op_add (pv 1) pe_int) (pa_cons (pe_op op_sub (pv 1) pe_int) (pa_cons (pe_ifExp (pt_chain op_le op_lt pe_int (pv 1) pe_int) (pe_cmpR op_eq (pv 1) pe_int (nomark _)) (pe_un un_neg (pv 1))) (pa_cons (pe_op op_mul (pv 1) pe_int) pa_nil))))) pa_nil))))) pss_nil)
      (pss_cons (ps_if ((pw_or (pt_not (pt_val (pe_callB (isiT K) (by rfl) B.isinstance (by decide +kernel) (pa_cons (pv 1) (pa_cons (pe_tup (pa_cons (pe_bltn (v := .ty "tuple") (by rfl) B.tuple_ (by decide +kernel) rfl) (pa_cons (pe_bltn (v := .ty "list") (by rfl) B.list_ (by decide +kernel) rfl) pa_nil))) pa_nil))))) (pw_or (pt_cmpR op_eq (pe_callB (lenQ K) (by rfl) B.len (by decide +kernel) (pa_cons (pv 1) pa_nil)) pe_int (nomark _)) (pw_or1 (pt_cmpR op_eq (pe_own D_law_take hr (by rfl) (pa_cons (pv 0) (pa_cons pe_int pa_nil))) pe_int (nomark _)))))).pt (pss_one (ps_ret (pe_own D_law_odd hr (by rfl) (pa_cons (pv 0) pa_nil)))) pss_nil)
      (pss_cons (ps_par3 (i := 2) (j := 3) (l := 4) (by rfl) sc_law_bent.nd rfl rfl rfl (by decide) (by decide) (by decide) rfl rfl rfl (pa_cons (pe_callTy (listOf K) (by rfl) B.list_ (by decide +kernel) (pa_cons (pv 1) pa_nil)) (pa_cons (pe_own D_law_take hr (by rfl) (pa_cons (pv 0) (pa_cons pe_int pa_nil))) (pa_cons (pe_own D_law_take hr (by rfl) (pa_cons (pv 0) (pa_cons (pe_callB (lenQ K) (by rfl) B.len (by decide +kernel) (pa_cons (pv 1) pa_nil)) pa_nil))) pa_nil))) (by rfl))
      (C8.pss_cut (ps_if (pt_cmpR op_lt (pv 3) pe_int (nomark _)) (pss_one (ps_asg (pe_own D_law_bent hr (by rfl) (pa_cons (pv 0) (pa_cons (pe_ix (ixL K) (pv 2) (pv 4) (fun _ _ => rfl)) pa_nil))) (pg_sub (pv 2) (pv 4) set_list))) (pss_one (ps_set (i := 2) sc_law_bent.nd rfl (.inl rfl) (pe_ix (ixL K) (pe_lst (pa_cons (pe_op op_cat (pe_slice (slL K) (pv 2) po_none (po_some (pv 4))) (pe_slice (slL K) (pv 2) (po_some (pe_op op_add (pv 4) pe_int)) po_none)) (pa_cons (pe_op op_cat (pv 2) (pe_slice (slL K) (pv 2) (po_some (pv 4)) (po_some (pe_op op_add (pv 4) pe_int)))) (pa_cons (pe_revL (pv 2)) pa_nil)))) (pe_op op_sub (pv 3) pe_int) (fun _ _ => rfl)))))
      (pss_one (ps_ret (pe_ifExp (pt_cmpR op_eq (pe_callB (isi K) (by rfl) B.isinstance (by decide +kernel) (pa_cons (pv 1) (pa_cons (pe_bltn (v := .ty "tuple") (by rfl) B.tuple_ (by decide +kernel) rfl) pa_nil))) (pe_cmpR op_gt (pe_own D_law_take hr (by rfl) (pa_cons (pv 0) (pa_cons pe_int pa_nil))) pe_int (nomark _)) (nomark _)) (pe_callTy (tupleOf K) (by rfl) B.tuple_ (by decide +kernel) (pa_cons (pv 2) pa_nil)) (pv 2)))))))), ?_⟩
    -- whatever comes, _law_odd may answer
    have odd : ∀ (H1 : Hp) (j : Nat), Pen H1 p c j → j ≤ n + 5 → Same (wo p H) (wo p H1) → spOdd K [.ref p] H1 Q E0 := fun H1 j pen1 hj s1 =>
      ⟨p, c, j, av, rfl, pen1, by omega, hpav, hav.of s1 (Pen.at pen1), fun x d1 H2 hx sm1 pen2 s2 => q x d1 H2 hx (sm1.mono (by omega) (by omega)) (pen2.mono (by omega)) (s1.trans s2)⟩
    have cs : (∃ i : Int, d = .int i ∧ i.natAbs ≤ 1000000) ∨ ∃ e1 ds, e = e1 + 1 ∧ d = .tuple ds ∧ ∀ x ∈ ds, Ti e1 x := by
      cases e with
      | zero => exact .inl ti
      | succ e1 =>
        rcases ti with t | ⟨ds, e2, h⟩
        · exact .inl t
        · exact .inr ⟨e1, ds, rfl, e2, h⟩
    clear ti
    refine ⟨fun σ1 H1 => σ1 = L2.start ["pen", "value", "found", "way", "k"] [V.ref p, v] ∧ Pen H1 p c (n + 1) ∧ Same (wo p H) (wo p H1), ?_, ?_⟩
    · -- isinstance(value, int) and ..
      rcases cs with ⟨i, rfl, hi⟩ | ⟨e1, ds, rfl, rfl, hds⟩
      · cases hd
        refine isiV .int rfl (kInt i) ⟨_, rfl, ?_⟩
        refine ⟨_, rfl, p, c, 4, n, rfl, pen, by omega, by decide, by decide, fun r H1 r0 r1 pen1 s1 => ⟨r, 0, rfl, rfl, _, rfl, ?_⟩⟩
        dsimp only
        split
        · refine ⟨_, rfl, ?_⟩
          have hp1 := hav.of s1 (Pen.at pen1)
          have third : ∃ d3, Sm 0 0 d3 ∧ EvQ K av H1 (L2.start ["pen", "value", "found", "way", "k"] [V.ref p, V.int i]) (tIf
                        (tTest
                          (tChain (rI0 fun i j => V.bl (decide (i ≤ j))) (rI0 fun i j => V.bl (decide (i < j)))
                            (tC (V.int 0)) (tVar 1) (tC (V.int 2))))
                        (tOp rEq (tVar 1) (tC (V.int 1))) (tUn (rU fun i => V.int (-i)) (tVar 1))) d3 := by
            by_cases h0 : (0 : Int) ≤ i
            · by_cases h1 : i < 2
              · refine ⟨_, Sm.bool, EvQ.pure (v := .bl (decide (V.int i = V.int 1))) (fun H2 Q2 q2 => ?_) (.bl _)⟩
                refine ⟨_, rfl, 0, i, rfl, rfl, _, rfl, ?_⟩
                rw [if_pos (decide_eq_true h0)]
                refine ⟨i, 2, rfl, rfl, _, rfl, ?_⟩
                dsimp only
                rw [if_pos (decide_eq_true h1)]
                exact ⟨_, rfl, rfl, q2⟩
              · refine ⟨_, Sm.int (i := -i) (by omega), EvQ.pure (v := .int (-i)) (fun H2 Q2 q2 => ?_) (.int _)⟩
                refine ⟨_, rfl, 0, i, rfl, rfl, _, rfl, ?_⟩
                rw [if_pos (decide_eq_true h0)]
                refine ⟨i, 2, rfl, rfl, _, rfl, ?_⟩
                dsimp only
                rw [if_neg (fun z => h1 (of_decide_eq_true z))]
                exact ⟨_, rfl, _, rfl, q2⟩
            · refine ⟨_, Sm.int (i := -i) (by omega), EvQ.pure (v := .int (-i)) (fun H2 Q2 q2 => ?_) (.int _)⟩
              refine ⟨_, rfl, 0, i, rfl, rfl, _, rfl, ?_⟩
              rw [if_neg (fun z => h0 (of_decide_eq_true z))]
              refine ⟨_, rfl, ?_⟩
              exact ⟨_, rfl, _, rfl, q2⟩
          obtain ⟨d3, sm3, ev3⟩ := third
          refine (EvQ.lst (K := K) hp1 (EvA.cons (EvQ.pure (v := .int (i + 1)) (fun _ _ q => ⟨_, rfl, _, _, rfl, rfl, q⟩) (.int (i + 1))) <| EvA.cons (EvQ.pure (v := .int (i - 1)) (fun _ _ q => ⟨_, rfl, _, _, rfl, rfl, q⟩) (.int (i - 1))) <|
            EvA.cons ev3 <| EvA.cons (EvQ.pure (v := .int (i * 1000)) (fun _ _ q => ⟨_, rfl, _, _, rfl, rfl, .inr (by decide), q⟩) (.int (i * 1000))) EvA.nil) (by simp)) H1 (fun _ _ e => e) _ (fun x H2 s2 hx => ?_)
          cases hx with
          | lst hl hxs =>
          have hlen := hxs.len
          refine ⟨p, c, n + 1, _, _, rfl, Pen.same s2 pen1, by omega, (wos_wo hpav).seq hl, by rw [hlen]; simp, by rw [hlen]; simp, fun j x H3 ej pen3 s3 => ?_⟩
          obtain ⟨d', hd', hx'⟩ := hxs.mem ej
          refine q x d' H3 (Dq.same (My.Same.wos_of hpav s3) hx') ?_ (pen3.mono (by omega)) ((s1.trans (My.Same.wo s2)).trans s3)
          simp only [List.mem_cons, List.not_mem_nil, or_false] at hd'
          rcases hd' with rfl | rfl | rfl | rfl
          · exact (Sm.int (by omega)).mono (by omega) (by omega)
          · exact (Sm.int (by omega)).mono (by omega) (by omega)
          · exact sm3.mono (by omega) (by omega)
          · exact (Sm.int (by omega)).mono (by omega) (by omega)
        · exact ⟨rfl, pen1, s1⟩
      · cases hd with
        | tup hT hxs =>
        exact isiV .int rfl (sqt_knd (My.Same.sqt wos_le hT)) ⟨_, rfl, rfl, pen.mono (by omega), fun _ _ e => e⟩
    rintro σ1 H1 ⟨rfl, pen1, s1⟩
    rcases cs with ⟨i, rfl, hi⟩ | ⟨e1, ds, rfl, rfl, hds⟩
    · cases hd
      refine isiV2 .tup .lst rfl (kInt i) (fun H2 s2 => ⟨_, rfl, ?_⟩)
      exact ⟨_, rfl, odd H2 (n + 1) (Pen.same s2 pen1) (by omega) (s1.trans (My.Same.wo s2))⟩
    cases hd with
    | tup hT hxs =>
    rename_i a xs
    have hlen := hxs.len
    have smI := Sm.items sm
    have hW2 : xs.length ≤ W := by
      rw [hlen]
      exact smI.len
    refine isiV2 .tup .lst rfl (sqt_knd (My.Same.sqt wos_le (My.Same.sqt (My.Same.wos_of hpav s1) hT))) (fun H2 s2 => ⟨_, rfl, ?_⟩)
    have pen2 := Pen.same s2 pen1
    have s2 := s1.trans (My.Same.wo s2)
    clear pen1 s1
    refine ⟨_, rfl, a, xs, rfl, .inr (My.Same.sqt wos_le (My.Same.sqt (My.Same.wos_of hpav s2) hT)), rfl, _, rfl, ?_⟩
    dsimp only
    split
    · exact ⟨_, rfl, odd H2 (n + 1) pen2 (by omega) s2⟩
    rename_i hne
    have hne : 0 < xs.length := by
      have := dIntN hne
      omega
    refine ⟨_, rfl, p, c, 8, n + 1, rfl, pen2, by omega, by decide, by decide, fun r H3 r0 r1 pen3 s3 => ⟨rfl, _, rfl, ?_⟩⟩
    have s3 := s2.trans s3
    clear pen2 s2
    dsimp only
    split
    · exact ⟨_, rfl, odd H3 (n + 2) pen3 (by omega) s3⟩
    -- found, way, k
    refine ⟨_, rfl, a, xs, rfl, .inr (My.Same.sqt wos_le (My.Same.sqt (My.Same.wos_of hpav s3) hT)), fun fa hfa => ?_⟩
    dsimp only
    have nfa := Pen.ne pen3 hfa
    have fav : fa ∉ av := (hav.of s3 (Pen.at pen3)).fresh hfa
    have ffa : wo p H fa = none := s3.free (wo_none hfa)
    have pen4 := Pen.upd (o := HO.lst xs) pen3 nfa
    have s4 := s3.trans (My.Same.wo (My.Same.new (o := HO.lst xs) hfa))
    have efa : wo p (upd H3 fa (.lst xs)) fa = some (.lst xs) := (wo_ne nfa.1).trans upd_same
    generalize upd H3 fa (.lst xs) = H4 at pen4 s4 efa ⊢
    refine ⟨_, rfl, p, c, 10, n + 2, rfl, pen4, by omega, by decide, by decide, fun way H5 w0 w1 pen5 s5 => ?_⟩
    have efa := s5 _ _ efa
    have s5 := s4.trans s5
    refine ⟨_, rfl, _, rfl, a, xs, rfl, .inr (My.Same.sqt wos_le (My.Same.sqt (My.Same.wos_of hpav s5) hT)), p, c, (xs.length : Int), n + 3, rfl, pen5, by omega, by omega, by omega, fun k H6 k0 k1 pen6 s6 => ?_⟩
    have efa := s6 _ _ efa
    have efa := (wo_some efa).2
    have s6 := s5.trans s6
    have hav6 := hav.of s6 (Pen.at pen6)
    refine ⟨_, _, _, rfl, ?_⟩
    clear pen3 pen4 pen5 s3 s4 s5 hfa
    have hmul : (e1 + 3) * W = (e1 + 2) * W + W := Nat.succ_mul ..
    have hmul2 : 2 * W ≤ (e1 + 3) * W := Nat.mul_le_mul_right W (by omega)
    refine ⟨fun σ1 H1 => ∃ (w' k' : V) (fb : Addr) (ys : List V) (es : List PyData), σ1 = [some (.ref p), some (.ref a), some (.ref fb), some w', some k'] ∧ Pen H1 p c (n + 4 + 10 * (e1 + 1)) ∧ Same (wo p H) (wo p H1) ∧ SqL K (wos av H1) fb ys ∧ DqAll K (wos av H1) ys es ∧ SmAll ((e1 + 3) * W + 2) (e1 + 3) es, ?_, ?_⟩
    · refine ⟨_, rfl, way, 7, rfl, rfl, _, rfl, ?_⟩
      dsimp only
      split
      · -- found[k] = _law_bent(pen, found[k])
        obtain ⟨xk, ek, hk⟩ := at_get (xs := xs) k0 k1
        obtain ⟨dk, hdk, hxk⟩ := hxs.mem ek
        have hav7 : Avs (fa :: av) H6 := fun b hb => by
          rcases List.mem_cons.mp hb with rfl | hb
          · exact ⟨_, efa⟩
          · exact hav6 b hb
        refine ⟨_, rfl, _, rfl, _, rfl, fa, xs, k, xk, rfl, rfl, SqL.of efa, hk, p, c, n + 4, W, e1, xk, dk, fa :: av, rfl, pen6, by omega, by omega, hds dk hdk, smI.mem hdk, Dq.same (wos_more hpav ffa s6) hxk, hW, List.mem_cons_of_mem _ hpav, hav7, fun x d' H7 hx smx pen7 sx => ?_⟩
        have efa7 := (wo_some (sx _ _ ((wo_ne nfa.1).trans efa))).2
        have s8 := wo_updD (o := HO.lst (xs.set k.toNat x)) (s6.trans sx) ffa
        refine ⟨_, rfl, _, rfl, fa, xs, k, k.toNat, rfl, rfl, efa7, by unfold ixN; rw [if_pos k0, if_pos k1], ?_⟩
        refine ⟨_, _, fa, _, ds.set k.toNat d', rfl, Pen.upd (pen7.mono (by omega)) nfa, s8, SqL.of ((wos_in fav).trans upd_same), DqAll.set _ (DqAll.same (My.Same.wos_of hpav s8) hxs) (Dq.same wos_updD hx), ?_⟩
        exact (SmAll.set k.toNat (smI.mono (Nat.le_refl W) (Nat.le_add_right e1 3)) smx).mono (by omega) (Nat.le_refl _)
      · -- found = [..][way - 7]
        rename_i hway
        have hway : ¬ way < 7 := fun z => hway (decide_eq_true z)
        obtain ⟨a1, ha1, sa1⟩ := DqAll.cut none (some k) hxs smI
        obtain ⟨a2, ha2, sa2⟩ := DqAll.cut (some (k + 1)) none hxs smI
        obtain ⟨a3, ha3, sa3⟩ := DqAll.cut (some k) (some (k + 1)) hxs smI
        have l1 := cutV_length xs none (some k)
        have l2 := cutV_length xs (some (k + 1)) none
        have l3 := cutV_length xs (some k) (some (k + 1))
        have sz : ∀ z : Nat, z ≤ 2000 → z ≤ sizeLine := fun z hz => by
          rw [sizeLine_eq]
          omega
        have sw := My.Same.wos_of hpav s6
        refine tAsg_op ?_
        refine (EvQ.lst (K := K) hav6 (EvA.cons (d := .list (a1 ++ a2)) (fun H7 s7 Q7 q7 => ?_) <| EvA.cons (d := .list (ds ++ a3)) (fun H7 s7 Q7 q7 => ?_) <| EvA.cons (d := .list ds.reverse) (fun H7 s7 Q7 q7 => ?_) EvA.nil) (by simp)) H6 (fun _ _ e => e) _ (fun x H7 s7 hx => ?_)
        · have eF := s7 _ _ efa
          refine ⟨_, rfl, _, rfl, k, rfl, fa, xs, rfl, SqL.of eF, fun q1 h1 => ?_⟩
          have t1 := My.Same.new (o := HO.lst (cutV xs none (some k))) h1
          refine ⟨_, rfl, _, rfl, k, 1, rfl, rfl, k + 1, rfl, fa, xs, rfl, SqL.of (t1 _ _ eF), fun q2 h2 => ?_⟩
          have t2 := My.Same.new (o := HO.lst (cutV xs (some (k + 1)) none)) h2
          refine ⟨q1, q2, _, _, rfl, rfl, t2 _ _ upd_same, upd_same, sz _ (by omega), fun q3 h3 => ?_⟩
          have t3 := My.Same.new (o := HO.lst (cutV xs none (some k) ++ cutV xs (some (k + 1)) none)) h3
          have tt := t1.trans (t2.trans t3)
          have n3 := (hav6.same (s7.trans (t1.trans t2))).fresh h3
          exact q7 _ _ tt (.lst (SqL.of ((wos_in n3).trans upd_same)) (DqAll.same (sw.trans (My.Same.wos (s7.trans tt))) (DqAll.append ha1 ha2)))
        · have eF := s7 _ _ efa
          refine ⟨_, rfl, _, rfl, _, rfl, k, rfl, _, rfl, k, 1, rfl, rfl, k + 1, rfl, fa, xs, rfl, SqL.of eF, fun q2 h2 => ?_⟩
          have t2 := My.Same.new (o := HO.lst (cutV xs (some k) (some (k + 1)))) h2
          refine ⟨fa, q2, xs, _, rfl, rfl, t2 _ _ eF, upd_same, sz _ (by omega), fun q3 h3 => ?_⟩
          have t3 := My.Same.new (o := HO.lst (xs ++ cutV xs (some k) (some (k + 1)))) h3
          have tt := t2.trans t3
          have n3 := (hav6.same (s7.trans t2)).fresh h3
          exact q7 _ _ tt (.lst (SqL.of ((wos_in n3).trans upd_same)) (DqAll.same (sw.trans (My.Same.wos (s7.trans tt))) (DqAll.append hxs ha3)))
        · have eF := s7 _ _ efa
          refine ⟨_, rfl, fa, xs, rfl, SqL.of eF, fun q3 h3 => ?_⟩
          have t3 := My.Same.new (o := HO.lst xs.reverse) h3
          have n3 := (hav6.same s7).fresh h3
          exact q7 _ _ t3 (.lst (SqL.of ((wos_in n3).trans upd_same)) (DqAll.same (sw.trans (My.Same.wos (s7.trans t3))) (DqAll.reverse hxs)))
        · cases hx with
          | lst hl3 hxs3 =>
          have hlen3 := hxs3.len
          simp only [List.length_cons, List.length_nil] at hlen3
          obtain ⟨x', ex', hx'⟩ := at_get (i := way - 7) (by omega) (by rw [hlen3]; omega)
          obtain ⟨dx, hdx, hxx⟩ := hxs3.mem ex'
          obtain ⟨es, rfl, smes⟩ : ∃ es, dx = .list es ∧ SmAll (W + W) e1 es := by
            simp only [List.mem_cons, List.not_mem_nil, or_false] at hdx
            rcases hdx with rfl | rfl | rfl
            · exact ⟨_, rfl, SmAll.append sa1 sa2⟩
            · exact ⟨_, rfl, SmAll.append smI sa3⟩
            · exact ⟨_, rfl, (SmAll.reverse smI).mono (by omega) (Nat.le_refl _)⟩
          cases hxx with
          | lst hl4 hxs4 =>
          refine ⟨_, rfl, way, 7, rfl, rfl, _, _, way - 7, _, rfl, rfl, wos_le.seq hl3, hx', ?_⟩
          exact ⟨_, _, _, _, es, rfl, (Pen.same s7 pen6).mono (by omega), s6.trans (My.Same.wo s7), hl4, hxs4, smes.mono (by omega) (by omega)⟩
    · -- return
      rintro σ1 H1 ⟨w', k', fb, ys, es, rfl, penR, sR, hl, hys, smes⟩
      refine isiV .tup rfl (sqt_knd (My.Same.sqt wos_le (My.Same.sqt (My.Same.wos_of hpav sR) hT))) ?_
      refine ⟨_, rfl, p, c, 12, _, rfl, penR, by omega, by decide, by decide, fun r2 H8 r20 r21 pen8 s8 => ⟨r2, 0, rfl, rfl, rfl, _, rfl, ?_⟩⟩
      have sw := My.Same.wos_of hpav s8
      have hav8 := hav.of (sR.trans s8) (Pen.at pen8)
      have hyl := hys.len
      dsimp only
      split
      · refine ⟨_, rfl, fb, ys, rfl, .inl ⟨wos_le.seq (sw.seq hl), fun l hl2 => ?_⟩⟩
        have t1 := My.Same.new (o := HO.tup ys) hl2
        have n1 := hav8.fresh hl2
        exact q _ _ _ (.tup (SqT.of ((wos_in n1).trans upd_same)) (DqAll.same (sw.trans (My.Same.wos t1)) hys)) (SmAll.tuple smes) ((Pen.same t1 pen8).mono (by omega)) ((sR.trans s8).trans (My.Same.wo t1))
      · exact ⟨_, rfl, q _ _ _ (.lst (sw.seq hl) (DqAll.same sw hys)) (SmAll.list smes) (pen8.mono (by omega)) (sR.trans s8)⟩
end
end K27

set_option Elab.async false
set_option linter.all false
set_option maxRecDepth 100000
set_option maxHeartbeats 0
namespace K27
open PySem PySem.Spec PyProof.Rows L2 My
def spLaw (K : PySem.W.Frag) : Sp := fun vs H Q _ => ∃ (a : Addr) (ns : List Int), vs = [.ref a] ∧ SqL K H a (ns.map V.int) ∧ ns.length ≤ 63 ∧ ∀ H', Q (.bl true) H'
abbrev s_law : Stmt := topS 44
theorem sc_law : FnScope ["script", "pen", "again", "far", "standing", "base", "values", "value", "web", "roots", "bounds", "every", "text", "k", "due", "shown", "turn", "other", "place", "i"] ["script"] (defScope s_law) := ⟨rfl, rfl, rfl, by decide +kernel, rfl, by decide +kernel, by decide +kernel⟩
section
variable {P : Program} {w : World} {K : PySem.W.Frag} {mg : Str → Option Value} {base : Heap}
theorem ok_law {f : Addr} {fd : FuncData} {m : Nat} (F : Fun K "law" "law" s_law f fd) (B : Bn mg) (D_law_open : Own P w K mg base "_law_open" m ["script"] (spOpen K)) (D_law_take : Own P w K mg base "_law_take" m ["pen", "amount"] spTake)
    (D_law_same : Own P w K mg base "_law_same" m ["found", "due"] (spSame K 4)) (D_law_one_of : Own P w K mg base "_law_one_of" m ["pen", "some"] (spOneOf K)) (D_law_odd : Own P w K mg base "_law_odd" m ["pen"] (spOdd K)) (D_law_bent : Own P w K mg base "_law_bent" m ["pen", "value"] (spBent K 3))
    (D_law_draw_scene : Own P w K mg base "_law_draw_scene" m ["pen", "most"] (spScene K)) (D_standings : Own P w K mg base "standings" m ["web", "roots", "bounds"] (spStandings K)) (D_is_standing : Own P w K mg base "is_standing" m ["web", "roots", "bounds", "value"] (spStanding K))
    (D_law_is_standing : Own P w K mg base "_law_is_standing" m ["web", "roots", "bounds", "value"] (spStanding K)) (D_law_apart : Own P w K mg base "_law_apart" m ["one", "other"] (spApart K)) (D_moves_of : Own P w K mg base "moves_of" m ["web", "roots", "bounds", "standing"] (spMoves K)) (D_law_put : Own P w K mg base "_law_put" m ["state", "place", "i"] (spPut K)) :
    FnG P w K mg base (m + 1) f fd ["script"] (spLaw K) := by
  refine okG F sc_law (fun vs H Q E h => ?_) (fun cdv A outer s H vs Q E gA hr h => ?_)
  · obtain ⟨n, k, rfl, _⟩ := h
    rfl
  · obtain ⟨sa, ns, rfl, hS, hlen, q⟩ := h
    refine ⟨_, (pss_cons (ps_set (i := 1) sc_law.nd rfl (.inr rfl) (pe_own D_law_open hr (by rfl) (pa_cons (pv 0) pa_nil)))
      (pss_cons (ps_for PassesOwn.never rfl (pi_range1 (by rfl) B.range (pa_cons pe_int pa_nil)) (pg_name (i := 2) sc_law.nd rfl (.inl rfl)) (pss_cons (ps_asg (pe_own D_law_draw_scene hr (by rfl) (pa_cons (pv 1) (pa_cons (pe_own D_law_one_of hr (by rfl) (pa_cons (pv 1) (pa_cons (pe_lst (pa_cons pe_int (pa_cons pe_int (pa_cons pe_int pa_nil)))) pa_nil))) pa_nil))) (pg_tupK K 4 (by rfl) (pgs_cons (pg_name (i := 8) sc_law.nd rfl (.inr rfl)) (pgs_cons (pg_name (i := 9) sc_law.nd rfl (.inl rfl)) (pgs_cons (pg_name (i := 10) sc_law.nd rfl (.inl rfl)) (pgs_cons (pg_name (i := 11) sc_law.nd rfl (.inr rfl)) pgs_nil))))))
      (pss_cons (ps_asg (pe_tup (pa_cons (pe_callB (call_reprD K gA hr.units) (by rfl) B.repr (by decide +kernel) (pa_cons (pe_tup (pa_cons (pv 8) (pa_cons (pv 9) (pa_cons (pv 10) pa_nil)))) pa_nil)) (pa_cons (pe_callB (lenQ K) (by rfl) B.len (by decide +kernel) (pa_cons (pv 9) pa_nil)) pa_nil))) (pg_tupK K 2 (by rfl) (pgs_cons (pg_name (i := 12) sc_law.nd rfl (.inl rfl)) (pgs_cons (pg_name (i := 13) sc_law.nd rfl (.inr rfl)) pgs_nil))))
      (pss_cons (ps_set (i := 3) sc_law.nd rfl (.inl rfl) (pe_op (catA K) (pe_slice (slT K) (pv 10) po_none (po_some (pe_op op_sub (pv 13) pe_int))) (pe_tup (pa_cons (pe_tup (pa_cons (pe_op op_add (pe_ix (ixT K) (pv 8) pe_int (fun _ _ => rfl)) pe_int) (pa_cons (pe_op op_add (pe_ix (ixT K) (pv 8) pe_int (fun _ _ => rfl)) pe_int) pa_nil))) pa_nil))))
      (pss_cons (ps_if ((pw_or (pt_cmpR (neD K hr.units) (pe_own D_standings hr (by rfl) (pa_cons (pv 8) (pa_cons (pv 9) (pa_cons (pv 3) pa_nil)))) (pe_lst pa_nil) (nomark _)) (pw_or1 ((pw_and (pt_cmpR (neD K hr.units) (pv 11) (pe_lst pa_nil) (nomark _)) (pw_and1 (pt_cmpR L2.op_isnot_bl (pe_own D_is_standing hr (by rfl) (pa_cons (pv 8) (pa_cons (pv 9) (pa_cons (pv 3) (pa_cons (pe_ix (ixL K) (pv 11) pe_int (fun _ _ => rfl)) pa_nil))))) pe_bl (nomark _))))).pt))).pt (pss_one (ps_ret pe_bl)) pss_nil)
      (pss_cons (ps_expr (pe_bm0K K PySem.F.plainAttrs_list PySem.F.slot_list_clear PySem.F.type_list_clear mt_clear (pe_own D_standings hr (by rfl) (pa_cons (pv 8) (pa_cons (pv 9) (pa_cons (pv 10) pa_nil))))))
      (pss_cons (ps_if (pt_not (pt_val (pe_own D_law_same hr (by rfl) (pa_cons (pe_own D_standings hr (by rfl) (pa_cons (pv 8) (pa_cons (pv 9) (pa_cons (pv 10) pa_nil)))) (pa_cons (pv 11) pa_nil))))) (pss_one (ps_ret pe_bl)) pss_nil)
      (pss_cons (ps_for PassesOwn.never rfl (pi_listK K (pe_lc (own := [("turn", 16)]) (by rfl) sc_law.nd (pi_range1 (by rfl) B.range (pa_cons (pe_op op_mul pe_int (pe_callTy call_int1 (by rfl) B.int_ (by decide +kernel) (pa_cons (pe_cmpR (neD K hr.units) (pv 11) (pe_lst pa_nil) (nomark _)) pa_nil))) pa_nil)) (blkOk_by (own := [("turn", 16)]) (N := ["script", "pen", "again", "far", "standing", "base", "values", "value", "web", "roots", "bounds", "every", "text", "k", "due", "shown", "turn", "other", "place", "i"]) (sc := (defScope s_law)) (by decide +kernel)) (fun _ _ _ _ _ => (pg_name (i := 16) sc_law.nd rfl (.inl rfl))) (fun _ _ _ _ _ => pts_nil) (fun _ _ _ _ _ => (pe_own D_law_one_of hr (by rfl) (pa_cons (pv 1) (pa_cons (pv 11) pa_nil)))))) (pg_name (i := 4) sc_law.nd rfl (.inr rfl)) (pss_cons (ps_setLc (i := 14) (own := [("other", 17)]) rfl sc_law.nd rfl rfl (sw_true rfl rfl rfl (by decide +kernel)) (pi_listK K (pv 11)) (blkOk_by (own := [("other", 17)]) (N := ["script", "pen", "again", "far", "standing", "base", "values", "value", "web", "roots", "bounds", "every", "text", "k", "due", "shown", "turn", "other", "place", "i"]) (sc := (defScope s_law)) (by decide +kernel)) (fun _ _ _ _ _ => (pg_name (i := 17) sc_law.nd rfl (.inl rfl))) (fun _ _ _ _ _ => (pts_one (pt_cmpR op_eq (pe_own D_law_apart hr (by rfl) (pa_cons (pv 4) (pa_cons (pv 17) pa_nil))) pe_int (nomark _)))) (fun _ _ _ _ _ => (pv 17)))
      (pss_cons (ps_expr (pe_bmK K PySem.F.plainAttrs_list PySem.F.slot_list_append PySem.F.type_list_append mt_append (pe_own D_moves_of hr (by rfl) (pa_cons (pv 8) (pa_cons (pv 9) (pa_cons (pv 10) (pa_cons (pv 4) pa_nil))))) (pa_cons pe_non pa_nil)))
      (pss_one (ps_if (pt_not (pt_val (pe_own D_law_same hr (by rfl) (pa_cons (pe_own D_moves_of hr (by rfl) (pa_cons (pv 8) (pa_cons (pv 9) (pa_cons (pv 10) (pa_cons (pv 4) pa_nil))))) (pa_cons (pv 14) pa_nil))))) (pss_one (ps_ret pe_bl)) pss_nil)))))
      (pss_cons (ps_set (i := 5) sc_law.nd rfl (.inr rfl) (pe_ifExp (pt_cmpR (neD K hr.units) (pv 11) (pe_lst pa_nil) (nomark _)) (pe_own D_law_one_of hr (by rfl) (pa_cons (pv 1) (pa_cons (pv 11) pa_nil))) (pe_callTy (tupleOf K) (by rfl) B.tuple_ (by decide +kernel) (pa_cons (pe_lc (own := [("place", 18)]) (by rfl) sc_law.nd (pi_range1 (by rfl) B.range (pa_cons (pe_ix (ixT K) (pv 8) pe_int (fun _ _ => rfl)) pa_nil)) (blkOk_by (own := [("place", 18)]) (N := ["script", "pen", "again", "far", "standing", "base", "values", "value", "web", "roots", "bounds", "every", "text", "k", "due", "shown", "turn", "other", "place", "i"]) (sc := (defScope s_law)) (by decide +kernel)) (fun _ _ _ _ _ => (pg_name (i := 18) sc_law.nd rfl (.inl rfl))) (fun _ _ _ _ _ => pts_nil) (fun _ _ _ _ _ => (pe_own D_law_take hr (by rfl) (pa_cons (pv 1) (pa_cons (pv 13) pa_nil))))) pa_nil))))
      (pss_cons (ps_set (i := 6) sc_law.nd rfl (.inl rfl) (pe_lst (pa_cons (pv 5) (pa_cons (pe_callTy (listOf K) (by rfl) B.list_ (by decide +kernel) (pa_cons (pv 5) pa_nil)) (pa_cons (pe_slice (slT K) (pv 5) (po_some pe_int) po_none) (pa_cons (pe_op (catA K) (pv 5) (pe_tup (pa_cons pe_int pa_nil))) (pa_cons (pe_callTy (tupleOf K) (by rfl) B.tuple_ (by decide +kernel) (pa_cons (pe_lc (own := [("i", 19)]) (by rfl) sc_law.nd (pi_tupK K (pv 5)) (blkOk_by (own := [("i", 19)]) (N := ["script", "pen", "again", "far", "standing", "base", "values", "value", "web", "roots", "bounds", "every", "text", "k", "due", "shown", "turn", "other", "place", "i"]) (sc := (defScope s_law)) (by decide +kernel)) (fun _ _ _ _ _ => (pg_name (i := 19) sc_law.nd rfl (.inl rfl))) (fun _ _ _ _ _ => pts_nil) (fun _ _ _ _ _ => (pe_cmpR op_eq (pv 19) pe_int (nomark _)))) pa_nil)) (pa_cons pe_non (pa_cons (pe_tup pa_nil) (pa_cons (pe_op (repT1 K) (pe_tup (pa_cons (pv 13) pa_nil)) (pe_ix (ixT K) (pv 8) pe_int (fun _ _ => rfl))) pa_nil))))))))))
      (pss_cons (ps_for PassesOwn.never rfl (pi_listK K (pe_op op_cat (pv 6) (pe_lc (own := [("turn", 16)]) (by rfl) sc_law.nd (pi_range1 (by rfl) B.range (pa_cons pe_int pa_nil)) (blkOk_by (own := [("turn", 16)]) (N := ["script", "pen", "again", "far", "standing", "base", "values", "value", "web", "roots", "bounds", "every", "text", "k", "due", "shown", "turn", "other", "place", "i"]) (sc := (defScope s_law)) (by decide +kernel)) (fun _ _ _ _ _ => (pg_name (i := 16) sc_law.nd rfl (.inl rfl))) (fun _ _ _ _ _ => pts_nil) (fun _ _ _ _ _ => (pe_own D_law_put hr (by rfl) (pa_cons (pv 5) (pa_cons (pe_own D_law_take hr (by rfl) (pa_cons (pv 1) (pa_cons (pe_ix (ixT K) (pv 8) pe_int (fun _ _ => rfl)) pa_nil))) (pa_cons (pe_own D_law_take hr (by rfl) (pa_cons (pv 1) (pa_cons (pv 13) pa_nil))) pa_nil)))))))) (pg_name (i := 7) sc_law.nd rfl (.inl rfl)) (pss_cons (ps_set (i := 14) sc_law.nd rfl (.inl rfl) (pe_own D_law_is_standing hr (by rfl) (pa_cons (pv 8) (pa_cons (pv 9) (pa_cons (pv 10) (pa_cons (pv 7) pa_nil))))))
      (pss_one (ps_if (pt_not (pt_val (pe_own D_law_same hr (by rfl) (pa_cons (pe_own D_is_standing hr (by rfl) (pa_cons (pv 8) (pa_cons (pv 9) (pa_cons (pv 10) (pa_cons (pv 7) pa_nil))))) (pa_cons (pv 14) pa_nil))))) (pss_one (ps_ret pe_bl)) pss_nil))))
      (pss_cons (ps_for PassesOwn.never rfl (pi_listK K (pe_op op_cat (pe_lc (own := [("turn", 16)]) (by rfl) sc_law.nd (pi_range1 (by rfl) B.range (pa_cons pe_int pa_nil)) (blkOk_by (own := [("turn", 16)]) (N := ["script", "pen", "again", "far", "standing", "base", "values", "value", "web", "roots", "bounds", "every", "text", "k", "due", "shown", "turn", "other", "place", "i"]) (sc := (defScope s_law)) (by decide +kernel)) (fun _ _ _ _ _ => (pg_name (i := 16) sc_law.nd rfl (.inl rfl))) (fun _ _ _ _ _ => pts_nil) (fun _ _ _ _ _ => (pe_own D_law_bent hr (by rfl) (pa_cons (pv 1) (pa_cons (pv 5) pa_nil))))) (pe_lst (pa_cons (pe_own D_law_odd hr (by rfl) (pa_cons (pv 1) pa_nil)) pa_nil)))) (pg_name (i := 7) sc_law.nd rfl (.inl rfl)) (pss_cons (ps_par (i := 15) (j := 14) (by rfl) sc_law.nd rfl rfl (by decide) rfl rfl (pa_cons (pe_callB (call_reprD K gA hr.units) (by rfl) B.repr (by decide +kernel) (pa_cons (pv 7) pa_nil)) (pa_cons (pe_own D_law_is_standing hr (by rfl) (pa_cons (pv 8) (pa_cons (pv 9) (pa_cons (pv 10) (pa_cons (pv 7) pa_nil))))) pa_nil)) (by rfl))
      (pss_one (ps_if ((pw_or (pt_not (pt_val (pe_own D_law_same hr (by rfl) (pa_cons (pe_own D_is_standing hr (by rfl) (pa_cons (pv 8) (pa_cons (pv 9) (pa_cons (pv 10) (pa_cons (pv 7) pa_nil))))) (pa_cons (pv 14) pa_nil))))) (pw_or1 (pt_cmpR op_ne (pe_callB (call_reprD K gA hr.units) (by rfl) B.repr (by decide +kernel) (pa_cons (pv 7) pa_nil)) (pv 15) (nomark _))))).pt (pss_one (ps_ret pe_bl)) pss_nil))))
      (pss_one (ps_if (pt_cmpR op_ne (pe_callB (call_reprD K gA hr.units) (by rfl) B.repr (by decide +kernel) (pa_cons (pe_tup (pa_cons (pv 8) (pa_cons (pv 9) (pa_cons (pv 10) pa_nil)))) pa_nil)) (pv 12) (nomark _)) (pss_one (ps_ret pe_bl)) pss_nil))))))))))))))
      (pss_one (ps_ret pe_bl)))), ?_⟩
    refine ⟨_, rfl, sa, ns, rfl, hS, hlen, fun H1 p c s1 hp pen => ?_⟩
    have hpav : p ∈ [p] := List.mem_singleton.mpr rfl
    clear s1 hS hp
    -- for again in range(2)
    refine ⟨2, rfl, by omega, by omega, ?_⟩
    refine for_range (fun i σ H => ∃ (x2 x3 x4 x5 x6 x7 x8 x9 x10 x11 x12 x13 x14 x15 x16 x17 x18 x19 : Option V), σ = [some (.ref sa), some (.ref p), x2, x3, x4, x5, x6, x7, x8, x9, x10, x11, x12, x13, x14, x15, x16, x17, x18, x19] ∧ Pen H p c (10000 * i)) ?_ ?_ ?_
    · exact ⟨none, none, none, none, none, none, none, none, none, none, none, none, none, none, none, none, none, none, rfl, pen⟩
    · rintro i σ H hi ⟨x2, x3, x4, x5, x6, x7, x8, x9, x10, x11, x12, x13, x14, x15, x16, x17, x18, x19, rfl, pen0⟩
      have hi2 : i < 2 := hi
      -- web, roots, bounds, every
      refine (show tSeq _ _ _ [some (.ref sa), some (.ref p), some (.int (0 + (i : Int))), x3, x4, x5, x6, x7, x8, x9, x10, x11, x12, x13, x14, x15, x16, x17, x18, x19] _ from tSeq_e (tAsg_e ?_))
      refine ⟨_, rfl, _, rfl, by show 3 ≤ sizeLine; decide, fun l hl => ?_⟩
      refine ⟨p, c, 10000 * i, l, [.int 4, .int 5, .int 6], rfl, Pen.same (My.Same.new hl) pen0, by omega, SqL.of ((wo_ne (Pen.ne pen0 hl).1).trans upd_same), by simp, by simp, fun j x H3 ej pen3 s3 => ?_⟩
      obtain ⟨mo, rfl, mo1, mo6⟩ : ∃ mo : Nat, x = .int mo ∧ 1 ≤ mo ∧ mo ≤ 6 := by
        match j, ej with
        | 0, ej => exact ⟨4, (Option.some.inj ej).symm, by omega, by omega⟩
        | 1, ej => exact ⟨5, (Option.some.inj ej).symm, by omega, by omega⟩
        | 2, ej => exact ⟨6, (Option.some.inj ej).symm, by omega, by omega⟩
      refine ⟨p, c, _, mo, rfl, pen3, by omega, by omega, by omega, fun sq wq ra bq ea n T rs bs H4 n1 nm hT nd hrs k1 k3 lbs hbs pen4 _ hsq hW hra hB hE _ => ?_⟩
      have n6 : n ≤ 6 := by omega
      refine ⟨sq, _, rfl, My.Same.sqt wo_le hsq, rfl, _, _, rfl, _, _, rfl, _, _, rfl, _, _, rfl, rfl, ?_⟩
      clear pen0 pen3 hl ej hsq s3
      have hfew : ∀ j ≤ n, (dealsL rs.length rs j).length ≤ 1000 := fun j hj => dealsL_few nd hrs k1 (by omega) (by omega) hj
      have avs : ∀ {H : Hp} {n : Nat}, Pen H p c n → AvL [p] H := fun h b hb => by
        rw [List.mem_singleton.mp hb]
        obtain ⟨us, hus⟩ := Pen.lst h
        exact ⟨us, hus⟩
      -- text, k
      dsimp only
      refine (show tSeq _ _ _ [some (.ref sa), some (.ref p), some (.int (0 + (i : Int))), x3, x4, x5, x6, x7, some (.ref wq), some (.ref ra), some (.ref bq), some (.ref ea), x12, x13, x14, x15, x16, x17, x18, x19] _ from tSeq_e (tAsg_e ?_))
      have smR : Sm 12 1 (tI rs) := SmAll.tuple ((smInts50 rs fun x hx => by have := hrs x hx; omega).mono (by omega) (Nat.le_refl 0))
      have smB : Sm 12 2 (bD bs) := (sm_bD (n := 3) (fun b hb => by have := hbs b hb; omega) (by omega)).mono (by decide) (Nat.le_refl 2)
      have smD : Sm 1000 5 (.tuple [webD n T, tI rs, bD bs]) := (SmAll.tuple (SmAll.cons ((hT.sm (by omega)).mono (Nat.le_refl _) (Nat.le_refl 3)) (SmAll.cons (smR.mono (Nat.le_refl _) (by decide : 1 ≤ 3)) (SmAll.cons (smB.mono (Nat.le_refl _) (by decide : 2 ≤ 3)) SmAll.nil)))).mono (by decide) (by decide)
      have hK : KeepD K (wos [p] H4) [(.ref wq, webD n T), (.ref ra, tI rs), (.ref bq, bD bs)] := .cons (Dq.same wo_wos hW) (.cons (Dq.same wo_wos (Dq.ofTI hra.sqt)) (.cons (Dq.same wo_wos hB) .nil))
      have htup : EvQ K [p] H4 [some (.ref sa), some (.ref p), some (.int (0 + (i : Int))), x3, x4, x5, x6, x7, some (.ref wq), some (.ref ra), some (.ref bq), some (.ref ea), x12, x13, x14, x15, x16, x17, x18, x19] (tTup (tCons (tVar 8) (tCons (tVar 9) (tCons (tVar 10) tNil)))) (.tuple [webD n T, tI rs, bD bs]) := EvQ.tup (avs pen4).avs (EvA.cons (EvQ.var rfl (hK.get (i := 0) rfl)) (EvA.cons (EvQ.var rfl (hK.get (i := 1) rfl)) (EvA.cons (EvQ.var rfl (hK.get (i := 2) rfl)) EvA.nil))) (by simp)
      have hlR := EvQ.lenT (EvQ.var (K := K) (av := [p]) (H0 := H4) (σ := [some (.ref sa), some (.ref p), some (.int (0 + (i : Int))), x3, x4, x5, x6, x7, some (.ref wq), some (.ref ra), some (.ref bq), some (.ref ea), x12, x13, x14, x15, x16, x17, x18, x19]) (i := 9) rfl (hK.get (i := 1) rfl))
      rw [List.length_map] at hlR
      have h2 := EvQ.tup (avs pen4).avs (EvA.cons (EvQ.repr htup smD (by decide) (by decide)) (EvA.cons hlR EvA.nil)) (by simp)
      refine h2 H4 (Same.refl _) _ fun tv H5 s5 htv => ?_
      generalize hTX : (PyData.tuple [webD n T, tI rs, bD bs]).shown = tx at htv
      obtain ⟨tq, txs, rfl, hTq, htxs⟩ := htv.un_tup
      cases htxs with
      | cons h1 htxs =>
      cases htxs with
      | cons h2 htxs =>
      cases htxs
      cases h1
      cases h2
      refine ⟨tq, _, rfl, My.Same.sqt wos_le hTq, rfl, _, _, rfl, _, _, rfl, rfl, ?_⟩
      have pen5 := Pen.same s5 pen4
      have hK := hK.same (My.Same.wos (av := [p]) s5)
      have hra := hra.same (My.Same.wo (p := p) s5)
      have hE := hE.same0 s5
      clear htup hlR pen4 hW hB hTq s5
      -- far
      dsimp only
      refine (show tSeq _ _ _ [some (.ref sa), some (.ref p), some (.int (0 + (i : Int))), x3, x4, x5, x6, x7, some (.ref wq), some (.ref ra), some (.ref bq), some (.ref ea), some (.str tx), some (.int (rs.length : Nat)), x14, x15, x16, x17, x18, x19] _ from tSeq_e (tAsg_e ?_))
      have hk1 : (rs.length : Int) - 1 = ((rs.length - 1 : Nat) : Int) := by omega
      have hfar := EvQ.catT (K := K) (av := [p]) (H0 := H5) (σ := [some (.ref sa), some (.ref p), some (.int (0 + (i : Int))), x3, x4, x5, x6, x7, some (.ref wq), some (.ref ra), some (.ref bq), some (.ref ea), some (.str tx), some (.int (rs.length : Nat)), x14, x15, x16, x17, x18, x19]) (avs pen5).avs (EvQ.slT (lo := none) (hi := some ((rs.length - 1 : Nat) : Int)) (tl := tNoPart) (th := tPart (tOp (rI0 fun i j => V.int (i - j)) (tVar 13) (tC (.int 1)))) (avs pen5).avs (EvQ.var (i := 10) rfl (hK.get (i := 2) rfl)) (fun _ _ q => q) (fun _ _ q => ⟨_, rfl, (rs.length : Int), 1, rfl, rfl, _, by show V.int ((rs.length : Int) - 1) = _; rw [hk1], q⟩)) (EvQ.tup (avs pen5).avs (EvA.cons (EvQ.tup (avs pen5).avs (EvA.cons (EvQ.add (EvQ.idxD (j := 0) (EvQ.var (i := 8) rfl (hK.get (i := 0) rfl)) (EvQ.c (.int 0)) rfl) (EvQ.c (.int 1))) (EvA.cons (EvQ.add (EvQ.idxD (j := 0) (EvQ.var (i := 8) rfl (hK.get (i := 0) rfl)) (EvQ.c (.int 0)) rfl) (EvQ.c (.int 2))) EvA.nil)) (by simp)) EvA.nil) (by simp)) (by rw [cutD_take, List.length_take, List.length_map, List.length_map]; simp; omega)
      rw [cutD_take, bD_far] at hfar
      refine hfar H5 (Same.refl _) _ fun fv H6 s6 hfv => ?_
      clear hfar
      have pen6 := Pen.same s6 pen5
      have hK := hK.same (My.Same.wos (av := [p]) s6)
      have hra := hra.same (My.Same.wo (p := p) s6)
      have hE := hE.same0 s6
      clear pen5 s6
      have hfl := farL_len (n := n) lbs k1
      -- standings(web, roots, far) != [] ..
      dsimp only [gName]
      refine (show tSeq _ _ _ [some (.ref sa), some (.ref p), some (.int (0 + (i : Int))), some fv, x4, x5, x6, x7, some (.ref wq), some (.ref ra), some (.ref bq), some (.ref ea), some (.str tx), some (.int (rs.length : Nat)), x14, x15, x16, x17, x18, x19] _ from tSeq_e ?_)
      have hpl := Pen.lst pen6
      have toP : ∀ {a : Addr} {H7 H8 : Hp} {L : List (List Int)}, Same H6 H7 → H6 a = none → Same H7 H8 → LAt K [] H8 a (L.map tI) → LAt K [p] H8 a (L.map tI) := fun {a H7 H8 L} s7 na s8 h => by
        obtain ⟨us, hus⟩ := hpl
        refine h.pen (s8 _ _ (s7 _ _ hus)) fun e => ?_
        rw [e, hus] at na
        cases na
      refine ⟨_, rfl, _, rfl, _, rfl, .ref wq, ra, fv, n, T, rs, _, rfl, Dq.same wos_le (hK.get (i := 0) rfl), hT, n1, by omega, hra.same wo_le, Dq.same wos_le hfv, hrs, hfl, k1, by omega, hfew, fun a7 H7 na7 s7 hL7 => ?_⟩
      rw [far_nil lbs k1] at hL7
      refine ⟨by show 0 ≤ sizeLine; decide, fun z7 hz7 => ?_⟩
      have sz7 := My.Same.new (o := HO.lst []) hz7
      refine ne_nilD (ds := []) (hL7.same0 sz7).dpTs (.lst (SqL.of upd_same) .nil) ⟨_, rfl, iteF ?_⟩
      have s77 := s7.trans sz7
      generalize upd H7 z7 (HO.lst []) = H8 at s77 sz7 ⊢
      clear sz7 hz7 hL7 s7 na7 toP hpl
      have pen8 := Pen.same s77 pen6
      have hK := hK.same (My.Same.wos (av := [p]) s77)
      have hra := hra.same (My.Same.wo (p := p) s77)
      have hE := hE.same0 s77
      have hfv := Dq.same (My.Same.wos (av := [p]) s77) hfv
      clear s77 pen6
      refine (show tAnd _ _ [some (.ref sa), some (.ref p), some (.int (0 + (i : Int))), some fv, x4, x5, x6, x7, some (.ref wq), some (.ref ra), some (.ref bq), some (.ref ea), some (.str tx), some (.int (rs.length : Nat)), x14, x15, x16, x17, x18, x19] _ _ from ?_)
      refine withT (fun b H' => b = false ∧ Same H8 H') ?_ (fun R Y => ?_)
      rotate_left
      · obtain ⟨nea, es, eea, hes⟩ := id hE
        refine ⟨_, rfl, by show 0 ≤ sizeLine; decide, fun z8 hz8 => ?_⟩
        have sz8 := My.Same.new (o := HO.lst []) hz8
        refine ne_nilD (ds := standL T n rs bs) (.lst (SqL.of (sz8 _ _ eea)) (DqAll.dpTs (DqAll.same (wos_le.trans sz8) hes))) (.lst (SqL.of upd_same) .nil) ⟨_, rfl, ?_⟩
        by_cases hnil : standL T n rs bs = []
        · rw [decide_eq_true hnil]
          exact iteF (Y _ _ ⟨rfl, sz8⟩)
        · rw [decide_eq_false hnil]
          refine iteT ?_
          obtain ⟨r0, L0, eL⟩ : ∃ r0 L0, standL T n rs bs = r0 :: L0 := by
            cases e : standL T n rs bs with
            | nil => exact absurd e hnil
            | cons r0 L0 => exact ⟨r0, L0, rfl⟩
          obtain ⟨lr0, br0⟩ := standL_bd (T := T) (bs := bs) (n := n) (rs := rs) (r := r0) (by rw [eL]; exact List.mem_cons_self)
          have sm0 : Sm 12 1 (tI r0) := SmAll.tuple ((smInts r0 fun x hx => by have := br0 x hx; omega).mono (by omega) (Nat.le_refl 0))
          have hK := hK.same (My.Same.wos (av := [p]) sz8)
          have h1 := EvQ.standing (K := K) (av := [p]) (σ := [some (.ref sa), some (.ref p), some (.int (0 + (i : Int))), some fv, x4, x5, x6, x7, some (.ref wq), some (.ref ra), some (.ref bq), some (.ref ea), some (.str tx), some (.int (rs.length : Nat)), x14, x15, x16, x17, x18, x19]) (t1 := tVar 8) (t2 := tVar 9) (t3 := tVar 3) (t4 := tOp (rIxL K) (tVar 11) (tC (.int 0))) hT n1 (by omega) hrs hfl (by omega) sm0 (by decide) (EvQ.var rfl (hK.get (i := 0) rfl)) (EvQ.var rfl (hK.get (i := 1) rfl)) (EvQ.var rfl (Dq.same (My.Same.wos (av := [p]) sz8) hfv)) (EvQ.idxLs (j := 0) (EvL.q ((hE.same0 sz8).ev rfl)) (EvQ.c (.int 0)) (by rw [eL]; rfl))
          rw [far_none lbs k1] at h1
          refine h1 _ (Same.refl _) _ fun bv H9 s9 hbv => ?_
          cases hbv
          exact ⟨false, false, rfl, rfl, _, rfl, Y _ _ ⟨rfl, sz8.trans s9⟩⟩
      rintro _ H9 ⟨rfl, s9⟩
      have pen9 := Pen.same s9 pen8
      have hK := hK.same (My.Same.wos (av := [p]) s9)
      have hra := hra.same (My.Same.wo (p := p) s9)
      have hE := hE.same0 s9
      clear hfv s9 pen8
      refine iteF ?_
      -- standings(web, roots, bounds).clear()
      try unfold tNext
      try dsimp only
      refine (show tSeq _ _ _ [some (.ref sa), some (.ref p), some (.int (0 + (i : Int))), some fv, x4, x5, x6, x7, some (.ref wq), some (.ref ra), some (.ref bq), some (.ref ea), some (.str tx), some (.int (rs.length : Nat)), x14, x15, x16, x17, x18, x19] _ from tSeq_e ?_)
      have hpl := Pen.lst pen9
      have toP : ∀ {a : Addr} {H7 H8 : Hp} {L : List (List Int)}, Same H9 H7 → H9 a = none → Same H7 H8 → LAt K [] H8 a (L.map tI) → LAt K [p] H8 a (L.map tI) := fun {a H7 H8 L} s7 na s8 h => by
        obtain ⟨us, hus⟩ := hpl
        refine h.pen (s8 _ _ (s7 _ _ hus)) fun e => ?_
        rw [e, hus] at na
        cases na
      refine ⟨_, rfl, _, rfl, _, rfl, .ref wq, ra, .ref bq, n, T, rs, bs, rfl, Dq.same wos_le (hK.get (i := 0) rfl), hT, n1, by omega, hra.same wo_le, Dq.same wos_le (hK.get (i := 2) rfl), hrs, lbs, k1, by omega, hfew, fun a10 H10 na10 s10 hL10 => ?_⟩
      obtain ⟨_, xs10, e10, _⟩ := hL10
      refine ⟨.inl ⟨rfl, _, SqL.of e10⟩, a10, xs10, rfl, rfl, e10, ?_⟩
      have s11 := My.Same.updD (o := HO.lst []) s10 na10
      generalize upd H10 a10 (HO.lst []) = H11 at s11 ⊢
      have pen11 := Pen.same s11 pen9
      have hK := hK.same (My.Same.wos (av := [p]) s11)
      have hra := hra.same (My.Same.wo (p := p) s11)
      have hE := hE.same0 s11
      clear s11 e10 s10 na10 toP hpl pen9
      -- if not _law_same(standings(web, roots, bounds), every)
      dsimp only
      refine (show tSeq _ _ _ [some (.ref sa), some (.ref p), some (.int (0 + (i : Int))), some fv, x4, x5, x6, x7, some (.ref wq), some (.ref ra), some (.ref bq), some (.ref ea), some (.str tx), some (.int (rs.length : Nat)), x14, x15, x16, x17, x18, x19] _ from tSeq_e ?_)
      have hstd : EvQ K [p] H11 [some (.ref sa), some (.ref p), some (.int (0 + (i : Int))), some fv, x4, x5, x6, x7, some (.ref wq), some (.ref ra), some (.ref bq), some (.ref ea), some (.str tx), some (.int (rs.length : Nat)), x14, x15, x16, x17, x18, x19] (tCall (spStandings K) [] E0 (tCons (tVar 8) (tCons (tVar 9) (tCons (tVar 10) tNil)))) (.list ((standL T n rs bs).map tI)) := fun Ha sa' Qa qa => by
        obtain ⟨us, hus⟩ := Pen.lst pen11
        refine ⟨_, rfl, _, rfl, _, rfl, .ref wq, ra, .ref bq, n, T, rs, bs, rfl, Dq.same (wos_le.trans sa') (hK.get (i := 0) rfl), hT, n1, by omega, hra.same (wo_le.trans sa'), Dq.same (wos_le.trans sa') (hK.get (i := 2) rfl), hrs, lbs, k1, by omega, hfew, fun a H' na s' hL => qa _ _ s' (hL.pen (s' _ _ (sa' _ _ hus)) fun e => ?_).dq⟩
        rw [e, sa' _ _ hus] at na
        cases na
      refine if_notN (EvQ.same (n := 4) hstd (EvL.q (hE.ev (i := 11) rfl)) (fit_stand (hfew n (Nat.le_refl n)) (by omega) (List.Sublist.refl _))) fun H12 s12 => ?_
      have pen12 := Pen.same s12 pen11
      have hK := hK.same (My.Same.wos (av := [p]) s12)
      have hra := hra.same (My.Same.wo (p := p) s12)
      have hE := hE.same0 s12
      clear hstd s12 pen11
      -- for standing in [_law_one_of(pen, every) for turn in range(3 * int(every != []))]
      dsimp only
      refine (show tSeq _ _ _ [some (.ref sa), some (.ref p), some (.int (0 + (i : Int))), some fv, x4, x5, x6, x7, some (.ref wq), some (.ref ra), some (.ref bq), some (.ref ea), some (.str tx), some (.int (rs.length : Nat)), x14, x15, x16, x17, x18, x19] _ from tSeq_e (tForL_e ?_))
      obtain ⟨nea, es, eea, hes⟩ := id hE
      have les := hes.len
      rw [List.length_map] at les
      have hSLl := standL_len (T := T) (bs := bs) (hfew n (Nat.le_refl n))
      refine ⟨_, rfl, by show 0 ≤ sizeLine; decide, fun z13 hz13 => ?_⟩
      have sz13 := My.Same.new (o := HO.lst []) hz13
      refine ne_nilD (ds := standL T n rs bs) (.lst (SqL.of (sz13 _ _ eea)) (DqAll.dpTs (DqAll.same (wos_le.trans sz13) hes))) (.lst (SqL.of upd_same) .nil) (.inr ⟨_, rfl, ?_⟩)
      obtain ⟨cnt, hcnt, c3, cne⟩ : ∃ cnt : Nat, (3 : Int) * (if (!decide (standL T n rs bs = [])) = true then 1 else 0) = cnt ∧ cnt ≤ 3 ∧ (1 ≤ cnt → standL T n rs bs ≠ []) := by
        by_cases hnil : standL T n rs bs = []
        · exact ⟨0, by rw [decide_eq_true hnil]; rfl, by omega, fun h => by omega⟩
        · exact ⟨3, by rw [decide_eq_false hnil]; rfl, by omega, fun _ => hnil⟩
      refine ⟨3, _, rfl, rfl, .inl ⟨by decide, by decide⟩, ?_⟩
      refine ⟨(3 : Int) * (if (!decide (standL T n rs bs = [])) = true then 1 else 0), rfl, by rw [hcnt]; omega, by rw [hcnt]; omega, fun D hD => ?_⟩
      rw [hcnt, Int.toNat_natCast]
      have pen13 := Pen.same sz13 pen12
      have nD := Pen.ne pen13 hD
      have hKs := hK.same (My.Same.wos (av := [p]) sz13)
      have hras := hra.same (My.Same.wo (p := p) sz13)
      have hEs := hE.same0 sz13
      generalize upd H12 z13 (HO.lst []) = H13 at pen13 hD hKs hras hEs ⊢
      clear nea es eea hes les sz13 hz13 pen12 hK hra hE
      obtain ⟨nea, es, eea, hes⟩ := id hEs
      have les := hes.len
      rw [List.length_map] at les
      have nep : ea ≠ p := fun e => nea (List.mem_singleton.mpr e)
      have neD : ea ≠ D := fun e => by
        rw [e, hD] at eea
        cases eea
      refine lc_range (fun j H3 => Pen H3 p c (10000 * i + 1000 + j) ∧ Same (wo p H13) (wo p H3) ∧ ∃ (us : List V) (Ls : List (List Int)), H3 D = some (.lst us) ∧ DqAll K (wos [D, p] H3) us (Ls.map tI) ∧ Ls.length = j ∧ ∀ r ∈ Ls, r ∈ standL T n rs bs) ?_ ?_ ?_
      · exact ⟨(Pen.upd pen13 nD).mono (by omega), My.Same.wo (My.Same.new hD), [], [], upd_same, .nil, rfl, fun r hr => nomatch hr⟩
      · rintro j H3 hj ⟨pen3, s3, us, Ls, eD, hus, hLs, hm⟩
        have hne := cne (by omega)
        have hpos : 1 ≤ es.length := by
          rw [les]
          exact List.length_pos_iff.mpr hne
        refine ⟨rfl, ?_⟩
        refine ⟨_, rfl, _, rfl, p, c, _, ea, es, rfl, pen3, by omega, SqL.of (s3 _ _ ((wo_ne nep).trans eea)), hpos, by omega, fun jj x H4 ex pen4 s4 => ?_⟩
        obtain ⟨d, ed, hd⟩ := hes.get ex
        obtain ⟨r, er, rfl⟩ := map_at ed
        have s34 := s3.trans s4
        have eD4 := (wo_some (s4 _ _ ((wo_ne nD.1).trans eD))).2
        have hmore : Same (wos [p] H13) (wos [D, p] H4) := fun b o e => by
          obtain ⟨h1, h2⟩ := wos_some e
          have nb : b ≠ D := fun z => by
            rw [z, hD] at h2
            cases h2
          have nbp : b ≠ p := fun z => h1 (List.mem_singleton.mpr z)
          rw [wos_in (by simp; exact ⟨nb, nbp⟩)]
          exact (wo_some (s34 _ _ ((wo_ne nbp).trans h2))).2
        have lus := hus.len
        rw [List.length_map, hLs] at lus
        refine ⟨us, eD4, smallT (by omega), (Pen.upd pen4 nD).mono (by omega), wo_updD s34 (wo_none hD), us ++ [x], Ls ++ [r], upd_same, ?_, by rw [List.length_append, hLs]; rfl, fun r' hr' => ?_⟩
        · rw [List.map_append]
          exact DqAll.append (DqAll.same ((My.Same.wos_of (by simp) s4).trans wos_put) hus) (.cons (Dq.same (hmore.trans wos_put) hd) .nil)
        · rcases List.mem_append.mp hr' with h | h
          · exact hm r' h
          · rw [List.mem_singleton.mp h]
            exact List.mem_of_getElem? er
      · rintro H14 ⟨pen14, s14, us, Ls, eD, hus, hLs, hm⟩
        refine ⟨D, rfl, ⟨_, SqL.of eD⟩, ?_⟩
        have hK := hKs.same (My.Same.wos_of hpav s14)
        have hra := hras.same s14
        have hE := LAt.same hpav s14 hEs
        have hus := DqAll.same (fun b o e => by
          obtain ⟨h1, h2⟩ := wos_some e
          exact (wos_in fun hb => h1 (by simp; exact .inr (List.mem_singleton.mp hb))).trans h2 : Same (wos [D, p] H14) (wos [p] H14)) hus
        clear hKs hras hEs s14 pen13
        refine for_list (xs := us) (fun j σ H => ∃ (x4 x14 x16 x17 : Option V), σ = [some (.ref sa), some (.ref p), some (.int (0 + (i : Int))), some fv, x4, x5, x6, x7, some (.ref wq), some (.ref ra), some (.ref bq), some (.ref ea), some (.str tx), some (.int (rs.length : Nat)), x14, x15, x16, x17, x18, x19] ∧ Same H14 H) ⟨x4, x14, x16, x17, rfl, Same.refl _⟩ ?_ ?_ ?_
        · rintro j σ H _ ⟨_, _, _, _, _, s⟩
          exact SqL.of (s _ _ eD)
        · rintro j stv σ H15 ex ⟨x4, x14, x16, x17, rfl, s15⟩
          obtain ⟨d, ed, hd⟩ := hus.get ex
          obtain ⟨zs, ez, rfl⟩ := map_at ed
          have hzm := hm zs (List.mem_of_getElem? ez)
          have hzd := standL_bd hzm
          have pen15 := Pen.same s15 pen14
          have sw := My.Same.wos (av := [p]) s15
          have hK := hK.same sw
          have hE := hE.same0 s15
          have hd := Dq.same sw hd
          -- due
          refine (show tSeq _ _ _ [some (.ref sa), some (.ref p), some (.int (0 + (i : Int))), some fv, some stv, x5, x6, x7, some (.ref wq), some (.ref ra), some (.ref bq), some (.ref ea), some (.str tx), some (.int (rs.length : Nat)), x14, x15, x16, x17, x18, x19] _ from tSeq_e (tAsg_e ?_))
          have hdue := EvN.lcL (K := K) (av := [p]) (H0 := H15) (σ := [some (.ref sa), some (.ref p), some (.int (0 + (i : Int))), some fv, some stv, x5, x6, x7, some (.ref wq), some (.ref ra), some (.ref bq), some (.ref ea), some (.str tx), some (.int (rs.length : Nat)), x14, x15, x16, x17, x18, x19]) (t := tVar 11) (f := tI) (l := standL T n rs bs) (p := apartB zs) (F := tI) (vs := [17]) (g := gName 17) (tt := tTest (tOp rEq (tCall (spApart K) [] E0 (tCons (tVar 4) (tCons (tVar 17) tNil))) (tC (.int 1)))) (te := tVar 17) (avs pen15).avs (hE.ev rfl) (by omega) fun r hr H2 s2 => LcTurn.test (fun _ => rfl) fun x av' H3 hin hav sw hx => by
            have hzx := Dq.same ((My.Same.wos (av := [p]) s2).trans sw) hd
            have hr1 := (standL_bd hr).1
            rw [← apart_iff]
            refine ⟨EvQ.eqI (fun H4 s4 Q4 q4 => ⟨_, rfl, _, rfl, stv, x, zs, r, rfl, Dq.same (wos_le.trans s4) hzx, Dq.same (wos_le.trans s4) hx, by rw [hr1, hzd.1], by rw [hzd.1]; omega, fun H5 s5 => q4 _ _ s5 (.int _)⟩) (EvQ.c (.int 1)), fun _ => EvQ.var rfl hx⟩
          refine hdue.l.to fun dq H16 s16 hdq => ?_
          have pen16 := Pen.same s16 pen15
          have sw := My.Same.wos (av := [p]) s16
          have hK := hK.same sw
          have hd := Dq.same sw hd
          clear hdue pen15 hE
          -- moves_of(..).append(None)
          dsimp only [gName]
          refine (show tSeq _ _ _ [some (.ref sa), some (.ref p), some (.int (0 + (i : Int))), some fv, some stv, x5, x6, x7, some (.ref wq), some (.ref ra), some (.ref bq), some (.ref ea), some (.str tx), some (.int (rs.length : Nat)), some (.ref dq), x15, x16, x17, x18, x19] _ from tSeq_e ?_)
          have hmv : EvN K [p] H16 [some (.ref sa), some (.ref p), some (.int (0 + (i : Int))), some fv, some stv, x5, x6, x7, some (.ref wq), some (.ref ra), some (.ref bq), some (.ref ea), some (.str tx), some (.int (rs.length : Nat)), some (.ref dq), x15, x16, x17, x18, x19] (tCall (spMoves K) [] E0 (tCons (tVar 8) (tCons (tVar 9) (tCons (tVar 10) (tCons (tVar 4) tNil))))) ((nextL T n rs bs zs).map tI) := EvQ.moves (avs pen16 p hpav) hT n1 (by omega) hrs lbs k1 (by omega) hzd (EvQ.var rfl (hK.get (i := 0) rfl)) (EvQ.var rfl (hK.get (i := 1) rfl)) (EvQ.var rfl (hK.get (i := 2) rfl)) (EvQ.var rfl hd)
          refine hmv H16 (Same.refl _) _ fun a17 xs17 H17 na17 s17 e17 _ hx17 => ?_
          have l17 := hx17.len
          rw [List.length_map] at l17
          have hnl : (nextL T n rs bs zs).length ≤ 1000 := Nat.le_trans (List.length_filter_le _ _) hSLl
          refine ⟨.inl ⟨rfl, _, SqL.of e17⟩, a17, xs17, _, rfl, rfl, e17, smallT (by omega), ?_⟩
          have s18 := My.Same.updD (o := HO.lst (xs17 ++ [V.non])) s17 na17
          generalize upd H17 a17 (HO.lst (xs17 ++ [V.non])) = H18 at s18 ⊢
          -- if not _law_same(moves_of(..), due)
          dsimp only
          refine (show tIfS _ _ _ _ [some (.ref sa), some (.ref p), some (.int (0 + (i : Int))), some fv, some stv, x5, x6, x7, some (.ref wq), some (.ref ra), some (.ref bq), some (.ref ea), some (.str tx), some (.int (rs.length : Nat)), some (.ref dq), x15, x16, x17, x18, x19] _ from ?_)
          refine if_notN (EvQ.same (n := 4) (EvQ.mono s18 (EvL.q hmv.l)) (EvL.q ((hdq.same0 s18).ev (i := 14) rfl)) (fit_stand (hfew n (Nat.le_refl n)) (by omega) (List.filter_sublist))) fun H19 s19 => ?_
          exact ⟨_, _, _, _, rfl, s15.trans (s16.trans (s18.trans s19))⟩
        · rintro σ H15 ⟨x4, x14, x16, x17, rfl, s15⟩
          have pen15 := Pen.same s15 pen14
          have hK := hK.same (My.Same.wos (av := [p]) s15)
          have hra := hra.same (My.Same.wo (p := p) s15)
          have hE := hE.same0 s15
          clear hus eD hm s15 pen14
          -- base
          dsimp only
          refine (show tSeq _ _ _ [some (.ref sa), some (.ref p), some (.int (0 + (i : Int))), some fv, x4, x5, x6, x7, some (.ref wq), some (.ref ra), some (.ref bq), some (.ref ea), some (.str tx), some (.int (rs.length : Nat)), x14, x15, x16, x17, x18, x19] _ from tSeq_e (tAsg_e ?_))
          refine withQ (fun v H' => ∃ (zs : List Int) (q : Addr), v = .ref q ∧ SqT K (wo p H') q (zs.map V.int) ∧ DealtTo n rs.length zs ∧ Pen H' p c (10000 * i + 1100) ∧ Same (wo p H15) (wo p H')) ?_ (fun R Y => ?_)
          rotate_left
          · obtain ⟨nea, es, eea, hes⟩ := id hE
            have les := hes.len
            rw [List.length_map] at les
            have nep : ea ≠ p := fun e => nea (List.mem_singleton.mpr e)
            refine ⟨_, rfl, by show 0 ≤ sizeLine; decide, fun z16 hz16 => ?_⟩
            have sz16 := My.Same.new (o := HO.lst []) hz16
            refine ne_nilD (ds := standL T n rs bs) (.lst (SqL.of (sz16 _ _ eea)) (DqAll.dpTs (DqAll.same (wos_le.trans sz16) hes))) (.lst (SqL.of upd_same) .nil) ⟨_, rfl, ?_⟩
            have pen16 := Pen.same sz16 pen15
            have eea := sz16 _ _ eea
            have hes := DqAll.same (My.Same.wos (av := [p]) sz16) hes
            have hK := hK.same (My.Same.wos (av := [p]) sz16)
            have w16 := My.Same.wo (p := p) sz16
            generalize upd H15 z16 (HO.lst []) = H16 at pen16 eea hes hK w16 ⊢
            by_cases hnil : standL T n rs bs = []
            · rw [decide_eq_true hnil]
              refine iteF ?_
              obtain ⟨wq', wx, e, hWT, _⟩ := (hK.get (i := 0) rfl).first
              cases e
              refine ⟨_, rfl, wq, _, 0, _, rfl, rfl, My.Same.sqt wos_le hWT, rfl, _, rfl, by omega, by omega, fun D hD => ?_⟩
              rw [Int.toNat_natCast]
              have nD := Pen.ne pen16 hD
              refine lc_range (fun j H3 => Pen H3 p c (10000 * i + 1000 + 3 + j) ∧ Same (wo p H16) (wo p H3) ∧ ∃ zs : List Int, H3 D = some (.lst (zs.map V.int)) ∧ DealtTo j rs.length zs) ?_ ?_ ?_
              · exact ⟨(Pen.upd pen16 nD).mono (by omega), My.Same.wo (My.Same.new hD), [], upd_same, rfl, fun x hx => nomatch hx⟩
              · rintro j H3 hj ⟨pen3, s3, zs, eD, lz, bz⟩
                refine ⟨rfl, ?_⟩
                refine ⟨_, rfl, _, rfl, p, c, (rs.length : Nat), _, rfl, pen3, by omega, by omega, by omega, fun r H4 r0 r1 pen4 s4 => ?_⟩
                have e4 := (wo_some (s4 _ _ ((wo_ne nD.1).trans eD))).2
                refine ⟨_, e4, by rw [List.length_map, lz]; exact smallT (by omega), (Pen.upd pen4 nD).mono (by omega), wo_updD (s3.trans s4) (wo_none hD), zs ++ [r], ?_, by rw [List.length_append, lz]; rfl, fun x hx => ?_⟩
                · rw [upd_same, map_snoc]
                · rcases List.mem_append.mp hx with hx | hx
                  · exact bz x hx
                  · rw [List.mem_singleton.mp hx]
                    omega
              · rintro H3 ⟨pen3, s3, zs, eD, hzd⟩
                refine ⟨D, _, rfl, .inl ⟨SqL.of eD, fun l hl => ?_⟩⟩
                have nl := Pen.ne pen3 hl
                exact Y _ _ ⟨zs, l, rfl, SqT.of ((wo_ne nl.1).trans upd_same), hzd, (Pen.upd pen3 nl).mono (by omega), w16.trans (s3.trans (My.Same.wo (My.Same.new hl)))⟩
            · rw [decide_eq_false hnil]
              refine iteT ?_
              have hpos : 1 ≤ es.length := by
                rw [les]
                exact List.length_pos_iff.mpr hnil
              refine ⟨_, rfl, _, rfl, p, c, _, ea, es, rfl, pen16, by omega, SqL.of ((wo_ne nep).trans eea), hpos, by omega, fun jj x H4 ex pen4 s4 => ?_⟩
              obtain ⟨d, ed, hd⟩ := hes.get ex
              obtain ⟨r, er, rfl⟩ := map_at ed
              obtain ⟨rq, rfl, hrq⟩ := Dq.sqI2 hd
              exact Y _ _ ⟨r, rq, rfl, My.Same.sqt ((wos_wo hpav).trans s4) hrq, standL_bd (List.mem_of_getElem? er), pen4.mono (by omega), w16.trans s4⟩
          rintro _ H16 ⟨zs, zq, rfl, hzq, hzd, pen16, s16⟩
          have hK := hK.same (My.Same.wos_of hpav s16)
          clear hE hra pen15 s16
          -- values
          dsimp only [gName]
          refine (show tSeq _ _ _ [some (.ref sa), some (.ref p), some (.int (0 + (i : Int))), some fv, x4, some (.ref zq), x6, x7, some (.ref wq), some (.ref ra), some (.ref bq), some (.ref ea), some (.str tx), some (.int (rs.length : Nat)), x14, x15, x16, x17, x18, x19] _ from tSeq_e (tAsg_e ?_))
          have av16 := (avs pen16).avs
          have lzs := hzd.1
          have hzv : EvQ K [p] H16 [some (.ref sa), some (.ref p), some (.int (0 + (i : Int))), some fv, x4, some (.ref zq), x6, x7, some (.ref wq), some (.ref ra), some (.ref bq), some (.ref ea), some (.str tx), some (.int (rs.length : Nat)), x14, x15, x16, x17, x18, x19] (tVar 5) (tI zs) := EvQ.var rfl (Dq.same wo_wos (Dq.ofTI hzq))
          have hv5 := EvQ.tupleOf av16 (EvN.l (EvN.lcT (K := K) (av := [p]) (H0 := H16) (σ := [some (.ref sa), some (.ref p), some (.int (0 + (i : Int))), some fv, x4, some (.ref zq), x6, x7, some (.ref wq), some (.ref ra), some (.ref bq), some (.ref ea), some (.str tx), some (.int (rs.length : Nat)), x14, x15, x16, x17, x18, x19]) (t := tVar 5) (f := PyData.int) (l := zs) (p := fun _ => true) (F := fun z => .bool (decide (z = 1))) (vs := [19]) (g := gName 19) (tt := tYes) (te := tOp rEq (tVar 19) (tC (.int 1))) av16 hzv (by omega) fun z hz H2 s2 => LcTurn.plain (fun _ => rfl) fun x av' H3 hin hav sw hx => EvQ.eqI (EvQ.var rfl hx) (EvQ.c (.int 1)))).q
          rw [filter_true] at hv5
          have hv8 := EvQ.repT (k := n) av16 (EvQ.tup av16 (EvA.cons (EvQ.var (K := K) (av := [p]) (H0 := H16) (σ := [some (.ref sa), some (.ref p), some (.int (0 + (i : Int))), some fv, x4, some (.ref zq), x6, x7, some (.ref wq), some (.ref ra), some (.ref bq), some (.ref ea), some (.str tx), some (.int (rs.length : Nat)), x14, x15, x16, x17, x18, x19]) (i := 13) rfl (.int (rs.length : Nat))) EvA.nil) (by simp)) (EvQ.idxD (j := 0) (EvQ.var (i := 8) rfl (hK.get (i := 0) rfl)) (EvQ.c (.int 0)) rfl) (by simp) (by simp) n1 (by omega)
          have hvals := EvL.lst av16 (EvA.cons hzv (EvA.cons (EvL.listOf av16 hzv).q (EvA.cons (EvQ.dropI (k := 1) (tl := tPart (tC (.int 1))) (by omega) av16 hzv (fun _ _ q => ⟨1, rfl, q⟩)) (EvA.cons (EvQ.catT av16 hzv (EvQ.tup av16 (EvA.cons (EvQ.c (.int 0)) EvA.nil) (by simp)) (by rw [List.length_map]; simp; omega)) (EvA.cons hv5 (EvA.cons (EvQ.c .non) (EvA.cons (EvQ.tup av16 EvA.nil (by simp)) (EvA.cons hv8 EvA.nil)))))))) (by simp)
          refine hvals.to fun vq H17 s17 hV => ?_
          have pen17 := Pen.same s17 pen16
          have hK := hK.same (My.Same.wos (av := [p]) s17)
          have hzq := My.Same.sqt (My.Same.wo (p := p) s17) hzq
          have smZ : SmAll 12 0 (zs.map PyData.int) := (smInts zs fun x hx => by have := hzd.2 x hx; omega).mono (by omega) (Nat.le_refl 0)
          clear hzv hv5 hv8 hvals av16 pen16 s17
          -- for value in values + [_law_put(..) ..]
          dsimp only [gName]
          refine (show tSeq _ _ _ [some (.ref sa), some (.ref p), some (.int (0 + (i : Int))), some fv, x4, some (.ref zq), some (.ref vq), x7, some (.ref wq), some (.ref ra), some (.ref bq), some (.ref ea), some (.str tx), some (.int (rs.length : Nat)), x14, x15, x16, x17, x18, x19] _ from tSeq_e (tForL_e (tOp_e2 ?_)))
          refine ⟨_, rfl, ?_⟩
          refine lc_penW (K := K) (p := p) (c := c) (n0 := 10000 * i + 1100) (n := 4) (st := 2) (Pr := fun d => ∃ r, d = tI r ∧ DealtTo n rs.length r) (fun _ _ q => q) pen17 (by omega) (fun k hk av' H1 n1 hpa hav' sw pen1 hn1 R rr => ?_) (fun _ => rfl) (fun a ds H18 hL hPr hlen pen18 s18 => ?_)
          · have hKw := hK.same sw
            obtain ⟨wq', wx, e, hWT, _⟩ := (hKw.get (i := 0) rfl).first
            cases e
            have hz1 : SqT K H1 zq (zs.map V.int) := My.Same.sqt (wo_wos.trans (sw.trans wos_le)) hzq
            refine ⟨_, rfl, _, rfl, _, rfl, wq, _, 0, _, rfl, rfl, My.Same.sqt wos_le hWT, rfl, p, c, (n : Int), _, rfl, pen1, by omega, by omega, by omega, fun r1 H2 a0 a1 pen2 s2 => ?_⟩
            refine ⟨_, rfl, _, rfl, p, c, (rs.length : Nat), _, rfl, pen2, by omega, by omega, by omega, fun r2 H3 b0 b1 pen3 s3 => ?_⟩
            obtain ⟨r1, rfl⟩ : ∃ k : Nat, r1 = (k : Int) := ⟨r1.toNat, by omega⟩
            have s23 := s2.trans s3
            have hz3 : SqT K H3 zq (zs.map V.int) := My.Same.sqt ((wo_wos.trans sw).trans ((wos_wo hpa).trans (s23.trans wo_le))) hzq
            refine ⟨zq, zs, r1, r2, rfl, hz3, by rw [hzd.1]; omega, by rw [hzd.1]; omega, fun b H4 s4 hb => ?_⟩
            have hav4 : AvL av' H4 := fun d hd => by
              obtain ⟨us, hus⟩ := hav' d hd
              by_cases e : d = p
              · rw [e]
                obtain ⟨us, hus⟩ := Pen.lst (Pen.same s4 pen3)
                exact ⟨us, hus⟩
              · exact ⟨us, s4 _ _ (wo_some (s23 _ _ ((wo_ne e).trans hus))).2⟩
            refine rr _ (tI (zs.set r1 r2)) H4 (Dq.ofTI (sqt_wos hav4 hb)) ⟨_, rfl, by rw [List.length_set]; exact hzd.1, fun x hx => ?_⟩ (Pen.same s4 pen3) (s23.trans (My.Same.wo s4))
            rcases List.mem_or_eq_of_mem_set hx with hx | rfl
            · exact hzd.2 x hx
            · omega
          obtain ⟨nvq, xs1, e1, hx1⟩ := LAt.same hpav s18 hV
          obtain ⟨na, xs2, e2, hx2⟩ := hL
          have l1 := hx1.len
          have l2 := hx2.len
          refine ⟨vq, a, xs1, xs2, rfl, rfl, e1, e2, (by rw [l1, l2, hlen, sizeLine_eq]; simp), fun cq hcq => ?_⟩
          have sc := My.Same.new (o := HO.lst (xs1 ++ xs2)) hcq
          refine ⟨cq, rfl, ⟨_, SqL.of upd_same⟩, ?_⟩
          have hAll := DqAll.same (My.Same.wos (av := [p]) sc) (DqAll.append hx1 hx2)
          have pen19 := Pen.same sc pen18
          have hK := (hK.same (My.Same.wos_of hpav s18)).same (My.Same.wos (av := [p]) sc)
          have hzq := My.Same.sqt (s18.trans (My.Same.wo (p := p) sc)) hzq
          have ec : upd H18 cq (.lst (xs1 ++ xs2)) cq = some (.lst (xs1 ++ xs2)) := upd_same
          have smV : ∀ d ∈ ([tI zs, .list (zs.map PyData.int), .tuple ((zs.drop 1).map PyData.int), .tuple (zs.map PyData.int ++ [.int 0]), .tuple (zs.map fun z => PyData.bool (decide (z = 1))), .none, .tuple [], .tuple (List.replicate n [PyData.int (rs.length : Nat)]).flatten] ++ ds), Sm 100 3 d := fun d hd => by
            rcases List.mem_append.mp hd with hd | hd
            · simp only [List.mem_cons, List.not_mem_nil, or_false] at hd
              rcases hd with rfl | rfl | rfl | rfl | rfl | rfl | rfl | rfl
              · exact (SmAll.tuple smZ).mono (by decide) (by decide)
              · exact (SmAll.list smZ).mono (by decide) (by decide)
              · exact (SmAll.tuple (smInts (zs.drop 1) fun x hx => by have := hzd.2 x (List.mem_of_mem_drop hx); omega)).mono (by rw [List.length_drop]; omega) (by decide)
              · exact (SmAll.tuple (SmAll.append smZ (smInts [0] (by simp)))).mono (by decide) (by decide)
              · exact (SmAll.tuple (smBools (fun z => decide (z = 1)) zs)).mono (by omega) (by decide)
              · exact Sm.none.mono (by decide) (by decide)
              · exact (show Sm 0 1 (.tuple []) from SmAll.tuple SmAll.nil).mono (by decide) (by decide)
              · rw [rep_ints]
                exact (SmAll.tuple (smInts (List.replicate n ((rs.length : Nat) : Int)) fun x hx => by rw [List.eq_of_mem_replicate hx]; omega)).mono (by rw [List.length_replicate]; omega) (by decide)
            · obtain ⟨r, rfl, hr⟩ := hPr d hd
              exact (SmAll.tuple (smInts r fun x hx => by have := hr.2 x hx; omega)).mono (by rw [hr.1]; omega) (by decide)
          generalize upd H18 cq (HO.lst (xs1 ++ xs2)) = H19 at hAll pen19 hK hzq ec ⊢
          clear hx1 hx2 e1 e2 s18 pen18 sc hcq pen17 hV
          refine for_list (xs := xs1 ++ xs2) (fun j σ H => ∃ (x4 x7 x14 x15 x16 x17 x18 x19 : Option V), σ = [some (.ref sa), some (.ref p), some (.int (0 + (i : Int))), some fv, x4, some (.ref zq), some (.ref vq), x7, some (.ref wq), some (.ref ra), some (.ref bq), some (.ref ea), some (.str tx), some (.int (rs.length : Nat)), x14, x15, x16, x17, x18, x19] ∧ Same H19 H) ⟨x4, x7, x14, x15, x16, x17, x18, x19, rfl, Same.refl _⟩ ?_ ?_ ?_
          · rintro j σ H _ ⟨_, _, _, _, _, _, _, _, _, s⟩
            exact SqL.of (s _ _ ec)
          · rintro j vv σ H20 ex ⟨x4, x7, x14, x15, x16, x17, x18, x19, rfl, s20⟩
            obtain ⟨d, ed, hd⟩ := hAll.get ex
            have smd := smV d (List.mem_of_getElem? ed)
            have sw := My.Same.wos (av := [p]) s20
            have hd := Dq.same sw hd
            have hK := hK.same sw
            refine (show tSeq _ _ _ [some (.ref sa), some (.ref p), some (.int (0 + (i : Int))), some fv, x4, some (.ref zq), some (.ref vq), some vv, some (.ref wq), some (.ref ra), some (.ref bq), some (.ref ea), some (.str tx), some (.int (rs.length : Nat)), x14, x15, x16, x17, x18, x19] _ from tSeq_e (tAsg_e ?_))
            have hs1 : EvQ K [p] H20 [some (.ref sa), some (.ref p), some (.int (0 + (i : Int))), some fv, x4, some (.ref zq), some (.ref vq), some vv, some (.ref wq), some (.ref ra), some (.ref bq), some (.ref ea), some (.str tx), some (.int (rs.length : Nat)), x14, x15, x16, x17, x18, x19] (tCall (spStanding K) [] E0 (tCons (tVar 8) (tCons (tVar 9) (tCons (tVar 10) (tCons (tVar 7) tNil))))) (.bool (standD T n rs bs d)) := EvQ.standing hT n1 (by omega) hrs lbs (by omega) smd (by decide) (EvQ.var rfl (hK.get (i := 0) rfl)) (EvQ.var rfl (hK.get (i := 1) rfl)) (EvQ.var rfl (hK.get (i := 2) rfl)) (EvQ.var rfl hd)
            refine hs1 H20 (Same.refl _) _ fun bv H21 s21 hbv => ?_
            cases hbv
            dsimp only [gName]
            refine (show tIfS _ _ _ _ [some (.ref sa), some (.ref p), some (.int (0 + (i : Int))), some fv, x4, some (.ref zq), some (.ref vq), some vv, some (.ref wq), some (.ref ra), some (.ref bq), some (.ref ea), some (.str tx), some (.int (rs.length : Nat)), some (.bl (standD T n rs bs d)), x15, x16, x17, x18, x19] _ from ?_)
            refine if_notN (EvQ.same (n := 4) (EvQ.standing (d := d) hT n1 (by omega) hrs lbs (by omega) smd (by decide) (EvQ.var (i := 8) rfl (Dq.same (My.Same.wos (av := [p]) s21) (hK.get (i := 0) rfl))) (EvQ.var (i := 9) rfl (Dq.same (My.Same.wos (av := [p]) s21) (hK.get (i := 1) rfl))) (EvQ.var (i := 10) rfl (Dq.same (My.Same.wos (av := [p]) s21) (hK.get (i := 2) rfl))) (EvQ.var (i := 7) rfl (Dq.same (My.Same.wos (av := [p]) s21) hd))) (EvQ.var (i := 14) rfl (.bl _)) trivial) fun H22 s22 => ?_
            exact ⟨_, _, _, _, _, _, _, _, rfl, s20.trans (s21.trans s22)⟩
          · rintro σ H20 ⟨x4, x7, x14, x15, x16, x17, x18, x19, rfl, s20⟩
            have pen20 := Pen.same s20 pen19
            have hK := hK.same (My.Same.wos (av := [p]) s20)
            have hzq := My.Same.sqt (My.Same.wo (p := p) s20) hzq
            clear hAll ec smV s20 pen19
            -- for value in [_law_bent(..) ..] + [_law_odd(pen)]
            dsimp only
            refine (show tSeq _ _ _ [some (.ref sa), some (.ref p), some (.int (0 + (i : Int))), some fv, x4, some (.ref zq), some (.ref vq), x7, some (.ref wq), some (.ref ra), some (.ref bq), some (.ref ea), some (.str tx), some (.int (rs.length : Nat)), x14, x15, x16, x17, x18, x19] _ from tSeq_e (tForL_e (tOp_e2 ?_)))
            refine lc_penW (K := K) (p := p) (c := c) (n0 := 10000 * i + 1108) (n := 5) (st := 20) (Pr := fun d => Sm 38 4 d) (fun _ _ q => q) (pen20.mono (by omega)) (by omega) (fun k hk av' H1 n1 hpa hav' sw pen1 hn1 R rr => ?_) (fun _ => rfl) (fun a ds H21 hL hPr hlen pen21 s21 => ?_)
            · have hz1 : SqT K H1 zq (zs.map V.int) := My.Same.sqt (wo_wos.trans (sw.trans wos_le)) hzq
              refine ⟨_, rfl, _, rfl, p, c, n1, 12, 1, .ref zq, tI zs, av', rfl, pen1, by omega, by omega, .inr ⟨_, rfl, fun x hx => ?_⟩, SmAll.tuple smZ, Dq.ofTI (sqt_wos hav' hz1), by omega, hpa, hav'.avs, fun x d' H' hx smx pen' s' => rr x d' H' hx (smx.mono (by decide) (by decide)) (pen'.mono (by omega)) s'⟩
              obtain ⟨z, hz', rfl⟩ := List.mem_map.mp hx
              have := hzd.2 z hz'
              exact ⟨z, rfl, by omega⟩
            refine ⟨_, rfl, p, c, _, [p], rfl, pen21, by omega, hpav, (avs pen21).avs, fun xo do' H22 hxo smo pen22 s22 => ?_⟩
            refine ⟨by show 1 ≤ sizeLine; decide, fun lq hlq => ?_⟩
            have sl := My.Same.new (o := HO.lst [xo]) hlq
            obtain ⟨na, xs2, e2, hx2⟩ := (LAt.same hpav s22 hL).same0 sl
            have l2 := hx2.len
            refine ⟨a, lq, xs2, [xo], rfl, rfl, e2, upd_same, (by rw [l2, hlen, sizeLine_eq]; simp), fun cq hcq => ?_⟩
            have hAll := DqAll.append hx2 (.cons (Dq.same (My.Same.wos (av := [p]) sl) hxo) .nil)
            have pen23 := Pen.same sl pen22
            have hK := hK.same ((My.Same.wos_of hpav (s21.trans s22)).trans (My.Same.wos (av := [p]) sl))
            have smV : ∀ d ∈ ds ++ [do'], Sm 38 4 d := fun d hd => by
              rcases List.mem_append.mp hd with hd | hd
              · exact hPr d hd
              · rw [List.mem_singleton.mp hd]
                exact smo.mono (by decide) (by decide)
            generalize upd H22 lq (HO.lst [xo]) = H23 at hcq hAll pen23 hK
            have sc := My.Same.new (o := HO.lst (xs2 ++ [xo])) hcq
            refine ⟨cq, rfl, ⟨_, SqL.of upd_same⟩, ?_⟩
            have hAll := DqAll.same (My.Same.wos (av := [p]) sc) hAll
            have pen23 := Pen.same sc pen23
            have hK := hK.same (My.Same.wos (av := [p]) sc)
            have ec : upd H23 cq (.lst (xs2 ++ [xo])) cq = some (.lst (xs2 ++ [xo])) := upd_same
            generalize upd H23 cq (HO.lst (xs2 ++ [xo])) = H24 at hAll pen23 hK ec ⊢
            refine for_list (xs := xs2 ++ [xo]) (fun j σ H => ∃ (x4 x7 x14 x15 x16 x17 x18 x19 : Option V), σ = [some (.ref sa), some (.ref p), some (.int (0 + (i : Int))), some fv, x4, some (.ref zq), some (.ref vq), x7, some (.ref wq), some (.ref ra), some (.ref bq), some (.ref ea), some (.str tx), some (.int (rs.length : Nat)), x14, x15, x16, x17, x18, x19] ∧ Same H24 H) ⟨x4, x7, x14, x15, x16, x17, x18, x19, rfl, Same.refl _⟩ ?_ ?_ ?_
            · rintro j σ H _ ⟨_, _, _, _, _, _, _, _, _, s⟩
              exact SqL.of (s _ _ ec)
            · rintro j vv σ H25 ex ⟨x4, x7, x14, x15, x16, x17, x18, x19, rfl, s25⟩
              obtain ⟨d, ed, hd⟩ := hAll.get ex
              have smd := smV d (List.mem_of_getElem? ed)
              have sw := My.Same.wos (av := [p]) s25
              have hd := Dq.same sw hd
              have hK := hK.same sw
              refine (show tSeq _ _ _ [some (.ref sa), some (.ref p), some (.int (0 + (i : Int))), some fv, x4, some (.ref zq), some (.ref vq), some vv, some (.ref wq), some (.ref ra), some (.ref bq), some (.ref ea), some (.str tx), some (.int (rs.length : Nat)), x14, x15, x16, x17, x18, x19] _ from tSeq_e ?_)
              have hre : EvQ K [p] H25 [some (.ref sa), some (.ref p), some (.int (0 + (i : Int))), some fv, x4, some (.ref zq), some (.ref vq), some vv, some (.ref wq), some (.ref ra), some (.ref bq), some (.ref ea), some (.str tx), some (.int (rs.length : Nat)), x14, x15, x16, x17, x18, x19] (tCB (rRepr K) (tCons (tVar 7) tNil)) (.str d.shown) := EvQ.repr (EvQ.var rfl hd) smd (by decide) (by decide)
              refine tCons_e (hre H25 (Same.refl _) _ fun y H26 s26 hy => ?_)
              cases hy
              have hs1 : EvQ K [p] H25 [some (.ref sa), some (.ref p), some (.int (0 + (i : Int))), some fv, x4, some (.ref zq), some (.ref vq), some vv, some (.ref wq), some (.ref ra), some (.ref bq), some (.ref ea), some (.str tx), some (.int (rs.length : Nat)), x14, x15, x16, x17, x18, x19] (tCall (spStanding K) [] E0 (tCons (tVar 8) (tCons (tVar 9) (tCons (tVar 10) (tCons (tVar 7) tNil))))) (.bool (standD T n rs bs d)) := EvQ.standing hT n1 (by omega) hrs lbs (by omega) smd (by decide) (EvQ.var rfl (hK.get (i := 0) rfl)) (EvQ.var rfl (hK.get (i := 1) rfl)) (EvQ.var rfl (hK.get (i := 2) rfl)) (EvQ.var rfl hd)
              refine tCons_e (hs1 H26 s26 _ fun bv H27 s27 hbv => ?_)
              cases hbv
              refine ⟨_, _, rfl, ?_⟩
              have s257 := s26.trans s27
              have sw := My.Same.wos (av := [p]) s257
              have hd := Dq.same sw hd
              have hK := hK.same sw
              dsimp only
              refine (show tIfS _ _ _ _ [some (.ref sa), some (.ref p), some (.int (0 + (i : Int))), some fv, x4, some (.ref zq), some (.ref vq), some vv, some (.ref wq), some (.ref ra), some (.ref bq), some (.ref ea), some (.str tx), some (.int (rs.length : Nat)), some (.bl (standD T n rs bs d)), some (.str d.shown), x16, x17, x18, x19] _ from ?_)
              have hsm := EvQ.same (n := 4) (EvQ.standing (σ := [some (.ref sa), some (.ref p), some (.int (0 + (i : Int))), some fv, x4, some (.ref zq), some (.ref vq), some vv, some (.ref wq), some (.ref ra), some (.ref bq), some (.ref ea), some (.str tx), some (.int (rs.length : Nat)), some (.bl (standD T n rs bs d)), some (.str d.shown), x16, x17, x18, x19]) (d := d) hT n1 (by omega) hrs lbs (by omega) smd (by decide) (EvQ.var (i := 8) rfl (hK.get (i := 0) rfl)) (EvQ.var (i := 9) rfl (hK.get (i := 1) rfl)) (EvQ.var (i := 10) rfl (hK.get (i := 2) rfl)) (EvQ.var (i := 7) rfl hd)) (EvQ.var (i := 14) rfl (.bl _)) trivial
              refine hsm H27 (Same.refl _) _ fun y H28 s28 hy => ?_
              cases hy
              refine ⟨_, rfl, iteF ?_⟩
              have hre2 : EvQ K [p] H27 [some (.ref sa), some (.ref p), some (.int (0 + (i : Int))), some fv, x4, some (.ref zq), some (.ref vq), some vv, some (.ref wq), some (.ref ra), some (.ref bq), some (.ref ea), some (.str tx), some (.int (rs.length : Nat)), some (.bl (standD T n rs bs d)), some (.str d.shown), x16, x17, x18, x19] (tCB (rRepr K) (tCons (tVar 7) tNil)) (.str d.shown) := EvQ.repr (EvQ.var rfl hd) smd (by decide) (by decide)
              refine hre2 H28 s28 _ fun y H29 s29 hy => ?_
              cases hy
              refine ⟨_, rfl, rfl, _, rfl, iteFF (by rw [decide_eq_true rfl]; rfl) ?_⟩
              exact ⟨_, _, _, _, _, _, _, _, rfl, s25.trans (s257.trans (s28.trans s29))⟩
            · rintro σ H25 ⟨x4, x7, x14, x15, x16, x17, x18, x19, rfl, s25⟩
              have pen25 := Pen.same s25 pen23
              have hK := hK.same (My.Same.wos (av := [p]) s25)
              dsimp only
              refine (show tIfS _ _ _ _ [some (.ref sa), some (.ref p), some (.int (0 + (i : Int))), some fv, x4, some (.ref zq), some (.ref vq), x7, some (.ref wq), some (.ref ra), some (.ref bq), some (.ref ea), some (.str tx), some (.int (rs.length : Nat)), x14, x15, x16, x17, x18, x19] _ from ?_)
              have htup : EvQ K [p] H25 [some (.ref sa), some (.ref p), some (.int (0 + (i : Int))), some fv, x4, some (.ref zq), some (.ref vq), x7, some (.ref wq), some (.ref ra), some (.ref bq), some (.ref ea), some (.str tx), some (.int (rs.length : Nat)), x14, x15, x16, x17, x18, x19] (tTup (tCons (tVar 8) (tCons (tVar 9) (tCons (tVar 10) tNil)))) (.tuple [webD n T, tI rs, bD bs]) := EvQ.tup (avs pen25).avs (EvA.cons (EvQ.var rfl (hK.get (i := 0) rfl)) (EvA.cons (EvQ.var rfl (hK.get (i := 1) rfl)) (EvA.cons (EvQ.var rfl (hK.get (i := 2) rfl)) EvA.nil))) (by simp)
              have hre := EvQ.repr htup smD (by decide) (by decide)
              rw [hTX] at hre
              refine hre H25 (Same.refl _) _ fun y H26 s26 hy => ?_
              cases hy
              refine ⟨_, rfl, rfl, _, rfl, iteFF (by rw [decide_eq_true rfl]; rfl) ?_⟩
              exact ⟨_, _, _, _, _, _, _, _, _, _, _, _, _, _, _, _, _, _, rfl, (Pen.same s26 pen25).mono (by omega)⟩
    · rintro σ H ⟨x2, x3, x4, x5, x6, x7, x8, x9, x10, x11, x12, x13, x14, x15, x16, x17, x18, x19, rfl, pen0⟩
      exact q H
end
end K27

set_option Elab.async false
set_option linter.all false
set_option maxRecDepth 100000
set_option maxHeartbeats 4000000
namespace K27
open PySem PySem.Spec PyProof.Rows L2 My
theorem all_mk {l : PySem.W.OpenLaw} {w : World} {K : PySem.W.Frag} {h : Heap} {mg : Str → Option Value} {fa : Addr} (X : K.In h) (G : h.Ns mainGlobals mg) (hfa : mg "law" = some (.ref fa))
    {f0 : Addr} {od0 an0 : Option Addr} {sl0 : Array (Option Value)} {oc0 kV0 dc0 pm0 cd0 ct0 : Value}
    (a0 : PySem.W.nsIn K mainGlobals "is_whole" = some (some (.ref f0))) (l0 : K.lookup f0 = some ⟨oc0, od0, .func (PySem.W.fnOf "is_whole" "is_whole" (defArgs s_is_whole) (defBody s_is_whole) (defScope s_is_whole) .none kV0 dc0 pm0 an0 cd0 ct0), sl0⟩) (c0 : PySem.W.codeIn K cd0 "is_whole" = true) (k0 : PySem.W.keepIn K (.ref f0) = true)
    {f1 : Addr} {od1 an1 : Option Addr} {sl1 : Array (Option Value)} {oc1 kV1 dc1 pm1 cd1 ct1 : Value}
    (a1 : PySem.W.nsIn K mainGlobals "is_place" = some (some (.ref f1))) (l1 : K.lookup f1 = some ⟨oc1, od1, .func (PySem.W.fnOf "is_place" "is_place" (defArgs s_is_place) (defBody s_is_place) (defScope s_is_place) .none kV1 dc1 pm1 an1 cd1 ct1), sl1⟩) (c1 : PySem.W.codeIn K cd1 "is_place" = true) (k1 : PySem.W.keepIn K (.ref f1) = true)
    {f2 : Addr} {od2 an2 : Option Addr} {sl2 : Array (Option Value)} {oc2 kV2 dc2 pm2 cd2 ct2 : Value}
    (a2 : PySem.W.nsIn K mainGlobals "neighbours" = some (some (.ref f2))) (l2 : K.lookup f2 = some ⟨oc2, od2, .func (PySem.W.fnOf "neighbours" "neighbours" (defArgs s_neighbours) (defBody s_neighbours) (defScope s_neighbours) .none kV2 dc2 pm2 an2 cd2 ct2), sl2⟩) (c2 : PySem.W.codeIn K cd2 "neighbours" = true) (k2 : PySem.W.keepIn K (.ref f2) = true)
    {f3 : Addr} {od3 an3 : Option Addr} {sl3 : Array (Option Value)} {oc3 kV3 dc3 pm3 cd3 ct3 : Value}
    (a3 : PySem.W.nsIn K mainGlobals "every_neighbours" = some (some (.ref f3))) (l3 : K.lookup f3 = some ⟨oc3, od3, .func (PySem.W.fnOf "every_neighbours" "every_neighbours" (defArgs s_every_neighbours) (defBody s_every_neighbours) (defScope s_every_neighbours) .none kV3 dc3 pm3 an3 cd3 ct3), sl3⟩) (c3 : PySem.W.codeIn K cd3 "every_neighbours" = true) (k3 : PySem.W.keepIn K (.ref f3) = true)
    {f4 : Addr} {od4 an4 : Option Addr} {sl4 : Array (Option Value)} {oc4 kV4 dc4 pm4 cd4 ct4 : Value}
    (a4 : PySem.W.nsIn K mainGlobals "reached_places" = some (some (.ref f4))) (l4 : K.lookup f4 = some ⟨oc4, od4, .func (PySem.W.fnOf "reached_places" "reached_places" (defArgs s_reached_places) (defBody s_reached_places) (defScope s_reached_places) .none kV4 dc4 pm4 an4 cd4 ct4), sl4⟩) (c4 : PySem.W.codeIn K cd4 "reached_places" = true) (k4 : PySem.W.keepIn K (.ref f4) = true)
    {f5 : Addr} {od5 an5 : Option Addr} {sl5 : Array (Option Value)} {oc5 kV5 dc5 pm5 cd5 ct5 : Value}
    (a5 : PySem.W.nsIn K mainGlobals "pieces" = some (some (.ref f5))) (l5 : K.lookup f5 = some ⟨oc5, od5, .func (PySem.W.fnOf "pieces" "pieces" (defArgs s_pieces) (defBody s_pieces) (defScope s_pieces) .none kV5 dc5 pm5 an5 cd5 ct5), sl5⟩) (c5 : PySem.W.codeIn K cd5 "pieces" = true) (k5 : PySem.W.keepIn K (.ref f5) = true)
    {f6 : Addr} {od6 an6 : Option Addr} {sl6 : Array (Option Value)} {oc6 kV6 dc6 pm6 cd6 ct6 : Value}
    (a6 : PySem.W.nsIn K mainGlobals "hangs" = some (some (.ref f6))) (l6 : K.lookup f6 = some ⟨oc6, od6, .func (PySem.W.fnOf "hangs" "hangs" (defArgs s_hangs) (defBody s_hangs) (defScope s_hangs) .none kV6 dc6 pm6 an6 cd6 ct6), sl6⟩) (c6 : PySem.W.codeIn K cd6 "hangs" = true) (k6 : PySem.W.keepIn K (.ref f6) = true)
    {f7 : Addr} {od7 an7 : Option Addr} {sl7 : Array (Option Value)} {oc7 kV7 dc7 pm7 cd7 ct7 : Value}
    (a7 : PySem.W.nsIn K mainGlobals "is_dealing" = some (some (.ref f7))) (l7 : K.lookup f7 = some ⟨oc7, od7, .func (PySem.W.fnOf "is_dealing" "is_dealing" (defArgs s_is_dealing) (defBody s_is_dealing) (defScope s_is_dealing) .none kV7 dc7 pm7 an7 cd7 ct7), sl7⟩) (c7 : PySem.W.codeIn K cd7 "is_dealing" = true) (k7 : PySem.W.keepIn K (.ref f7) = true)
    {f8 : Addr} {od8 an8 : Option Addr} {sl8 : Array (Option Value)} {oc8 kV8 dc8 pm8 cd8 ct8 : Value}
    (a8 : PySem.W.nsIn K mainGlobals "part_of" = some (some (.ref f8))) (l8 : K.lookup f8 = some ⟨oc8, od8, .func (PySem.W.fnOf "part_of" "part_of" (defArgs s_part_of) (defBody s_part_of) (defScope s_part_of) .none kV8 dc8 pm8 an8 cd8 ct8), sl8⟩) (c8 : PySem.W.codeIn K cd8 "part_of" = true) (k8 : PySem.W.keepIn K (.ref f8) = true)
    {f9 : Addr} {od9 an9 : Option Addr} {sl9 : Array (Option Value)} {oc9 kV9 dc9 pm9 cd9 ct9 : Value}
    (a9 : PySem.W.nsIn K mainGlobals "put" = some (some (.ref f9))) (l9 : K.lookup f9 = some ⟨oc9, od9, .func (PySem.W.fnOf "put" "put" (defArgs s_put) (defBody s_put) (defScope s_put) .none kV9 dc9 pm9 an9 cd9 ct9), sl9⟩) (c9 : PySem.W.codeIn K cd9 "put" = true) (k9 : PySem.W.keepIn K (.ref f9) = true)
    {f10 : Addr} {od10 an10 : Option Addr} {sl10 : Array (Option Value)} {oc10 kV10 dc10 pm10 cd10 ct10 : Value}
    (a10 : PySem.W.nsIn K mainGlobals "is_standing" = some (some (.ref f10))) (l10 : K.lookup f10 = some ⟨oc10, od10, .func (PySem.W.fnOf "is_standing" "is_standing" (defArgs s_is_standing) (defBody s_is_standing) (defScope s_is_standing) .none kV10 dc10 pm10 an10 cd10 ct10), sl10⟩) (c10 : PySem.W.codeIn K cd10 "is_standing" = true) (k10 : PySem.W.keepIn K (.ref f10) = true)
    {f11 : Addr} {od11 an11 : Option Addr} {sl11 : Array (Option Value)} {oc11 kV11 dc11 pm11 cd11 ct11 : Value}
    (a11 : PySem.W.nsIn K mainGlobals "_is_within" = some (some (.ref f11))) (l11 : K.lookup f11 = some ⟨oc11, od11, .func (PySem.W.fnOf "_is_within" "_is_within" (defArgs s_is_within) (defBody s_is_within) (defScope s_is_within) .none kV11 dc11 pm11 an11 cd11 ct11), sl11⟩) (c11 : PySem.W.codeIn K cd11 "_is_within" = true) (k11 : PySem.W.keepIn K (.ref f11) = true)
    {f12 : Addr} {od12 an12 : Option Addr} {sl12 : Array (Option Value)} {oc12 kV12 dc12 pm12 cd12 ct12 : Value}
    (a12 : PySem.W.nsIn K mainGlobals "standings" = some (some (.ref f12))) (l12 : K.lookup f12 = some ⟨oc12, od12, .func (PySem.W.fnOf "standings" "standings" (defArgs s_standings) (defBody s_standings) (defScope s_standings) .none kV12 dc12 pm12 an12 cd12 ct12), sl12⟩) (c12 : PySem.W.codeIn K cd12 "standings" = true) (k12 : PySem.W.keepIn K (.ref f12) = true)
    {f13 : Addr} {od13 an13 : Option Addr} {sl13 : Array (Option Value)} {oc13 kV13 dc13 pm13 cd13 ct13 : Value}
    (a13 : PySem.W.nsIn K mainGlobals "_rooted" = some (some (.ref f13))) (l13 : K.lookup f13 = some ⟨oc13, od13, .func (PySem.W.fnOf "_rooted" "_rooted" (defArgs s_rooted) (defBody s_rooted) (defScope s_rooted) .none kV13 dc13 pm13 an13 cd13 ct13), sl13⟩) (c13 : PySem.W.codeIn K cd13 "_rooted" = true) (k13 : PySem.W.keepIn K (.ref f13) = true)
    {f14 : Addr} {od14 an14 : Option Addr} {sl14 : Array (Option Value)} {oc14 kV14 dc14 pm14 cd14 ct14 : Value}
    (a14 : PySem.W.nsIn K mainGlobals "moves_of" = some (some (.ref f14))) (l14 : K.lookup f14 = some ⟨oc14, od14, .func (PySem.W.fnOf "moves_of" "moves_of" (defArgs s_moves_of) (defBody s_moves_of) (defScope s_moves_of) .none kV14 dc14 pm14 an14 cd14 ct14), sl14⟩) (c14 : PySem.W.codeIn K cd14 "moves_of" = true) (k14 : PySem.W.keepIn K (.ref f14) = true)
    {f15 : Addr} {od15 an15 : Option Addr} {sl15 : Array (Option Value)} {oc15 kV15 dc15 pm15 cd15 ct15 : Value}
    (a15 : PySem.W.nsIn K mainGlobals "_law_open" = some (some (.ref f15))) (l15 : K.lookup f15 = some ⟨oc15, od15, .func (PySem.W.fnOf "_law_open" "_law_open" (defArgs s_law_open) (defBody s_law_open) (defScope s_law_open) .none kV15 dc15 pm15 an15 cd15 ct15), sl15⟩) (c15 : PySem.W.codeIn K cd15 "_law_open" = true) (k15 : PySem.W.keepIn K (.ref f15) = true)
    {f16 : Addr} {od16 an16 : Option Addr} {sl16 : Array (Option Value)} {oc16 kV16 dc16 pm16 cd16 ct16 : Value}
    (a16 : PySem.W.nsIn K mainGlobals "_law_spread" = some (some (.ref f16))) (l16 : K.lookup f16 = some ⟨oc16, od16, .func (PySem.W.fnOf "_law_spread" "_law_spread" (defArgs s_law_spread) (defBody s_law_spread) (defScope s_law_spread) .none kV16 dc16 pm16 an16 cd16 ct16), sl16⟩) (c16 : PySem.W.codeIn K cd16 "_law_spread" = true) (k16 : PySem.W.keepIn K (.ref f16) = true)
    {f17 : Addr} {od17 an17 : Option Addr} {sl17 : Array (Option Value)} {oc17 kV17 dc17 pm17 cd17 ct17 : Value}
    (a17 : PySem.W.nsIn K mainGlobals "_law_take" = some (some (.ref f17))) (l17 : K.lookup f17 = some ⟨oc17, od17, .func (PySem.W.fnOf "_law_take" "_law_take" (defArgs s_law_take) (defBody s_law_take) (defScope s_law_take) .none kV17 dc17 pm17 an17 cd17 ct17), sl17⟩) (c17 : PySem.W.codeIn K cd17 "_law_take" = true) (k17 : PySem.W.keepIn K (.ref f17) = true)
    {f18 : Addr} {od18 an18 : Option Addr} {sl18 : Array (Option Value)} {oc18 kV18 dc18 pm18 cd18 ct18 : Value}
    (a18 : PySem.W.nsIn K mainGlobals "_law_same" = some (some (.ref f18))) (l18 : K.lookup f18 = some ⟨oc18, od18, .func (PySem.W.fnOf "_law_same" "_law_same" (defArgs s_law_same) (defBody s_law_same) (defScope s_law_same) .none kV18 dc18 pm18 an18 cd18 ct18), sl18⟩) (c18 : PySem.W.codeIn K cd18 "_law_same" = true) (k18 : PySem.W.keepIn K (.ref f18) = true)
    {f19 : Addr} {od19 an19 : Option Addr} {sl19 : Array (Option Value)} {oc19 kV19 dc19 pm19 cd19 ct19 : Value}
    (a19 : PySem.W.nsIn K mainGlobals "_law_one_of" = some (some (.ref f19))) (l19 : K.lookup f19 = some ⟨oc19, od19, .func (PySem.W.fnOf "_law_one_of" "_law_one_of" (defArgs s_law_one_of) (defBody s_law_one_of) (defScope s_law_one_of) .none kV19 dc19 pm19 an19 cd19 ct19), sl19⟩) (c19 : PySem.W.codeIn K cd19 "_law_one_of" = true) (k19 : PySem.W.keepIn K (.ref f19) = true)
    {f20 : Addr} {od20 an20 : Option Addr} {sl20 : Array (Option Value)} {oc20 kV20 dc20 pm20 cd20 ct20 : Value}
    (a20 : PySem.W.nsIn K mainGlobals "_law_odd" = some (some (.ref f20))) (l20 : K.lookup f20 = some ⟨oc20, od20, .func (PySem.W.fnOf "_law_odd" "_law_odd" (defArgs s_law_odd) (defBody s_law_odd) (defScope s_law_odd) .none kV20 dc20 pm20 an20 cd20 ct20), sl20⟩) (c20 : PySem.W.codeIn K cd20 "_law_odd" = true) (k20 : PySem.W.keepIn K (.ref f20) = true)
    {f21 : Addr} {od21 an21 : Option Addr} {sl21 : Array (Option Value)} {oc21 kV21 dc21 pm21 cd21 ct21 : Value}
    (a21 : PySem.W.nsIn K mainGlobals "_law_bent" = some (some (.ref f21))) (l21 : K.lookup f21 = some ⟨oc21, od21, .func (PySem.W.fnOf "_law_bent" "_law_bent" (defArgs s_law_bent) (defBody s_law_bent) (defScope s_law_bent) .none kV21 dc21 pm21 an21 cd21 ct21), sl21⟩) (c21 : PySem.W.codeIn K cd21 "_law_bent" = true) (k21 : PySem.W.keepIn K (.ref f21) = true)
    {f22 : Addr} {od22 an22 : Option Addr} {sl22 : Array (Option Value)} {oc22 kV22 dc22 pm22 cd22 ct22 : Value}
    (a22 : PySem.W.nsIn K mainGlobals "_law_is_whole" = some (some (.ref f22))) (l22 : K.lookup f22 = some ⟨oc22, od22, .func (PySem.W.fnOf "_law_is_whole" "_law_is_whole" (defArgs s_law_is_whole) (defBody s_law_is_whole) (defScope s_law_is_whole) .none kV22 dc22 pm22 an22 cd22 ct22), sl22⟩) (c22 : PySem.W.codeIn K cd22 "_law_is_whole" = true) (k22 : PySem.W.keepIn K (.ref f22) = true)
    {f23 : Addr} {od23 an23 : Option Addr} {sl23 : Array (Option Value)} {oc23 kV23 dc23 pm23 cd23 ct23 : Value}
    (a23 : PySem.W.nsIn K mainGlobals "_law_draw_order" = some (some (.ref f23))) (l23 : K.lookup f23 = some ⟨oc23, od23, .func (PySem.W.fnOf "_law_draw_order" "_law_draw_order" (defArgs s_law_draw_order) (defBody s_law_draw_order) (defScope s_law_draw_order) .none kV23 dc23 pm23 an23 cd23 ct23), sl23⟩) (c23 : PySem.W.codeIn K cd23 "_law_draw_order" = true) (k23 : PySem.W.keepIn K (.ref f23) = true)
    {f24 : Addr} {od24 an24 : Option Addr} {sl24 : Array (Option Value)} {oc24 kV24 dc24 pm24 cd24 ct24 : Value}
    (a24 : PySem.W.nsIn K mainGlobals "_law_web" = some (some (.ref f24))) (l24 : K.lookup f24 = some ⟨oc24, od24, .func (PySem.W.fnOf "_law_web" "_law_web" (defArgs s_law_web) (defBody s_law_web) (defScope s_law_web) .none kV24 dc24 pm24 an24 cd24 ct24), sl24⟩) (c24 : PySem.W.codeIn K cd24 "_law_web" = true) (k24 : PySem.W.keepIn K (.ref f24) = true)
    {f25 : Addr} {od25 an25 : Option Addr} {sl25 : Array (Option Value)} {oc25 kV25 dc25 pm25 cd25 ct25 : Value}
    (a25 : PySem.W.nsIn K mainGlobals "_law_draw_web" = some (some (.ref f25))) (l25 : K.lookup f25 = some ⟨oc25, od25, .func (PySem.W.fnOf "_law_draw_web" "_law_draw_web" (defArgs s_law_draw_web) (defBody s_law_draw_web) (defScope s_law_draw_web) .none kV25 dc25 pm25 an25 cd25 ct25), sl25⟩) (c25 : PySem.W.codeIn K cd25 "_law_draw_web" = true) (k25 : PySem.W.keepIn K (.ref f25) = true)
    {f26 : Addr} {od26 an26 : Option Addr} {sl26 : Array (Option Value)} {oc26 kV26 dc26 pm26 cd26 ct26 : Value}
    (a26 : PySem.W.nsIn K mainGlobals "_law_near" = some (some (.ref f26))) (l26 : K.lookup f26 = some ⟨oc26, od26, .func (PySem.W.fnOf "_law_near" "_law_near" (defArgs s_law_near) (defBody s_law_near) (defScope s_law_near) .none kV26 dc26 pm26 an26 cd26 ct26), sl26⟩) (c26 : PySem.W.codeIn K cd26 "_law_near" = true) (k26 : PySem.W.keepIn K (.ref f26) = true)
    {f27 : Addr} {od27 an27 : Option Addr} {sl27 : Array (Option Value)} {oc27 kV27 dc27 pm27 cd27 ct27 : Value}
    (a27 : PySem.W.nsIn K mainGlobals "_law_piece" = some (some (.ref f27))) (l27 : K.lookup f27 = some ⟨oc27, od27, .func (PySem.W.fnOf "_law_piece" "_law_piece" (defArgs s_law_piece) (defBody s_law_piece) (defScope s_law_piece) .none kV27 dc27 pm27 an27 cd27 ct27), sl27⟩) (c27 : PySem.W.codeIn K cd27 "_law_piece" = true) (k27 : PySem.W.keepIn K (.ref f27) = true)
    {f28 : Addr} {od28 an28 : Option Addr} {sl28 : Array (Option Value)} {oc28 kV28 dc28 pm28 cd28 ct28 : Value}
    (a28 : PySem.W.nsIn K mainGlobals "_law_pieces" = some (some (.ref f28))) (l28 : K.lookup f28 = some ⟨oc28, od28, .func (PySem.W.fnOf "_law_pieces" "_law_pieces" (defArgs s_law_pieces) (defBody s_law_pieces) (defScope s_law_pieces) .none kV28 dc28 pm28 an28 cd28 ct28), sl28⟩) (c28 : PySem.W.codeIn K cd28 "_law_pieces" = true) (k28 : PySem.W.keepIn K (.ref f28) = true)
    {f29 : Addr} {od29 an29 : Option Addr} {sl29 : Array (Option Value)} {oc29 kV29 dc29 pm29 cd29 ct29 : Value}
    (a29 : PySem.W.nsIn K mainGlobals "_law_hangs" = some (some (.ref f29))) (l29 : K.lookup f29 = some ⟨oc29, od29, .func (PySem.W.fnOf "_law_hangs" "_law_hangs" (defArgs s_law_hangs) (defBody s_law_hangs) (defScope s_law_hangs) .none kV29 dc29 pm29 an29 cd29 ct29), sl29⟩) (c29 : PySem.W.codeIn K cd29 "_law_hangs" = true) (k29 : PySem.W.keepIn K (.ref f29) = true)
    {f30 : Addr} {od30 an30 : Option Addr} {sl30 : Array (Option Value)} {oc30 kV30 dc30 pm30 cd30 ct30 : Value}
    (a30 : PySem.W.nsIn K mainGlobals "_law_draw_roots" = some (some (.ref f30))) (l30 : K.lookup f30 = some ⟨oc30, od30, .func (PySem.W.fnOf "_law_draw_roots" "_law_draw_roots" (defArgs s_law_draw_roots) (defBody s_law_draw_roots) (defScope s_law_draw_roots) .none kV30 dc30 pm30 an30 cd30 ct30), sl30⟩) (c30 : PySem.W.codeIn K cd30 "_law_draw_roots" = true) (k30 : PySem.W.keepIn K (.ref f30) = true)
    {f31 : Addr} {od31 an31 : Option Addr} {sl31 : Array (Option Value)} {oc31 kV31 dc31 pm31 cd31 ct31 : Value}
    (a31 : PySem.W.nsIn K mainGlobals "_law_part" = some (some (.ref f31))) (l31 : K.lookup f31 = some ⟨oc31, od31, .func (PySem.W.fnOf "_law_part" "_law_part" (defArgs s_law_part) (defBody s_law_part) (defScope s_law_part) .none kV31 dc31 pm31 an31 cd31 ct31), sl31⟩) (c31 : PySem.W.codeIn K cd31 "_law_part" = true) (k31 : PySem.W.keepIn K (.ref f31) = true)
    {f32 : Addr} {od32 an32 : Option Addr} {sl32 : Array (Option Value)} {oc32 kV32 dc32 pm32 cd32 ct32 : Value}
    (a32 : PySem.W.nsIn K mainGlobals "_law_is_dealing" = some (some (.ref f32))) (l32 : K.lookup f32 = some ⟨oc32, od32, .func (PySem.W.fnOf "_law_is_dealing" "_law_is_dealing" (defArgs s_law_is_dealing) (defBody s_law_is_dealing) (defScope s_law_is_dealing) .none kV32 dc32 pm32 an32 cd32 ct32), sl32⟩) (c32 : PySem.W.codeIn K cd32 "_law_is_dealing" = true) (k32 : PySem.W.keepIn K (.ref f32) = true)
    {f33 : Addr} {od33 an33 : Option Addr} {sl33 : Array (Option Value)} {oc33 kV33 dc33 pm33 cd33 ct33 : Value}
    (a33 : PySem.W.nsIn K mainGlobals "_law_dealings" = some (some (.ref f33))) (l33 : K.lookup f33 = some ⟨oc33, od33, .func (PySem.W.fnOf "_law_dealings" "_law_dealings" (defArgs s_law_dealings) (defBody s_law_dealings) (defScope s_law_dealings) .none kV33 dc33 pm33 an33 cd33 ct33), sl33⟩) (c33 : PySem.W.codeIn K cd33 "_law_dealings" = true) (k33 : PySem.W.keepIn K (.ref f33) = true)
    {f34 : Addr} {od34 an34 : Option Addr} {sl34 : Array (Option Value)} {oc34 kV34 dc34 pm34 cd34 ct34 : Value}
    (a34 : PySem.W.nsIn K mainGlobals "_law_put" = some (some (.ref f34))) (l34 : K.lookup f34 = some ⟨oc34, od34, .func (PySem.W.fnOf "_law_put" "_law_put" (defArgs s_law_put) (defBody s_law_put) (defScope s_law_put) .none kV34 dc34 pm34 an34 cd34 ct34), sl34⟩) (c34 : PySem.W.codeIn K cd34 "_law_put" = true) (k34 : PySem.W.keepIn K (.ref f34) = true)
    {f35 : Addr} {od35 an35 : Option Addr} {sl35 : Array (Option Value)} {oc35 kV35 dc35 pm35 cd35 ct35 : Value}
    (a35 : PySem.W.nsIn K mainGlobals "_law_is_standing" = some (some (.ref f35))) (l35 : K.lookup f35 = some ⟨oc35, od35, .func (PySem.W.fnOf "_law_is_standing" "_law_is_standing" (defArgs s_law_is_standing) (defBody s_law_is_standing) (defScope s_law_is_standing) .none kV35 dc35 pm35 an35 cd35 ct35), sl35⟩) (c35 : PySem.W.codeIn K cd35 "_law_is_standing" = true) (k35 : PySem.W.keepIn K (.ref f35) = true)
    {f36 : Addr} {od36 an36 : Option Addr} {sl36 : Array (Option Value)} {oc36 kV36 dc36 pm36 cd36 ct36 : Value}
    (a36 : PySem.W.nsIn K mainGlobals "_law_standings" = some (some (.ref f36))) (l36 : K.lookup f36 = some ⟨oc36, od36, .func (PySem.W.fnOf "_law_standings" "_law_standings" (defArgs s_law_standings) (defBody s_law_standings) (defScope s_law_standings) .none kV36 dc36 pm36 an36 cd36 ct36), sl36⟩) (c36 : PySem.W.codeIn K cd36 "_law_standings" = true) (k36 : PySem.W.keepIn K (.ref f36) = true)
    {f37 : Addr} {od37 an37 : Option Addr} {sl37 : Array (Option Value)} {oc37 kV37 dc37 pm37 cd37 ct37 : Value}
    (a37 : PySem.W.nsIn K mainGlobals "_law_apart" = some (some (.ref f37))) (l37 : K.lookup f37 = some ⟨oc37, od37, .func (PySem.W.fnOf "_law_apart" "_law_apart" (defArgs s_law_apart) (defBody s_law_apart) (defScope s_law_apart) .none kV37 dc37 pm37 an37 cd37 ct37), sl37⟩) (c37 : PySem.W.codeIn K cd37 "_law_apart" = true) (k37 : PySem.W.keepIn K (.ref f37) = true)
    {f38 : Addr} {od38 an38 : Option Addr} {sl38 : Array (Option Value)} {oc38 kV38 dc38 pm38 cd38 ct38 : Value}
    (a38 : PySem.W.nsIn K mainGlobals "_law_draw_bounds" = some (some (.ref f38))) (l38 : K.lookup f38 = some ⟨oc38, od38, .func (PySem.W.fnOf "_law_draw_bounds" "_law_draw_bounds" (defArgs s_law_draw_bounds) (defBody s_law_draw_bounds) (defScope s_law_draw_bounds) .none kV38 dc38 pm38 an38 cd38 ct38), sl38⟩) (c38 : PySem.W.codeIn K cd38 "_law_draw_bounds" = true) (k38 : PySem.W.keepIn K (.ref f38) = true)
    {f39 : Addr} {od39 an39 : Option Addr} {sl39 : Array (Option Value)} {oc39 kV39 dc39 pm39 cd39 ct39 : Value}
    (a39 : PySem.W.nsIn K mainGlobals "_law_draw_scene" = some (some (.ref f39))) (l39 : K.lookup f39 = some ⟨oc39, od39, .func (PySem.W.fnOf "_law_draw_scene" "_law_draw_scene" (defArgs s_law_draw_scene) (defBody s_law_draw_scene) (defScope s_law_draw_scene) .none kV39 dc39 pm39 an39 cd39 ct39), sl39⟩) (c39 : PySem.W.codeIn K cd39 "_law_draw_scene" = true) (k39 : PySem.W.keepIn K (.ref f39) = true)
    {f40 : Addr} {od40 an40 : Option Addr} {sl40 : Array (Option Value)} {oc40 kV40 dc40 pm40 cd40 ct40 : Value}
    (a40 : PySem.W.nsIn K mainGlobals "law" = some (some (.ref f40))) (l40 : K.lookup f40 = some ⟨oc40, od40, .func (PySem.W.fnOf "law" "law" (defArgs s_law) (defBody s_law) (defScope s_law) .none kV40 dc40 pm40 an40 cd40 ct40), sl40⟩) (c40 : PySem.W.codeIn K cd40 "law" = true) (k40 : PySem.W.keepIn K (.ref f40) = true)
    (z_len : PySem.W.nsIn K mainGlobals "len" = some none)
    (z_int : PySem.W.nsIn K mainGlobals "int" = some none)
    (z_list : PySem.W.nsIn K mainGlobals "list" = some none)
    (z_tuple : PySem.W.nsIn K mainGlobals "tuple" = some none)
    (z_bool : PySem.W.nsIn K mainGlobals "bool" = some none)
    (z_str : PySem.W.nsIn K mainGlobals "str" = some none)
    (z_range : PySem.W.nsIn K mainGlobals "range" = some none)
    (z_enumerate : PySem.W.nsIn K mainGlobals "enumerate" = some none)
    (z_zip : PySem.W.nsIn K mainGlobals "zip" = some none)
    (z_isinstance : PySem.W.nsIn K mainGlobals "isinstance" = some none)
    (z_sum : PySem.W.nsIn K mainGlobals "sum" = some none)
    (z_all : PySem.W.nsIn K mainGlobals "all" = some none)
    (z_min : PySem.W.nsIn K mainGlobals "min" = some none)
    (z_max : PySem.W.nsIn K mainGlobals "max" = some none)
    (z_repr : PySem.W.nsIn K mainGlobals "repr" = some none)
    (z_sorted : PySem.W.nsIn K mainGlobals "sorted" = some none)
    (z_set : PySem.W.nsIn K mainGlobals "set" = some none)
    : ∃ fd : FuncData, (∀ (s : Shared) (v : Value), BindsTo s fd ⟨[v], []⟩ [("script", v)]) ∧ ∀ base : Heap, K.In base → base.Ns mainGlobals mg → My.FnG l.prog w K mg base 8 fa fd ["script"] (spLaw K) := by
  have e := hfa.symm.trans (PySem.W.mg_of X G a40)
  cases e
  have B : Bn mg := ⟨PySem.W.mg_none_of X G z_len, PySem.W.mg_none_of X G z_int, PySem.W.mg_none_of X G z_list, PySem.W.mg_none_of X G z_tuple, PySem.W.mg_none_of X G z_bool, PySem.W.mg_none_of X G z_str, PySem.W.mg_none_of X G z_range, PySem.W.mg_none_of X G z_enumerate, PySem.W.mg_none_of X G z_zip, PySem.W.mg_none_of X G z_isinstance, PySem.W.mg_none_of X G z_sum, PySem.W.mg_none_of X G z_all, PySem.W.mg_none_of X G z_min, PySem.W.mg_none_of X G z_max, PySem.W.mg_none_of X G z_repr, PySem.W.mg_none_of X G z_sorted, PySem.W.mg_none_of X G z_set⟩
  have A_is_whole : At K mg "is_whole" s_is_whole ["value"] := by
    have F := fun_mk (st := s_is_whole) l0 c0 k0
    exact ⟨_, _, F, PySem.W.mg_of X G a0, F.binds (ps := ["value"]) fun _ _ _ _ _ _ us hl => match us, hl with | [_], _ => rfl⟩
  have A_is_place : At K mg "is_place" s_is_place ["n", "value"] := by
    have F := fun_mk (st := s_is_place) l1 c1 k1
    exact ⟨_, _, F, PySem.W.mg_of X G a1, F.binds (ps := ["n", "value"]) fun _ _ _ _ _ _ us hl => match us, hl with | [_, _], _ => rfl⟩
  have A_neighbours : At K mg "neighbours" s_neighbours ["web", "place"] := by
    have F := fun_mk (st := s_neighbours) l2 c2 k2
    exact ⟨_, _, F, PySem.W.mg_of X G a2, F.binds (ps := ["web", "place"]) fun _ _ _ _ _ _ us hl => match us, hl with | [_, _], _ => rfl⟩
  have A_every_neighbours : At K mg "every_neighbours" s_every_neighbours ["web"] := by
    have F := fun_mk (st := s_every_neighbours) l3 c3 k3
    exact ⟨_, _, F, PySem.W.mg_of X G a3, F.binds (ps := ["web"]) fun _ _ _ _ _ _ us hl => match us, hl with | [_], _ => rfl⟩
  have A_reached_places : At K mg "reached_places" s_reached_places ["near", "lot", "place"] := by
    have F := fun_mk (st := s_reached_places) l4 c4 k4
    exact ⟨_, _, F, PySem.W.mg_of X G a4, F.binds (ps := ["near", "lot", "place"]) fun _ _ _ _ _ _ us hl => match us, hl with | [_, _, _], _ => rfl⟩
  have A_pieces : At K mg "pieces" s_pieces ["web", "lot"] := by
    have F := fun_mk (st := s_pieces) l5 c5 k5
    exact ⟨_, _, F, PySem.W.mg_of X G a5, F.binds (ps := ["web", "lot"]) fun _ _ _ _ _ _ us hl => match us, hl with | [_, _], _ => rfl⟩
  have A_hangs : At K mg "hangs" s_hangs ["web", "lot"] := by
    have F := fun_mk (st := s_hangs) l6 c6 k6
    exact ⟨_, _, F, PySem.W.mg_of X G a6, F.binds (ps := ["web", "lot"]) fun _ _ _ _ _ _ us hl => match us, hl with | [_, _], _ => rfl⟩
  have A_is_dealing : At K mg "is_dealing" s_is_dealing ["n", "k", "value"] := by
    have F := fun_mk (st := s_is_dealing) l7 c7 k7
    exact ⟨_, _, F, PySem.W.mg_of X G a7, F.binds (ps := ["n", "k", "value"]) fun _ _ _ _ _ _ us hl => match us, hl with | [_, _, _], _ => rfl⟩
  have A_part_of : At K mg "part_of" s_part_of ["dealing", "i"] := by
    have F := fun_mk (st := s_part_of) l8 c8 k8
    exact ⟨_, _, F, PySem.W.mg_of X G a8, F.binds (ps := ["dealing", "i"]) fun _ _ _ _ _ _ us hl => match us, hl with | [_, _], _ => rfl⟩
  have A_put : At K mg "put" s_put ["dealing", "place", "i"] := by
    have F := fun_mk (st := s_put) l9 c9 k9
    exact ⟨_, _, F, PySem.W.mg_of X G a9, F.binds (ps := ["dealing", "place", "i"]) fun _ _ _ _ _ _ us hl => match us, hl with | [_, _, _], _ => rfl⟩
  have A_is_standing : At K mg "is_standing" s_is_standing ["web", "roots", "bounds", "value"] := by
    have F := fun_mk (st := s_is_standing) l10 c10 k10
    exact ⟨_, _, F, PySem.W.mg_of X G a10, F.binds (ps := ["web", "roots", "bounds", "value"]) fun _ _ _ _ _ _ us hl => match us, hl with | [_, _, _, _], _ => rfl⟩
  have A_is_within : At K mg "_is_within" s_is_within ["web", "lot", "bound"] := by
    have F := fun_mk (st := s_is_within) l11 c11 k11
    exact ⟨_, _, F, PySem.W.mg_of X G a11, F.binds (ps := ["web", "lot", "bound"]) fun _ _ _ _ _ _ us hl => match us, hl with | [_, _, _], _ => rfl⟩
  have A_standings : At K mg "standings" s_standings ["web", "roots", "bounds"] := by
    have F := fun_mk (st := s_standings) l12 c12 k12
    exact ⟨_, _, F, PySem.W.mg_of X G a12, F.binds (ps := ["web", "roots", "bounds"]) fun _ _ _ _ _ _ us hl => match us, hl with | [_, _, _], _ => rfl⟩
  have A_rooted : At K mg "_rooted" s_rooted ["n", "roots"] := by
    have F := fun_mk (st := s_rooted) l13 c13 k13
    exact ⟨_, _, F, PySem.W.mg_of X G a13, F.binds (ps := ["n", "roots"]) fun _ _ _ _ _ _ us hl => match us, hl with | [_, _], _ => rfl⟩
  have A_moves_of : At K mg "moves_of" s_moves_of ["web", "roots", "bounds", "standing"] := by
    have F := fun_mk (st := s_moves_of) l14 c14 k14
    exact ⟨_, _, F, PySem.W.mg_of X G a14, F.binds (ps := ["web", "roots", "bounds", "standing"]) fun _ _ _ _ _ _ us hl => match us, hl with | [_, _, _, _], _ => rfl⟩
  have A_law_open : At K mg "_law_open" s_law_open ["script"] := by
    have F := fun_mk (st := s_law_open) l15 c15 k15
    exact ⟨_, _, F, PySem.W.mg_of X G a15, F.binds (ps := ["script"]) fun _ _ _ _ _ _ us hl => match us, hl with | [_], _ => rfl⟩
  have A_law_spread : At K mg "_law_spread" s_law_spread ["cell", "at"] := by
    have F := fun_mk (st := s_law_spread) l16 c16 k16
    exact ⟨_, _, F, PySem.W.mg_of X G a16, F.binds (ps := ["cell", "at"]) fun _ _ _ _ _ _ us hl => match us, hl with | [_, _], _ => rfl⟩
  have A_law_take : At K mg "_law_take" s_law_take ["pen", "amount"] := by
    have F := fun_mk (st := s_law_take) l17 c17 k17
    exact ⟨_, _, F, PySem.W.mg_of X G a17, F.binds (ps := ["pen", "amount"]) fun _ _ _ _ _ _ us hl => match us, hl with | [_, _], _ => rfl⟩
  have A_law_same : At K mg "_law_same" s_law_same ["found", "due"] := by
    have F := fun_mk (st := s_law_same) l18 c18 k18
    exact ⟨_, _, F, PySem.W.mg_of X G a18, F.binds (ps := ["found", "due"]) fun _ _ _ _ _ _ us hl => match us, hl with | [_, _], _ => rfl⟩
  have A_law_one_of : At K mg "_law_one_of" s_law_one_of ["pen", "some"] := by
    have F := fun_mk (st := s_law_one_of) l19 c19 k19
    exact ⟨_, _, F, PySem.W.mg_of X G a19, F.binds (ps := ["pen", "some"]) fun _ _ _ _ _ _ us hl => match us, hl with | [_, _], _ => rfl⟩
  have A_law_odd : At K mg "_law_odd" s_law_odd ["pen"] := by
    have F := fun_mk (st := s_law_odd) l20 c20 k20
    exact ⟨_, _, F, PySem.W.mg_of X G a20, F.binds (ps := ["pen"]) fun _ _ _ _ _ _ us hl => match us, hl with | [_], _ => rfl⟩
  have A_law_bent : At K mg "_law_bent" s_law_bent ["pen", "value"] := by
    have F := fun_mk (st := s_law_bent) l21 c21 k21
    exact ⟨_, _, F, PySem.W.mg_of X G a21, F.binds (ps := ["pen", "value"]) fun _ _ _ _ _ _ us hl => match us, hl with | [_, _], _ => rfl⟩
  have A_law_is_whole : At K mg "_law_is_whole" s_law_is_whole ["value"] := by
    have F := fun_mk (st := s_law_is_whole) l22 c22 k22
    exact ⟨_, _, F, PySem.W.mg_of X G a22, F.binds (ps := ["value"]) fun _ _ _ _ _ _ us hl => match us, hl with | [_], _ => rfl⟩
  have A_law_draw_order : At K mg "_law_draw_order" s_law_draw_order ["pen", "n"] := by
    have F := fun_mk (st := s_law_draw_order) l23 c23 k23
    exact ⟨_, _, F, PySem.W.mg_of X G a23, F.binds (ps := ["pen", "n"]) fun _ _ _ _ _ _ us hl => match us, hl with | [_, _], _ => rfl⟩
  have A_law_web : At K mg "_law_web" s_law_web ["n", "pairs"] := by
    have F := fun_mk (st := s_law_web) l24 c24 k24
    exact ⟨_, _, F, PySem.W.mg_of X G a24, F.binds (ps := ["n", "pairs"]) fun _ _ _ _ _ _ us hl => match us, hl with | [_, _], _ => rfl⟩
  have A_law_draw_web : At K mg "_law_draw_web" s_law_draw_web ["pen", "low", "high"] := by
    have F := fun_mk (st := s_law_draw_web) l25 c25 k25
    exact ⟨_, _, F, PySem.W.mg_of X G a25, F.binds (ps := ["pen", "low", "high"]) fun _ _ _ _ _ _ us hl => match us, hl with | [_, _, _], _ => rfl⟩
  have A_law_near : At K mg "_law_near" s_law_near ["web", "place"] := by
    have F := fun_mk (st := s_law_near) l26 c26 k26
    exact ⟨_, _, F, PySem.W.mg_of X G a26, F.binds (ps := ["web", "place"]) fun _ _ _ _ _ _ us hl => match us, hl with | [_, _], _ => rfl⟩
  have A_law_piece : At K mg "_law_piece" s_law_piece ["web", "lot", "place"] := by
    have F := fun_mk (st := s_law_piece) l27 c27 k27
    exact ⟨_, _, F, PySem.W.mg_of X G a27, F.binds (ps := ["web", "lot", "place"]) fun _ _ _ _ _ _ us hl => match us, hl with | [_, _, _], _ => rfl⟩
  have A_law_pieces : At K mg "_law_pieces" s_law_pieces ["web", "lot"] := by
    have F := fun_mk (st := s_law_pieces) l28 c28 k28
    exact ⟨_, _, F, PySem.W.mg_of X G a28, F.binds (ps := ["web", "lot"]) fun _ _ _ _ _ _ us hl => match us, hl with | [_, _], _ => rfl⟩
  have A_law_hangs : At K mg "_law_hangs" s_law_hangs ["web", "lot"] := by
    have F := fun_mk (st := s_law_hangs) l29 c29 k29
    exact ⟨_, _, F, PySem.W.mg_of X G a29, F.binds (ps := ["web", "lot"]) fun _ _ _ _ _ _ us hl => match us, hl with | [_, _], _ => rfl⟩
  have A_law_draw_roots : At K mg "_law_draw_roots" s_law_draw_roots ["pen", "n", "k"] := by
    have F := fun_mk (st := s_law_draw_roots) l30 c30 k30
    exact ⟨_, _, F, PySem.W.mg_of X G a30, F.binds (ps := ["pen", "n", "k"]) fun _ _ _ _ _ _ us hl => match us, hl with | [_, _, _], _ => rfl⟩
  have A_law_part : At K mg "_law_part" s_law_part ["dealing", "i"] := by
    have F := fun_mk (st := s_law_part) l31 c31 k31
    exact ⟨_, _, F, PySem.W.mg_of X G a31, F.binds (ps := ["dealing", "i"]) fun _ _ _ _ _ _ us hl => match us, hl with | [_, _], _ => rfl⟩
  have A_law_is_dealing : At K mg "_law_is_dealing" s_law_is_dealing ["n", "k", "value"] := by
    have F := fun_mk (st := s_law_is_dealing) l32 c32 k32
    exact ⟨_, _, F, PySem.W.mg_of X G a32, F.binds (ps := ["n", "k", "value"]) fun _ _ _ _ _ _ us hl => match us, hl with | [_, _, _], _ => rfl⟩
  have A_law_dealings : At K mg "_law_dealings" s_law_dealings ["n", "k", "roots"] := by
    have F := fun_mk (st := s_law_dealings) l33 c33 k33
    exact ⟨_, _, F, PySem.W.mg_of X G a33, F.binds (ps := ["n", "k", "roots"]) fun _ _ _ _ _ _ us hl => match us, hl with | [_, _, _], _ => rfl⟩
  have A_law_put : At K mg "_law_put" s_law_put ["state", "place", "i"] := by
    have F := fun_mk (st := s_law_put) l34 c34 k34
    exact ⟨_, _, F, PySem.W.mg_of X G a34, F.binds (ps := ["state", "place", "i"]) fun _ _ _ _ _ _ us hl => match us, hl with | [_, _, _], _ => rfl⟩
  have A_law_is_standing : At K mg "_law_is_standing" s_law_is_standing ["web", "roots", "bounds", "value"] := by
    have F := fun_mk (st := s_law_is_standing) l35 c35 k35
    exact ⟨_, _, F, PySem.W.mg_of X G a35, F.binds (ps := ["web", "roots", "bounds", "value"]) fun _ _ _ _ _ _ us hl => match us, hl with | [_, _, _, _], _ => rfl⟩
  have A_law_standings : At K mg "_law_standings" s_law_standings ["web", "roots", "bounds"] := by
    have F := fun_mk (st := s_law_standings) l36 c36 k36
    exact ⟨_, _, F, PySem.W.mg_of X G a36, F.binds (ps := ["web", "roots", "bounds"]) fun _ _ _ _ _ _ us hl => match us, hl with | [_, _, _], _ => rfl⟩
  have A_law_apart : At K mg "_law_apart" s_law_apart ["one", "other"] := by
    have F := fun_mk (st := s_law_apart) l37 c37 k37
    exact ⟨_, _, F, PySem.W.mg_of X G a37, F.binds (ps := ["one", "other"]) fun _ _ _ _ _ _ us hl => match us, hl with | [_, _], _ => rfl⟩
  have A_law_draw_bounds : At K mg "_law_draw_bounds" s_law_draw_bounds ["pen", "n", "k"] := by
    have F := fun_mk (st := s_law_draw_bounds) l38 c38 k38
    exact ⟨_, _, F, PySem.W.mg_of X G a38, F.binds (ps := ["pen", "n", "k"]) fun _ _ _ _ _ _ us hl => match us, hl with | [_, _, _], _ => rfl⟩
  have A_law_draw_scene : At K mg "_law_draw_scene" s_law_draw_scene ["pen", "most"] := by
    have F := fun_mk (st := s_law_draw_scene) l39 c39 k39
    exact ⟨_, _, F, PySem.W.mg_of X G a39, F.binds (ps := ["pen", "most"]) fun _ _ _ _ _ _ us hl => match us, hl with | [_, _], _ => rfl⟩
  have F := fun_mk (st := s_law) l40 c40 k40
  refine ⟨PySem.W.fnOf "law" "law" (defArgs s_law) (defBody s_law) (defScope s_law) .none kV40 dc40 pm40 an40 cd40 ct40, fun s v => .of_eq rfl, fun base _ _ => ?_⟩
  have D_law_open : Own l.prog w K mg base "_law_open" 1 ["script"] (spOpen K) := A_law_open.own fun f fd F => ok_open F B 
  have D_law_spread : Own l.prog w K mg base "_law_spread" 1 ["cell", "at"] spSpread := A_law_spread.own fun f fd F => ok_spread F B 
  have D_law_take : Own l.prog w K mg base "_law_take" 2 ["pen", "amount"] spTake := A_law_take.own fun f fd F => ok_take F B (D_law_spread.imp (by decide) fun _ _ _ _ h => h)
  have D_law_same : Own l.prog w K mg base "_law_same" 4 ["found", "due"] (spSame K 4) := same_all A_law_same B 4
  have D_law_one_of : Own l.prog w K mg base "_law_one_of" 3 ["pen", "some"] (spOneOf K) := A_law_one_of.own fun f fd F => ok_one_of F B (D_law_take.imp (by decide) fun _ _ _ _ h => h)
  have D_law_odd : Own l.prog w K mg base "_law_odd" 4 ["pen"] (spOdd K) := A_law_odd.own fun f fd F => ok_odd F B (D_law_one_of.imp (by decide) fun _ _ _ _ h => h)
  have D_bent0 : Own l.prog w K mg base "_law_bent" 4 ["pen", "value"] (spBent K 0) := A_law_bent.own fun f fd F => ⟨(fun vs H Q E h => by obtain ⟨_, _, _, _, _, _, _, _, _, _, _, h, _⟩ := h; omega), fun _ _ _ _ _ _ _ _ _ _ _ _ _ h => by obtain ⟨_, _, _, _, _, _, _, _, _, _, _, h, _⟩ := h; omega⟩
  have D_bent1 : Own l.prog w K mg base "_law_bent" 5 ["pen", "value"] (spBent K 1) := A_law_bent.own fun f fd F => ok_bent F B (D_law_take.imp (by decide) fun _ _ _ _ h => h) (D_law_one_of.imp (by decide) fun _ _ _ _ h => h) (D_law_odd.imp (by decide) fun _ _ _ _ h => h) D_bent0
  have D_bent2 : Own l.prog w K mg base "_law_bent" 6 ["pen", "value"] (spBent K 2) := A_law_bent.own fun f fd F => ok_bent F B (D_law_take.imp (by decide) fun _ _ _ _ h => h) (D_law_one_of.imp (by decide) fun _ _ _ _ h => h) (D_law_odd.imp (by decide) fun _ _ _ _ h => h) D_bent1
  have D_bent3 : Own l.prog w K mg base "_law_bent" 7 ["pen", "value"] (spBent K 3) := A_law_bent.own fun f fd F => ok_bent F B (D_law_take.imp (by decide) fun _ _ _ _ h => h) (D_law_one_of.imp (by decide) fun _ _ _ _ h => h) (D_law_odd.imp (by decide) fun _ _ _ _ h => h) D_bent2
  have D_law_draw_order : Own l.prog w K mg base "_law_draw_order" 3 ["pen", "n"] spOrderF := A_law_draw_order.own fun f fd F => ok_draw_order F B (D_law_take.imp (by decide) fun _ _ _ _ h => h)
  have D_law_draw_order_c8 : Own l.prog w K mg base "_law_draw_order" 3 ["pen", "n"] (spOrder K) := D_law_draw_order.imp (by decide) fun _ _ _ _ h => order_of h
  have D_law_web : Own l.prog w K mg base "_law_web" 1 ["n", "pairs"] (spWeb K) := A_law_web.own fun f fd F => ok_web F B 
  have D_law_draw_web : Own l.prog w K mg base "_law_draw_web" 4 ["pen", "low", "high"] (spDrawWeb K) := A_law_draw_web.own fun f fd F => ok_draw_web F B (D_law_take.imp (by decide) fun _ _ _ _ h => h) (D_law_draw_order_c8.imp (by decide) fun _ _ _ _ h => h) (D_law_web.imp (by decide) fun _ _ _ _ h => h)
  have D_law_draw_roots : Own l.prog w K mg base "_law_draw_roots" 4 ["pen", "n", "k"] spDrawRootsF := A_law_draw_roots.own fun f fd F => ok_draw_roots F B (D_law_draw_order.imp (by decide) fun _ _ _ _ h => h)
  have D_law_draw_bounds : Own l.prog w K mg base "_law_draw_bounds" 3 ["pen", "n", "k"] (spBounds K) := A_law_draw_bounds.own fun f fd F => ok_draw_bounds F B (D_law_take.imp (by decide) fun _ _ _ _ h => h)
  have D_law_dealings : Own l.prog w K mg base "_law_dealings" 1 ["n", "k", "roots"] (spDealsX K) := A_law_dealings.own fun f fd F => ok_law_dealings F B 
  have D_law_is_whole : Own l.prog w K mg base "_law_is_whole" 1 ["value"] (spWhole K) := A_law_is_whole.own fun f fd F => ok_law_is_whole F B 
  have D_law_is_dealing : Own l.prog w K mg base "_law_is_dealing" 2 ["n", "k", "value"] (spDealing K) := A_law_is_dealing.own fun f fd F => ok_law_is_dealing F B (D_law_is_whole.imp (by decide) fun _ _ _ _ h => h)
  have D_law_near : Own l.prog w K mg base "_law_near" 1 ["web", "place"] (spNbr K) := A_law_near.own fun f fd F => ok_law_near F B 
  have D_law_piece : Own l.prog w K mg base "_law_piece" 2 ["web", "lot", "place"] (spPiece K) := A_law_piece.own fun f fd F => ok_law_piece F B (D_law_near.imp (by decide) fun _ _ _ _ h => h)
  have D_law_pieces : Own l.prog w K mg base "_law_pieces" 3 ["web", "lot"] (spPieces K) := A_law_pieces.own fun f fd F => ok_law_pieces F B (D_law_piece.imp (by decide) fun _ _ _ _ h => h)
  have D_law_hangs : Own l.prog w K mg base "_law_hangs" 4 ["web", "lot"] (spHangs K) := A_law_hangs.own fun f fd F => ok_law_hangs F B (D_law_pieces.imp (by decide) fun _ _ _ _ h => h)
  have D_law_part : Own l.prog w K mg base "_law_part" 1 ["dealing", "i"] (spPartOf K) := A_law_part.own fun f fd F => ok_law_part F B 
  have D_law_is_standing : Own l.prog w K mg base "_law_is_standing" 5 ["web", "roots", "bounds", "value"] (spStanding K) := A_law_is_standing.own fun f fd F => ok_law_is_standing F B (D_law_is_dealing.imp (by decide) fun _ _ _ _ h => h) (D_law_hangs.imp (by decide) fun _ _ _ _ h => h) (D_law_part.imp (by decide) fun _ _ _ _ h => h)
  have D_law_standings : Own l.prog w K mg base "_law_standings" 6 ["web", "roots", "bounds"] (spStandings K) := A_law_standings.own fun f fd F => ok_law_standings F B (D_law_dealings.imp (by decide) fun _ _ _ _ h => h) (D_law_is_standing.imp (by decide) fun _ _ _ _ h => h)
  have D_law_draw_scene : Own l.prog w K mg base "_law_draw_scene" 7 ["pen", "most"] (spScene K) := A_law_draw_scene.own fun f fd F => ok_draw_scene F B (D_law_draw_web.imp (by decide) fun _ _ _ _ h => h) (D_law_take.imp (by decide) fun _ _ _ _ h => h) (D_law_draw_roots.imp (by decide) fun _ _ _ _ h => h) (D_law_draw_bounds.imp (by decide) fun _ _ _ _ h => h) (D_law_standings.imp (by decide) fun _ _ _ _ h => h)
  have D_rooted : Own l.prog w K mg base "_rooted" 1 ["n", "roots"] (spRooted K) := A_rooted.own fun f fd F => ok_rooted F B 
  have D_is_whole : Own l.prog w K mg base "is_whole" 1 ["value"] (spWhole K) := A_is_whole.own fun f fd F => ok_is_whole F B 
  have D_is_place : Own l.prog w K mg base "is_place" 2 ["n", "value"] (spPlace K) := A_is_place.own fun f fd F => ok_is_place F B (D_is_whole.imp (by decide) fun _ _ _ _ h => h)
  have D_is_dealing : Own l.prog w K mg base "is_dealing" 3 ["n", "k", "value"] (spDealing K) := A_is_dealing.own fun f fd F => ok_is_dealing F B (D_is_place.imp (by decide) fun _ _ _ _ h => h)
  have D_neighbours : Own l.prog w K mg base "neighbours" 1 ["web", "place"] (spNbr K) := A_neighbours.own fun f fd F => ok_neighbours F B 
  have D_every_neighbours : Own l.prog w K mg base "every_neighbours" 2 ["web"] (spEvery K) := A_every_neighbours.own fun f fd F => ok_every_neighbours F B (D_neighbours.imp (by decide) fun _ _ _ _ h => h)
  have D_reached_places : Own l.prog w K mg base "reached_places" 1 ["near", "lot", "place"] (spReached K) := A_reached_places.own fun f fd F => ok_reached_places F B 
  have D_pieces : Own l.prog w K mg base "pieces" 3 ["web", "lot"] (spPieces K) := A_pieces.own fun f fd F => ok_pieces F B (D_every_neighbours.imp (by decide) fun _ _ _ _ h => h) (D_reached_places.imp (by decide) fun _ _ _ _ h => h)
  have D_hangs : Own l.prog w K mg base "hangs" 4 ["web", "lot"] (spHangs K) := A_hangs.own fun f fd F => ok_hangs F B (D_pieces.imp (by decide) fun _ _ _ _ h => h)
  have D_is_within : Own l.prog w K mg base "_is_within" 5 ["web", "lot", "bound"] (spWithin K) := A_is_within.own fun f fd F => ok_is_within F B (D_hangs.imp (by decide) fun _ _ _ _ h => h)
  have D_part_of : Own l.prog w K mg base "part_of" 1 ["dealing", "i"] (spPartOf K) := A_part_of.own fun f fd F => ok_part_of F B 
  have D_is_standing : Own l.prog w K mg base "is_standing" 6 ["web", "roots", "bounds", "value"] (spStanding K) := A_is_standing.own fun f fd F => ok_is_standing F B (D_is_dealing.imp (by decide) fun _ _ _ _ h => h) (D_is_within.imp (by decide) fun _ _ _ _ h => h) (D_part_of.imp (by decide) fun _ _ _ _ h => h)
  have D_standings : Own l.prog w K mg base "standings" 7 ["web", "roots", "bounds"] (spStandings K) := A_standings.own fun f fd F => ok_standings F B (D_rooted.imp (by decide) fun _ _ _ _ h => h) (D_is_standing.imp (by decide) fun _ _ _ _ h => h)
  have D_law_apart : Own l.prog w K mg base "_law_apart" 1 ["one", "other"] (spApart K) := A_law_apart.own fun f fd F => ok_law_apart F B 
  have D_put : Own l.prog w K mg base "put" 1 ["dealing", "place", "i"] (spPut K) := A_put.own fun f fd F => ok_put F B 
  have D_moves_of : Own l.prog w K mg base "moves_of" 7 ["web", "roots", "bounds", "standing"] (spMoves K) := A_moves_of.own fun f fd F => ok_moves_of F B (D_is_standing.imp (by decide) fun _ _ _ _ h => h) (D_put.imp (by decide) fun _ _ _ _ h => h)
  have D_law_put : Own l.prog w K mg base "_law_put" 1 ["state", "place", "i"] (spPut K) := A_law_put.own fun f fd F => ok_law_put F B 
  exact ok_law F B (D_law_open.imp (by decide) fun _ _ _ _ h => h) (D_law_take.imp (by decide) fun _ _ _ _ h => h) (D_law_same.imp (by decide) fun _ _ _ _ h => h) (D_law_one_of.imp (by decide) fun _ _ _ _ h => h) (D_law_odd.imp (by decide) fun _ _ _ _ h => h) (D_bent3.imp (by decide) fun _ _ _ _ h => h) (D_law_draw_scene.imp (by decide) fun _ _ _ _ h => h) (D_standings.imp (by decide) fun _ _ _ _ h => h) (D_is_standing.imp (by decide) fun _ _ _ _ h => h) (D_law_is_standing.imp (by decide) fun _ _ _ _ h => h) (D_law_apart.imp (by decide) fun _ _ _ _ h => h) (D_moves_of.imp (by decide) fun _ _ _ _ h => h) (D_law_put.imp (by decide) fun _ _ _ _ h => h)
end K27
open PySem PySem.W PyProof.Rows
set_option maxRecDepth 100000 in
set_option maxHeartbeats 0 in
theorem PySem.Challenge.cw_rootparts_k27_standings_and_moves_holds : PySem.Challenge.rw_rootparts_k27_standings_and_moves.Holds := by
  w_on; o_law; k_head; (case hw => w_witness2)
  k_fill
  refine My.walk_ofG (l := PySem.Challenge.rw_rootparts_k27_standings_and_moves) (n := 63) (k := 8) (x := "script") (sp := fun w => K27.spLaw _) rfl (by decide) rfl ⟨rfl, by decide, by decide⟩ (fun w h Y => PySem.W.kIn_of Y) ?F (fun _ _ a ns hl hS => ⟨a, ns, rfl, hS, hl, fun _ => rfl⟩)
  case F =>
    intro w mg fa h KX G hmg
    refine' K27.all_mk KX G hmg ?a0 ?l0 ?c0 ?k0 ?a1 ?l1 ?c1 ?k1 ?a2 ?l2 ?c2 ?k2 ?a3 ?l3 ?c3 ?k3 ?a4 ?l4 ?c4 ?k4 ?a5 ?l5 ?c5 ?k5 ?a6 ?l6 ?c6 ?k6 ?a7 ?l7 ?c7 ?k7 ?a8 ?l8 ?c8 ?k8 ?a9 ?l9 ?c9 ?k9 ?a10 ?l10 ?c10 ?k10 ?a11 ?l11 ?c11 ?k11 ?a12 ?l12 ?c12 ?k12 ?a13 ?l13 ?c13 ?k13 ?a14 ?l14 ?c14 ?k14 ?a15 ?l15 ?c15 ?k15 ?a16 ?l16 ?c16 ?k16 ?a17 ?l17 ?c17 ?k17 ?a18 ?l18 ?c18 ?k18 ?a19 ?l19 ?c19 ?k19 ?a20 ?l20 ?c20 ?k20 ?a21 ?l21 ?c21 ?k21 ?a22 ?l22 ?c22 ?k22 ?a23 ?l23 ?c23 ?k23 ?a24 ?l24 ?c24 ?k24 ?a25 ?l25 ?c25 ?k25 ?a26 ?l26 ?c26 ?k26 ?a27 ?l27 ?c27 ?k27 ?a28 ?l28 ?c28 ?k28 ?a29 ?l29 ?c29 ?k29 ?a30 ?l30 ?c30 ?k30 ?a31 ?l31 ?c31 ?k31 ?a32 ?l32 ?c32 ?k32 ?a33 ?l33 ?c33 ?k33 ?a34 ?l34 ?c34 ?k34 ?a35 ?l35 ?c35 ?k35 ?a36 ?l36 ?c36 ?k36 ?a37 ?l37 ?c37 ?k37 ?a38 ?l38 ?c38 ?k38 ?a39 ?l39 ?c39 ?k39 ?a40 ?l40 ?c40 ?k40 ?z_len ?z_int ?z_list ?z_tuple ?z_bool ?z_str ?z_range ?z_enumerate ?z_zip ?z_isinstance ?z_sum ?z_all ?z_min ?z_max ?z_repr ?z_sorted ?z_set
    (case a0 => k_is)
    (case l0 => k_is)
    (case c0 => k_is)
    (case k0 => k_is)
    (case a1 => k_is)
    (case l1 => k_is)
    (case c1 => k_is)
    (case k1 => k_is)
    (case a2 => k_is)
    (case l2 => k_is)
    (case c2 => k_is)
    (case k2 => k_is)
    (case a3 => k_is)
    (case l3 => k_is)
    (case c3 => k_is)
    (case k3 => k_is)
    (case a4 => k_is)
    (case l4 => k_is)
    (case c4 => k_is)
    (case k4 => k_is)
    (case a5 => k_is)
    (case l5 => k_is)
    (case c5 => k_is)
    (case k5 => k_is)
    (case a6 => k_is)
    (case l6 => k_is)
    (case c6 => k_is)
    (case k6 => k_is)
    (case a7 => k_is)
    (case l7 => k_is)
    (case c7 => k_is)
    (case k7 => k_is)
    (case a8 => k_is)
    (case l8 => k_is)
    (case c8 => k_is)
    (case k8 => k_is)
    (case a9 => k_is)
    (case l9 => k_is)
    (case c9 => k_is)
    (case k9 => k_is)
    (case a10 => k_is)
    (case l10 => k_is)
    (case c10 => k_is)
    (case k10 => k_is)
    (case a11 => k_is)
    (case l11 => k_is)
    (case c11 => k_is)
    (case k11 => k_is)
    (case a12 => k_is)
    (case l12 => k_is)
    (case c12 => k_is)
    (case k12 => k_is)
    (case a13 => k_is)
    (case l13 => k_is)
    (case c13 => k_is)
    (case k13 => k_is)
    (case a14 => k_is)
    (case l14 => k_is)
    (case c14 => k_is)
    (case k14 => k_is)
    (case a15 => k_is)
    (case l15 => k_is)
    (case c15 => k_is)
    (case k15 => k_is)
    (case a16 => k_is)
    (case l16 => k_is)
    (case c16 => k_is)
    (case k16 => k_is)
    (case a17 => k_is)
    (case l17 => k_is)
    (case c17 => k_is)
    (case k17 => k_is)
    (case a18 => k_is)
    (case l18 => k_is)
    (case c18 => k_is)
    (case k18 => k_is)
    (case a19 => k_is)
    (case l19 => k_is)
    (case c19 => k_is)
    (case k19 => k_is)
    (case a20 => k_is)
    (case l20 => k_is)
    (case c20 => k_is)
    (case k20 => k_is)
    (case a21 => k_is)
    (case l21 => k_is)
    (case c21 => k_is)
    (case k21 => k_is)
    (case a22 => k_is)
    (case l22 => k_is)
    (case c22 => k_is)
    (case k22 => k_is)
    (case a23 => k_is)
    (case l23 => k_is)
    (case c23 => k_is)
    (case k23 => k_is)
    (case a24 => k_is)
    (case l24 => k_is)
    (case c24 => k_is)
    (case k24 => k_is)
    (case a25 => k_is)
    (case l25 => k_is)
    (case c25 => k_is)
    (case k25 => k_is)
    (case a26 => k_is)
    (case l26 => k_is)
    (case c26 => k_is)
    (case k26 => k_is)
    (case a27 => k_is)
    (case l27 => k_is)
    (case c27 => k_is)
    (case k27 => k_is)
    (case a28 => k_is)
    (case l28 => k_is)
    (case c28 => k_is)
    (case k28 => k_is)
    (case a29 => k_is)
    (case l29 => k_is)
    (case c29 => k_is)
    (case k29 => k_is)
    (case a30 => k_is)
    (case l30 => k_is)
    (case c30 => k_is)
    (case k30 => k_is)
    (case a31 => k_is)
    (case l31 => k_is)
    (case c31 => k_is)
    (case k31 => k_is)
    (case a32 => k_is)
    (case l32 => k_is)
    (case c32 => k_is)
    (case k32 => k_is)
    (case a33 => k_is)
    (case l33 => k_is)
    (case c33 => k_is)
    (case k33 => k_is)
    (case a34 => k_is)
    (case l34 => k_is)
    (case c34 => k_is)
    (case k34 => k_is)
    (case a35 => k_is)
    (case l35 => k_is)
    (case c35 => k_is)
    (case k35 => k_is)
    (case a36 => k_is)
    (case l36 => k_is)
    (case c36 => k_is)
    (case k36 => k_is)
    (case a37 => k_is)
    (case l37 => k_is)
    (case c37 => k_is)
    (case k37 => k_is)
    (case a38 => k_is)
    (case l38 => k_is)
    (case c38 => k_is)
    (case k38 => k_is)
    (case a39 => k_is)
    (case l39 => k_is)
    (case c39 => k_is)
    (case k39 => k_is)
    (case a40 => k_is)
    (case l40 => k_is)
    (case c40 => k_is)
    (case k40 => k_is)
    (case z_len => k_is)
    (case z_int => k_is)
    (case z_list => k_is)
    (case z_tuple => k_is)
    (case z_bool => k_is)
    (case z_str => k_is)
    (case z_range => k_is)
    (case z_enumerate => k_is)
    (case z_zip => k_is)
    (case z_isinstance => k_is)
    (case z_sum => k_is)
    (case z_all => k_is)
    (case z_min => k_is)
    (case z_max => k_is)
    (case z_repr => k_is)
    (case z_sorted => k_is)
    (case z_set => k_is)

