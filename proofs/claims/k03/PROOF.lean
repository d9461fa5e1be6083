import PyProof.Rows.All
import Wide.All
import OpenK.AllK
import Wide.FinOn
import HandS.Base
import HandS.Call
import HandS.List
import HandS.Comp
import HandS.Ends
import HandS.Iter
import HandS.Words
import HandS.ForMost
import HandS.IsInst
import HandS.Zip
import HandS.TupAny
import HandS.Codes
import KE.KTupSum
import HandS.TupSets
import HandS.Conv
import HandS.Style
import HandS.TupMul
import PyProof.ReprRoads
import PyProof.ReprBulk
import HandS.Sort
import HandS.SortInts
import HandS.SetFor
import KE.GoesMore
import PyProof.EnumMake
import PySem.Challenge.RW_rootparts_k03_deals_recognized
set_option Elab.async false
set_option linter.all false
set_option maxRecDepth 100000
set_option maxHeartbeats 4000000
namespace My
open PySem PySem.Spec PyProof.Rows L2

/-! ### a def of the text, ready to be called -/
structure Own (P : Program) (w : World) (K : PySem.W.Frag) (mg : Str → Option Value) (base : Heap) (x : Str) (k : Nat) (ps : List Str) (sp : Sp) : Prop where
  ex : ∃ (f : Addr) (fd : FuncData), FnOk P w K mg base CX0 k f fd ps sp ∧ mg x = some (.ref f) ∧ PySem.W.keepIn K (.ref f) = true ∧ Binds K fd ps []
theorem pe_own {X : Cx} {x : Str} {k : Nat} {ps : List Str} {sp : Sp} {p pos : Pos} {e : Expr} {es : List Expr} {t : TA} (D : Own X.prog X.w X.K X.mg X.base x k ps sp) (hr : Room k X.A) (hg : Gl X x) (ha : PA X (e :: es) t)
    (hdb : (x == ("__debug__" : Str)) = false := by decide) (he : starEach (e :: es) X.env = (false, eval e X.env) :: starEach es X.env := by rfl) (hpl : (backTo pos (starEach es X.env)).any (·.1) = false := by rfl) :
    PE X (.Call (.Name x p) (e :: es) [] pos) (tCall sp [] E0 t) := by
  obtain ⟨f, fd, F, m, kp, b⟩ := D.ex
  exact pe_call F hr hg m kp b .nil pass0 ha hdb he hpl
theorem Own.imp {P : Program} {w : World} {K : PySem.W.Frag} {mg : Str → Option Value} {base : Heap} {x : Str} {j k : Nat} {ps : List Str} {sp sp' : Sp} (D : Own P w K mg base x j ps sp) (h : j ≤ k)
    (hi : ∀ vs H Q E, sp' vs H Q E → sp vs H Q E) : Own P w K mg base x k ps sp' := by
  obtain ⟨f, fd, F, m, kp, b⟩ := D.ex
  exact ⟨f, fd, (F.mono h).imp hi, m, kp, b⟩
/-- where a def of the text stands -/
structure At (K : PySem.W.Frag) (mg : Str → Option Value) (x : Str) (st : Stmt) (ps : List Str) : Prop where
  ex : ∃ (f : Addr) (fd : FuncData), Fun K x x st f fd ∧ mg x = some (.ref f) ∧ Binds K fd ps []
theorem At.own {P : Program} {w : World} {K : PySem.W.Frag} {mg : Str → Option Value} {base : Heap} {x : Str} {st : Stmt} {ps : List Str} {k : Nat} {sp : Sp} (D : At K mg x st ps)
    (h : ∀ f fd, Fun K x x st f fd → FnOk P w K mg base CX0 k f fd ps sp) : Own P w K mg base x k ps sp := by
  obtain ⟨f, fd, F, m, b⟩ := D.ex
  exact ⟨f, fd, h f fd F, m, F.kp, b⟩

/-! ### the built-ins that no name of the text hides -/
structure Bn (mg : Str → Option Value) : Prop where
  len : mg "len" = none
  int_ : mg "int" = none
  list_ : mg "list" = none
  tuple_ : mg "tuple" = none
  bool_ : mg "bool" = none
  str_ : mg "str" = none
  range : mg "range" = none
  enumerate : mg "enumerate" = none
  zip : mg "zip" = none
  isinstance : mg "isinstance" = none
  sum : mg "sum" = none
  all : mg "all" = none
  min : mg "min" = none
  max : mg "max" = none
  repr : mg "repr" = none
  sorted : mg "sorted" = none
  set : mg "set" = none

/-! ### a heap without one address -/
def wo (p : Addr) (H : Hp) : Hp := fun b => if b = p then none else H b
theorem wo_ne {p b : Addr} {H : Hp} (h : b ≠ p) : wo p H b = H b := by unfold wo; rw [if_neg h]
theorem wo_some {p b : Addr} {H : Hp} {o : HO} (h : wo p H b = some o) : b ≠ p ∧ H b = some o := by
  unfold wo at h
  by_cases e : b = p
  · rw [if_pos e] at h; cases h
  · rw [if_neg e] at h; exact ⟨e, h⟩
theorem wo_le {p : Addr} {H : Hp} : Same (wo p H) H := fun b o h => (wo_some h).2
theorem Same.wo {p : Addr} {H H' : Hp} (s : Same H H') : Same (wo p H) (wo p H') := fun b o h => by
  obtain ⟨n, e⟩ := wo_some h
  rw [wo_ne n]
  exact s _ _ e
theorem Same.new {H : Hp} {p : Addr} {o : HO} (h : H p = none) : Same H (upd H p o) := fun b x e => by
  rw [upd_ne (ne_of_none e h)]
  exact e
theorem Same.sqt {K : PySem.W.Frag} {H H' : Hp} {a : Addr} {xs : List V} (e : Same H H') (h : SqT K H a xs) : SqT K H' a xs := by
  rcases h with (h | ⟨o, h⟩) | h
  · exact .inl (.inl (e _ _ h))
  · exact .inl (.inr ⟨o, e _ _ h⟩)
  · exact .inr h
/-- the object at p is changed -/
theorem Same.put {p : Addr} {H : Hp} {o : HO} : Same (My.wo p H) (My.wo p (upd H p o)) := fun b x h => by
  obtain ⟨n, e⟩ := wo_some h
  rw [wo_ne n, upd_ne n]
  exact e

/-! ### the pen -/
def Pen (H : Hp) (p c : Addr) (n : Nat) : Prop := ∃ (cs : List Int) (k left : Int), H p = some (.lst [.ref c, .int k, .int left]) ∧ H c = some (.lst (cs.map V.int)) ∧ cs.length ≤ 12 ∧ 0 ≤ k ∧ k ≤ n ∧ 0 ≤ left
section
variable {H H' : Hp} {p c q : Addr} {n m : Nat}
theorem Pen.same (s : Same H H') (h : Pen H p c n) : Pen H' p c n := by
  obtain ⟨cs, k, left, h1, h2, h3⟩ := h
  exact ⟨cs, k, left, s _ _ h1, s _ _ h2, h3⟩
theorem Pen.mono (h : Pen H p c n) (l : n ≤ m) : Pen H p c m := by
  obtain ⟨cs, k, left, h1, h2, h3, h4, h5, h6⟩ := h
  exact ⟨cs, k, left, h1, h2, h3, h4, by omega, h6⟩
theorem Pen.at (h : Pen H p c n) : ∃ o, H p = some o := by
  obtain ⟨cs, k, l, e, _⟩ := h
  exact ⟨_, e⟩
theorem Pen.ne (h : Pen H p c n) (hq : H q = none) : q ≠ p ∧ q ≠ c := by
  obtain ⟨cs, k, l, e, e2, _⟩ := h
  exact ⟨(ne_of_none e hq).symm, (ne_of_none e2 hq).symm⟩
/-- the pen stays where another object is changed -/
theorem Pen.upd {o : HO} (h : Pen H p c n) (hq : q ≠ p ∧ q ≠ c) : Pen (L2.upd H q o) p c n := by
  obtain ⟨cs, k, l, h1, h2, h3⟩ := h
  exact ⟨cs, k, l, (upd_ne hq.1.symm).trans h1, (upd_ne hq.2.symm).trans h2, h3⟩
end
theorem mul_bd {a b A B : Int} (h1 : 0 ≤ a) (h2 : a ≤ A) (h3 : 0 ≤ b) (h4 : b ≤ B) : 0 ≤ a * b ∧ a * b ≤ A * B :=
  ⟨Int.mul_nonneg h1 h3, Int.mul_le_mul h2 h4 h3 (Int.le_trans h1 h2)⟩
theorem small {n : Nat} (h : n ≤ 100000) : n ≤ sizeLine := Nat.le_trans h (by decide)
theorem smallT {n : Nat} (h : n ≤ 100000) : n < sizeLine := Nat.lt_of_le_of_lt h (by decide)
theorem dT {p : Prop} [Decidable p] (h : decide p = true) : p := of_decide_eq_true h
theorem dF {p : Prop} [Decidable p] (h : ¬ decide p = true) : ¬ p := fun q => h (decide_eq_true q)

theorem at_get {xs : List V} {i : Int} (h0 : 0 ≤ i) (h1 : i < xs.length) : ∃ v, xs[i.toNat]? = some v ∧ atI xs i = some v := by
  refine ⟨xs[i.toNat]'(by omega), List.getElem?_eq_getElem (by omega), ?_⟩
  have e : ((i.toNat : Nat) : Int) = i := by omega
  have h := atI_nat (xs := xs) (j := i.toNat) (List.getElem?_eq_getElem (by omega))
  rw [e] at h
  exact h
theorem at_int {cs : List Int} {i : Int} (h0 : 0 ≤ i) (h1 : i < cs.length) : ∃ z, cs[i.toNat]? = some z ∧ atI (cs.map V.int) i = some (.int z) := by
  obtain ⟨v, e, h⟩ := at_get (xs := cs.map V.int) h0 (by rw [List.length_map]; exact h1)
  rw [List.getElem?_map] at e
  cases q : cs[i.toNat]? with
  | none => rw [q] at e; cases e
  | some z =>
    rw [q] at e
    cases e
    exact ⟨z, rfl, h⟩

/-! ### promises of the law's own helpers -/
def spOpen (K : PySem.W.Frag) : Sp := fun vs H Q _ => ∃ (a : Addr) (ns : List Int), vs = [.ref a] ∧ SqL K H a (ns.map V.int) ∧ ns.length ≤ 63 ∧
  ∀ H' p c, Same H H' → H p = none → Pen H' p c 0 → Q (.ref p) H'
def spSpread : Sp := fun vs H Q _ => ∃ (cell k : Int), vs = [.int cell, .int k] ∧ 0 ≤ k ∧ k ≤ 1000000 ∧ ∀ H' r, Same H H' → 0 ≤ r → Q (.int r) H'
def spTake : Sp := fun vs H Q _ => ∃ (p c : Addr) (m : Int) (n : Nat), vs = [.ref p, .int m] ∧ Pen H p c n ∧ n ≤ 1000000 ∧ 1 ≤ m ∧ m ≤ 1000000 ∧
  ∀ r H', 0 ≤ r → r < m → Pen H' p c (n + 1) → Same (wo p H) (wo p H') → Q (.int r) H'
/-- the thirteen primes -/
def primes : List Int := [2147483629, 2147483587, 2147483579, 2147483563, 2147483549, 2147483543, 2147483497, 2147483489, 2147483477, 2147483423, 2147483399, 2147483353, 2147483323]
theorem prime_at {i : Int} (h0 : 0 ≤ i) (h1 : i < 13) : ∃ q : Int, atI (primes.map V.int) i = some (.int q) ∧ 0 < q ∧ q < 2147483648 := by
  have c : i = 0 ∨ i = 1 ∨ i = 2 ∨ i = 3 ∨ i = 4 ∨ i = 5 ∨ i = 6 ∨ i = 7 ∨ i = 8 ∨ i = 9 ∨ i = 10 ∨ i = 11 ∨ i = 12 := by omega
  rcases c with e | e | e | e | e | e | e | e | e | e | e | e | e <;> subst e <;> exact ⟨_, rfl, by decide, by decide⟩

/-! ### loops over enumerate, by a word -/
theorem for_enumL {K : PySem.W.Frag} {a : Addr} {xs : List V} {g : TG} {tb : TS} {D : Ends} {σ : L2.St} {H : Hp} (Pv : Nat → L2.St → Hp → Prop) (h0 : Pv 0 σ H) (hq : ∀ i σ H, i ≤ xs.length → Pv i σ H → SqL K H a xs)
    (hs : ∀ (i : Nat) (x : V) (T : Addr) (σ : L2.St) (H : Hp), xs[i]? = some x → Pv i σ H → H T = none → g (.ref T) σ (upd H T (.tup [.int (i : Nat), x])) fun σ2 H2 => tb { D with nx := Pv (i + 1), ct := Pv (i + 1), bk := D.nx } σ2 H2) (hd : ∀ σ H, Pv xs.length σ H → D.nx σ H) :
    ∃ W : Nat → Nat → L2.St → Hp → Prop, (∃ m, W 0 m σ H) ∧ ∀ i m σ H, W i m σ H →
      ((Ite K a).stop i H ∧ D.nx σ H) ∨ ((Ite K a).go i H ∧ ∃ N : L2.St → Hp → Prop, (∀ σ' H', N σ' H' → ∃ m', m' < m ∧ W (i + 1) m' σ' H') ∧ ∀ v H', (Ite K a).yld i H v H' → g v σ H' fun σ2 H2 => tb { D with nx := N, ct := N, bk := D.nx } σ2 H2) := by
  refine ⟨fun i m σ H => m = xs.length - i ∧ i ≤ xs.length ∧ Pv i σ H, ⟨xs.length, rfl, Nat.zero_le _, h0⟩, ?_⟩
  rintro i m σ H ⟨rfl, hi, p⟩
  have qx := hq i σ H hi p
  by_cases hlt : i < xs.length
  · have hx : xs[i]? = some xs[i] := List.getElem?_eq_getElem hlt
    refine .inr ⟨⟨xs, _, qx, hx⟩, Pv (i + 1), fun σ' H' p' => ⟨xs.length - (i + 1), by omega, rfl, hlt, p'⟩, fun v H' y => ?_⟩
    obtain ⟨T, x', rfl, hT, rfl, f1⟩ := y
    exact hs i x' T σ H (f1 xs qx) p hT
  · have e : i = xs.length := by omega
    subst e
    exact .inl ⟨⟨xs, qx, Nat.le_refl _⟩, hd σ H p⟩
/-- an item changed by place -/
theorem set_mapI {cs : List Int} {j : Nat} {z : Int} : (cs.map V.int).set j (.int z) = (cs.set j z).map V.int := by
  rw [List.map_set]

/-! ### sum of a tuple -/
def rSumT (K : PySem.W.Frag) : List V → Hp → VK → Prop := fun vs H Q => ∃ (a : Addr) (ns : List Int), vs = [V.ref a] ∧ SqT K H a (ns.map V.int) ∧ Q (.int ns.sum) H
theorem cr_sumT {X : Cx} (hc : X.calm = true) : CallR X (.builtin "sum") (rSumT X.K) := by
  intro pins s σ H vs us Q I r h
  obtain ⟨a, ns, rfl, hs, q⟩ := h
  obtain ⟨its, rv, hl, _⟩ := I.tuple hs
  rw [Vals.ref1 r]
  obtain ⟨xs, e⟩ := rv.ints.allInts.items
  have hn : numsOf (intItems xs).toList = ns := by rw [← e]; exact rv.ints.numsOf
  rw [nums_intItems] at hn
  have hl2 : s.heap.IsTuple a its.toArray := hl
  rw [e] at hl2
  refine PySem.W.ktm_sumG (I.ok.hd hc) hl2 fun h' tk t' hk => ?_
  rw [preSum_eq, List.take_of_length_le (by simp), hn]
  exact ⟨.int _, H, I.kept hk, ⟨_, rfl⟩, q⟩
end My

set_option Elab.async false
set_option linter.all false
set_option maxRecDepth 100000
set_option maxHeartbeats 4000000
namespace My
open PySem PySem.Spec PyProof.Rows L2

/-! ### comprehensions over zip and enumerate, by a word -/
theorem lc_zipL {K : PySem.W.Frag} {a b : Addr} {xs ys : List V} {g : TG} {tt : TT} {te : TE} {vs : List Nat} {σ : L2.St} {H1 : Hp} {D : Addr} {Qd : Hp → Prop} (hl : xs.length = ys.length) (Pv : Nat → Hp → Prop) (h0 : Pv 0 (upd H1 D (.lst [])))
    (hq : ∀ i H, Pv i H → SqL K H a xs ∧ SqL K H b ys)
    (hs : ∀ (i : Nat) (x y : V) (T : Addr) (H : Hp), xs[i]? = some x → ys[i]? = some y → Pv i H → H T = none → g (.ref T) (wipe σ vs) (upd H T (.tup [x, y])) fun σ2 H2 => wipe σ2 vs = wipe σ vs ∧ tt σ2 H2 fun b H3 =>
      if b = true then te σ2 H3 fun z H4 => ∃ acc, H4 D = some (.lst acc) ∧ acc.length < sizeLine ∧ Pv (i + 1) (upd H4 D (.lst (acc ++ [z]))) else Pv (i + 1) H3) (hd : ∀ H, Pv xs.length H → Qd H) :
    ∃ W : Nat → Nat → Hp → Prop, (∃ m, W 0 m (upd H1 D (.lst []))) ∧ ∀ i m H, W i m H →
      ((Itz K a b).stop i H ∧ Qd H) ∨ ((Itz K a b).go i H ∧ ∃ Nx : Hp → Prop, (∀ H', Nx H' → ∃ m', m' < m ∧ W (i + 1) m' H') ∧ ∀ x H', (Itz K a b).yld i H x H' → g x (wipe σ vs) H' fun σ2 H2 => wipe σ2 vs = wipe σ vs ∧ tt σ2 H2 fun b H3 =>
        if b = true then te σ2 H3 fun y H4 => ∃ acc, H4 D = some (.lst acc) ∧ acc.length < sizeLine ∧ Nx (upd H4 D (.lst (acc ++ [y]))) else Nx H3) := by
  refine ⟨fun i m H => m = xs.length - i ∧ i ≤ xs.length ∧ Pv i H, ⟨xs.length, rfl, Nat.zero_le _, h0⟩, ?_⟩
  rintro i m H ⟨rfl, hi, p⟩
  obtain ⟨qx, qy⟩ := hq i H p
  by_cases hlt : i < xs.length
  · have hx : xs[i]? = some xs[i] := List.getElem?_eq_getElem hlt
    have hlt2 : i < ys.length := by omega
    have hy : ys[i]? = some ys[i] := List.getElem?_eq_getElem hlt2
    refine .inr ⟨⟨xs, ys, _, _, qx, qy, hx, hy⟩, Pv (i + 1), fun H' p' => ⟨xs.length - (i + 1), by omega, rfl, hlt, p'⟩, fun v H' y => ?_⟩
    obtain ⟨T, x', y', rfl, hT, rfl, f1, f2⟩ := y
    exact hs i x' y' T H (f1 xs qx) (f2 ys qy) p hT
  · have e : i = xs.length := by omega
    subst e
    exact .inl ⟨⟨xs, ys, qx, qy, Or.inl (Nat.le_refl _)⟩, hd H p⟩
theorem lc_zipT {K : PySem.W.Frag} {a b : Addr} {xs ys : List V} {g : TG} {tt : TT} {te : TE} {vs : List Nat} {σ : L2.St} {H1 : Hp} {D : Addr} {Qd : Hp → Prop} (n : Nat) (hl : n = min xs.length ys.length) (Pv : Nat → Hp → Prop) (h0 : Pv 0 (upd H1 D (.lst [])))
    (hq : ∀ i H, Pv i H → SqT K H a xs ∧ SqT K H b ys)
    (hs : ∀ (i : Nat) (x y : V) (T : Addr) (H : Hp), xs[i]? = some x → ys[i]? = some y → Pv i H → H T = none → g (.ref T) (wipe σ vs) (upd H T (.tup [x, y])) fun σ2 H2 => wipe σ2 vs = wipe σ vs ∧ tt σ2 H2 fun b H3 =>
      if b = true then te σ2 H3 fun z H4 => ∃ acc, H4 D = some (.lst acc) ∧ acc.length < sizeLine ∧ Pv (i + 1) (upd H4 D (.lst (acc ++ [z]))) else Pv (i + 1) H3) (hd : ∀ H, Pv n H → Qd H) :
    ∃ W : Nat → Nat → Hp → Prop, (∃ m, W 0 m (upd H1 D (.lst []))) ∧ ∀ i m H, W i m H →
      ((RZ.ItzT K a b).stop i H ∧ Qd H) ∨ ((RZ.ItzT K a b).go i H ∧ ∃ Nx : Hp → Prop, (∀ H', Nx H' → ∃ m', m' < m ∧ W (i + 1) m' H') ∧ ∀ x H', (RZ.ItzT K a b).yld i H x H' → g x (wipe σ vs) H' fun σ2 H2 => wipe σ2 vs = wipe σ vs ∧ tt σ2 H2 fun b H3 =>
        if b = true then te σ2 H3 fun y H4 => ∃ acc, H4 D = some (.lst acc) ∧ acc.length < sizeLine ∧ Nx (upd H4 D (.lst (acc ++ [y]))) else Nx H3) := by
  refine ⟨fun i m H => m = n - i ∧ i ≤ n ∧ Pv i H, ⟨n, rfl, Nat.zero_le _, h0⟩, ?_⟩
  rintro i m H ⟨rfl, hi, p⟩
  obtain ⟨qx, qy⟩ := hq i H p
  by_cases hlt : i < n
  · have hlt1 : i < xs.length := by omega
    have hx : xs[i]? = some xs[i] := List.getElem?_eq_getElem hlt1
    have hlt2 : i < ys.length := by omega
    have hy : ys[i]? = some ys[i] := List.getElem?_eq_getElem hlt2
    refine .inr ⟨⟨xs, ys, _, _, qx, qy, hx, hy⟩, Pv (i + 1), fun H' p' => ⟨n - (i + 1), by omega, rfl, hlt, p'⟩, fun v H' y => ?_⟩
    obtain ⟨T, x', y', rfl, hT, rfl, f1, f2⟩ := y
    exact hs i x' y' T H (f1 xs qx) (f2 ys qy) p hT
  · have e : i = n := by omega
    subst e
    exact .inl ⟨⟨xs, ys, qx, qy, by omega⟩, hd H p⟩

/-! ### kinds -/
inductive Kd where
  | non | bl | int | str | lst | tup | dct
  deriving DecidableEq
def Kd.nm : Kd → String
  | .non => "NoneType" | .bl => "bool" | .int => "int" | .str => "str" | .lst => "list" | .tup => "tuple" | .dct => "dict"
/-- is a value of kind a an instance of the class of kind b -/
def Kd.is : Kd → Kd → Bool
  | .bl, .int => true
  | .non, .non => true | .bl, .bl => true | .int, .int => true | .str, .str => true | .lst, .lst => true | .tup, .tup => true | .dct, .dct => true
  | _, _ => false
def kd : PyData → Kd
  | .none => .non | .bool _ => .bl | .int _ => .int | .str _ => .str | .list _ => .lst | .tuple _ => .tup | .dict _ => .dct
section
variable {K : PySem.W.Frag} {H H' : Hp} {v : V}
abbrev Knd (K : PySem.W.Frag) (H : Hp) (v : V) (k : Kd) : Prop := TyX K H v (.type k.nm)
theorem kNon : Knd K H .non .non := .base .non
theorem kBl (b : Bool) : Knd K H (.bl b) .bl := .base (.bl b)
theorem kInt (i : Int) : Knd K H (.int i) .int := .base (.int i)
theorem kStr (x : Str) : Knd K H (.str x) .str := .base (.str x)
theorem kit_k (k c : Kd) : PySem.W.kitOne K (.type k.nm) (.type c.nm) = some (k.is c) := by
  cases k <;> cases c <;> exact kit_ty (by decide +kernel)
theorem isi_k {k : Kd} (c : Kd) {Q : VK} (h : Knd K H v k) (q : Q (.bl (k.is c)) H) : rIsi K [v, .ty c.nm] H Q :=
  ⟨v, .ty c.nm, .type k.nm, .type c.nm, k.is c, rfl, .ty _, h, kit_k k c, q⟩
theorem isi_k2 {k : Kd} (c d : Kd) {tp : Addr} {Q : VK} (ht : H tp = some (.tup [.ty c.nm, .ty d.nm])) (h : Knd K H v k) (q : Q (.bl (k.is c || k.is d)) H) : rIsiT K [v, .ref tp] H Q := by
  refine ⟨v, tp, _, .type k.nm, [.type c.nm, .type d.nm], k.is c || k.is d, rfl, ht, .cons (.ty _) (.cons (.ty _) .nil), h, ?_, q⟩
  refine kitAny_cons (kit_k k c) (fun e => ?_) (fun e => by rw [e]; rfl)
  rw [e]
  refine kitAny_cons (kit_k k d) (fun e => ?_) (fun e => by rw [e]; rfl)
  rw [e]
  rfl
theorem isiV {k : Kd} (c : Kd) {σ : L2.St} {i : Nat} {Q : VK} (hv : σ[i]? = some (some v)) (h : Knd K H v k) (q : Q (.bl (k.is c)) H) : tCB (rIsi K) (tCons (tVar i) (tCons (tC (.ty c.nm)) tNil)) σ H Q :=
  ⟨v, hv, isi_k c h q⟩
theorem sql_knd {a : Addr} {xs : List V} (h : SqL K H a xs) : Knd K H (.ref a) .lst := by
  rcases h with (h | ⟨o, h⟩) | ⟨o, its, n, hk, hc, _⟩
  · exact .base (.lst h)
  · exact .base (.frz h)
  · exact .kList hk hc
theorem sqt_knd {a : Addr} {xs : List V} (h : SqT K H a xs) : Knd K H (.ref a) .tup := by
  rcases h with (h | ⟨o, h⟩) | ⟨o, its, n, hk, hc, _⟩
  · exact .base (.tup h)
  · exact .fTuple h
  · exact .kTuple hk hc
theorem Dp.knd {d : PyData} (h : Dp K H v d) : Knd K H v (kd d) := by
  cases h with
  | non => exact .base .non
  | bl b => exact .base (.bl b)
  | int i => exact .base (.int i)
  | str x => exact .base (.str x)
  | lst h _ => exact sql_knd h
  | tup h _ => exact sqt_knd h
theorem tyx_same {t : Value} (s : Same H H') (h : TyX K H v t) : TyX K H' v t := by
  cases h with
  | base b =>
    cases b with
    | non => exact .base .non
    | bl b => exact .base (.bl b)
    | int i => exact .base (.int i)
    | str x => exact .base (.str x)
    | flt x => exact .base (.flt x)
    | lst e => exact .base (.lst (s _ _ e))
    | frz e => exact .base (.frz (s _ _ e))
    | tup e => exact .base (.tup (s _ _ e))
    | dK e => exact .base (.dK (s _ _ e))
    | dT e => exact .base (.dT (s _ _ e))
    | ins e c1 c2 c3 c4 c5 => exact .base (.ins (s _ _ e) c1 c2 c3 c4 c5)
  | byt b => exact .byt b
  | set e => exact .set (s _ _ e)
  | kList e c => exact .kList e c
  | kTuple e c => exact .kTuple e c
  | kDict e c => exact .kDict e c
  | fTuple e => exact .fTuple (s _ _ e)
  | fDict e => exact .fDict (s _ _ e)
theorem isiV2 {k : Kd} (c d : Kd) {σ : L2.St} {i : Nat} {Q : VK} (hv : σ[i]? = some (some v)) (h : Knd K H v k) (q : ∀ H', Same H H' → Q (.bl (k.is c || k.is d)) H') :
    tCB (rIsiT K) (tCons (tVar i) (tCons (tTup (tCons (tC (.ty c.nm)) (tCons (tC (.ty d.nm)) tNil))) tNil)) σ H Q :=
  ⟨v, hv, by show 2 ≤ sizeLine; decide, fun t n => isi_k2 c d upd_same (tyx_same (Same.new n) h) (q _ (Same.new n))⟩
mutual
theorem Dp.same (s : Same H H') : ∀ {d : PyData} {v : V}, Dp K H v d → Dp K H' v d
  | _, _, .non => .non
  | _, _, .bl b => .bl b
  | _, _, .int i => .int i
  | _, _, .str x => .str x
  | _, _, .lst h a => .lst (s.seq h) (DpAll.same s a)
  | _, _, .tup h a => .tup (My.Same.sqt s h) (DpAll.same s a)
theorem DpAll.same (s : Same H H') : ∀ {ds : List PyData} {vs : List V}, DpAll K H vs ds → DpAll K H' vs ds
  | _, _, .nil => .nil
  | _, _, .cons h t => .cons (Dp.same s h) (DpAll.same s t)
end
theorem DpAll.len : ∀ {ds : List PyData} {vs : List V}, DpAll K H vs ds → vs.length = ds.length
  | _, _, .nil => rfl
  | _, _, .cons _ t => congrArg (· + 1) (DpAll.len t)
theorem DpAll.get : ∀ {ds : List PyData} {vs : List V} {i : Nat} {v : V}, DpAll K H vs ds → vs[i]? = some v → ∃ d, ds[i]? = some d ∧ Dp K H v d
  | _, _, i, v, .nil, e => by simp at e
  | d :: ds, _, 0, v, .cons h t, e => by
    simp at e
    subst e
    exact ⟨d, rfl, h⟩
  | _ :: ds, _, i + 1, v, .cons h t, e => by
    obtain ⟨d, e1, e2⟩ := DpAll.get (i := i) t (by simpa using e)
    exact ⟨d, by simpa using e1, e2⟩
theorem DpAll.mk : ∀ {ds : List PyData} {vs : List V}, vs.length = ds.length → (∀ (i : Nat) (v : V) (d : PyData), vs[i]? = some v → ds[i]? = some d → Dp K H v d) → DpAll K H vs ds
  | [], [], _, _ => DpAll.nil
  | d :: ds, v :: vs, l, h => .cons (h 0 v d rfl rfl) (DpAll.mk (by simpa using l) fun i v d e1 e2 => h (i + 1) v d (by simpa using e1) (by simpa using e2))
  | [], _ :: _, l, _ => by simp at l
  | _ :: _, [], l, _ => by simp at l
theorem DpAll.ints (ns : List Int) : DpAll K H (ns.map V.int) (ns.map PyData.int) := by
  induction ns with
  | nil => exact .nil
  | cons n ns ih => exact .cons (.int n) ih
end
/-- data of fewer than n levels, no dicts -/
def Fit : Nat → PyData → Prop
  | 0, _ => False
  | n + 1, d => match d with
    | .list ds => ds.length ≤ 100000 ∧ ∀ e ∈ ds, Fit n e
    | .tuple ds => ds.length ≤ 100000 ∧ ∀ e ∈ ds, Fit n e
    | .dict _ => False
    | _ => True
theorem Fit.mono : ∀ {n m : Nat} {d : PyData}, Fit n d → n ≤ m → Fit m d
  | 0, _, _, h, _ => h.elim
  | n + 1, 0, _, _, l => by omega
  | n + 1, m + 1, d, h, l => by
    cases d with
    | list ds => exact ⟨h.1, fun e he => (h.2 e he).mono (by omega)⟩
    | tuple ds => exact ⟨h.1, fun e he => (h.2 e he).mono (by omega)⟩
    | dict _ => exact h.elim
    | _ => trivial
/-- _law_same of equal data -/
def spSame (K : PySem.W.Frag) (n : Nat) : Sp := fun vs H Q _ => ∃ (x y : V) (d : PyData), vs = [x, y] ∧ Dp K H x d ∧ Dp K H y d ∧ Fit n d ∧ ∀ H', Same H H' → Q (.bl true) H'
theorem iteTT {A B : Prop} {c : Bool} (e : c = true) (h : A) : if c = true then A else B := by rw [if_pos e]; exact h
theorem iteFF {A B : Prop} {c : Bool} (e : c = false) (h : B) : if c = true then A else B := by
  rw [e]
  exact iteF h
theorem notIn_all (n : Nat) : ∀ bs : List V, (∀ b ∈ bs, b = V.bl true) → inV (.bl false) bs = false ∧ bs.all flatV = true
  | [], _ => ⟨rfl, rfl⟩
  | b :: r, h => by
    obtain ⟨e1, e2⟩ := notIn_all n r fun c hc => h c (List.mem_cons_of_mem _ hc)
    have e := h b List.mem_cons_self
    subst e
    unfold inV at e1 ⊢
    rw [List.any_cons, e1, List.all_cons, e2]
    exact ⟨rfl, rfl⟩
/-! ### the rules with the written part named: within a comprehension's block too -/
section
variable {X : Cx} (K : PySem.W.Frag)
def rLenQ (K : PySem.W.Frag) : List V → Hp → VK → Prop := fun xs H Q => ∃ p ys, xs = [.ref p] ∧ (SqL K H p ys ∨ SqT K H p ys) ∧ Q (.int ys.length) H
def rListOf (K : PySem.W.Frag) : List V → Hp → VK → Prop := fun xs H Q => ∃ p ys, xs = [.ref p] ∧ (SqL K H p ys ∨ SqT K H p ys) ∧ ∀ l, H l = none → Q (.ref l) (upd H l (.lst ys))
def rTupleOf (K : PySem.W.Frag) : List V → Hp → VK → Prop := fun xs H Q => ∃ p ys, xs = [.ref p] ∧ ((SqL K H p ys ∧ ∀ l, H l = none → Q (.ref l) (upd H l (.tup ys))) ∨ (SqT K H p ys ∧ Q (.ref p) H))
theorem ixL (h : X.K = K := by rfl) : IxR X (rIxL K) := by subst h; exact ix_list
theorem ixT (h : X.K = K := by rfl) : IxR X (rIxT K) := by subst h; exact ix_tup
theorem slL (h : X.K = K := by rfl) : SlR X (rSlL K) := by subst h; exact sl_list
theorem slT (h : X.K = K := by rfl) : SlR X (rSlA K) := by subst h; exact sl_tupA
theorem catA (h : X.K = K := by rfl) : OpR X (binaryOp .Add) (rCatA K) := by subst h; exact op_catA
theorem eqD (hu : X.A.units + 64 < cLine) (h : X.K = K := by rfl) : OpR X (compareOp .Eq) (rEqD K) := by subst h; exact op_eqD hu
theorem neD (hu : X.A.units + 64 < cLine) (h : X.K = K := by rfl) : OpR X (compareOp .NotEq) (rNeD K) := by subst h; exact op_neD hu
theorem ltT (hu : X.A.units < cLine) (h : X.K = K := by rfl) : OpR X (compareOp .Lt) (rLtT K) := by subst h; exact op_ltT hu
theorem inQ (h : X.K = K := by rfl) : OpR X (compareOp .In) (rIn K false) := by subst h; exact op_in_seq
theorem notInQ (h : X.K = K := by rfl) : OpR X (compareOp .NotIn) (rIn K true) := by subst h; exact op_notIn_seq
theorem lenQ (h : X.K = K := by rfl) : CallR X (.builtin "len") (rLenQ K) := by subst h; exact call_len_seq
theorem listOf (h : X.K = K := by rfl) : CallR X (.type "list") (rListOf K) := by subst h; exact call_list_of
theorem tupleOf (h : X.K = K := by rfl) : CallR X (.type "tuple") (rTupleOf K) := by subst h; exact call_tuple_of
theorem isi (h : X.K = K := by rfl) : CallR X (.builtin "isinstance") (rIsi K) := by subst h; exact call_isi
theorem isiT (h : X.K = K := by rfl) : CallR X (.builtin "isinstance") (rIsiT K) := by subst h; exact call_isiT
theorem sumL (hc : X.calm = true) (h : X.K = K := by rfl) : CallR X (.builtin "sum") (rSum K) := by subst h; exact cr_sum hc
theorem sumT (hc : X.calm = true) (h : X.K = K := by rfl) : CallR X (.builtin "sum") (rSumT K) := by subst h; exact cr_sumT hc
theorem allL (hc : X.calm = true) (h : X.K = K := by rfl) : CallR X (.builtin "all") (rAll K) := by subst h; exact cr_all hc
theorem pi_listK {tg l : Expr} {tl : TE} (hl : PE X l tl) (h : X.K = K := by rfl) : PI X tg l (iList K tl) := by subst h; exact pi_list hl
theorem pi_tupK {tg l : Expr} {tl : TE} (hl : PE X l tl) (h : X.K = K := by rfl) : PI X tg l (iTup K tl) := by subst h; exact pi_tup hl
theorem pi_zipK {e e2 : Expr} {ta : TA} {p pos tpos : Pos} {elts : List Expr} {kk : Nat} (hg : Gl X "zip") (hm : X.mg "zip" = none) (ha : PA X [e, e2] ta) (h : X.K = K := by rfl)
    (hs : starEach [e, e2] X.env = (false, eval e X.env) :: starEach [e2] X.env := by rfl) (hpl : (backTo pos (starEach [e2] X.env)).any (·.1) = false := by rfl) :
    PI X (.Tuple elts kk tpos) (.Call (.Name "zip" p) [e, e2] [] pos) (RZ.iZipA K ta) := by subst h; exact RZ.pi_zipA hg hm ha hs hpl
theorem pi_enumK {e : Expr} {ta : TA} {p pos tpos : Pos} {elts : List Expr} {kk : Nat} (hg : Gl X "enumerate") (hm : X.mg "enumerate" = none) (ha : PA X [e] ta) (h : X.K = K := by rfl) (hs : starEach [e] X.env = [(false, eval e X.env)] := by rfl) :
    PI X (.Tuple elts kk tpos) (.Call (.Name "enumerate" p) [e] [] pos) (iEnum K ta) := by subst h; exact pi_enum hg hm ha hs
theorem pg_tupK (n : Nat) {es : List Expr} {k : Nat} {t : TGs} {pos : Pos} (hc : X.calm = true) (h : PGs X es t) (hK : X.K = K := by rfl)
    (hn : (assignEach es X.env).length = n := by rfl) (hst : (assignEach es X.env).findIdx? (·.1) = none := by rfl) : PG X (.Tuple es k pos) (gTup K n t) := by subst hK; exact pg_tup hc h hn hst
theorem pe_bmK {o e : Expr} {es : List Expr} {to : TE} {t : TA} {name : Str} {apos cpos : Pos} {T id : String} {r : V → List V → Hp → VK → Prop}
    (pa : PlainAttrs T) (slot : Slot T name id) (hty : typeOf (.builtin id) = pure (.type "method_descriptor")) (hm : MtR X id r) (ho : PE X o to) (ha : PA X (e :: es) t) (hK : X.K = K := by rfl)
    (hbase : attributeBase o name X.env (eval o X.env) = eval o X.env := by rfl)
    (hfew : ((backTo cpos (starEach (e :: es) X.env)).all (fun x => !x.1) && (backToKw cpos (keywordEach [] X.env)).all (fun x => x.1.isSome)
      && decide ((e :: es).length + ([] : List Keyword).length + (if ([] : List Keyword).isEmpty then 0 else 1) < 30)) = true := by rfl)
    (hline : (apos.endLine == cpos.line) = true := by rfl) (hs : starEach (e :: es) X.env = (false, eval e X.env) :: starEach es X.env := by rfl) (hplain : (backTo cpos (starEach es X.env)).any (·.1) = false := by rfl) :
    PE X (.Call (.Attribute o name apos) (e :: es) [] cpos) (tBM K T r to t) := by subst hK; exact pe_bm pa slot hty hm ho ha hbase hfew hline hs hplain
end
end My

set_option Elab.async false
set_option linter.all false
set_option maxRecDepth 100000
set_option maxHeartbeats 4000000
namespace My
open PySem PySem.Spec PyProof.Rows L2

/-! ### comprehensions with two clauses -/
theorem lc2_range {lo : Int} {n : Nat} {D : Addr} {H1 : Hp} {Qd : Hp → Prop} {T : (Hp → Prop) → V → Hp → Prop} (Pv : Nat → Hp → Prop) (h0 : Pv 0 (upd H1 D (.lst [])))
    (hs : ∀ i H, i < n → Pv i H → T (Pv (i + 1)) (.int (lo + i)) H) (hd : ∀ H, Pv n H → Qd H) :
    ∃ W : Nat → Nat → Hp → Prop, (∃ m, W 0 m (upd H1 D (.lst []))) ∧ ∀ i m H, W i m H →
      ((Itr lo n).stop i H ∧ Qd H) ∨ ((Itr lo n).go i H ∧ ∃ Nx : Hp → Prop, (∀ H', Nx H' → ∃ m', m' < m ∧ W (i + 1) m' H') ∧ ∀ x H', (Itr lo n).yld i H x H' → T Nx x H') := by
  refine ⟨fun i m H => m = n - i ∧ i ≤ n ∧ Pv i H, ⟨n, by simp, Nat.zero_le _, h0⟩, ?_⟩
  rintro i m H ⟨rfl, hi, p⟩
  by_cases hlt : i < n
  · refine .inr ⟨hlt, Pv (i + 1), fun H' p' => ⟨n - (i + 1), by omega, rfl, hlt, p'⟩, fun x H' y => ?_⟩
    obtain ⟨e, y⟩ := y
    subst e y
    exact hs i _ hlt p
  · have e : i = n := by omega
    subst e
    exact .inl ⟨Nat.le_refl _, hd H p⟩
theorem in_list {K : PySem.W.Frag} {a : Addr} {xs : List V} {H4 : Hp} {Qd : Hp → Prop} {T : (Hp → Prop) → V → Hp → Prop} (Pv : Nat → Hp → Prop) (h0 : Pv 0 H4) (hl : ∀ i H, i ≤ xs.length → Pv i H → SqL K H a xs)
    (hs : ∀ (i : Nat) (x : V) H, xs[i]? = some x → Pv i H → T (Pv (i + 1)) x H) (hd : ∀ H, Pv xs.length H → Qd H) :
    ∃ W : Nat → Nat → Hp → Prop, (∃ m, W 0 m H4) ∧ ∀ i m H, W i m H →
      ((Itl K a).stop i H ∧ Qd H) ∨ ((Itl K a).go i H ∧ ∃ Nx : Hp → Prop, (∀ H', Nx H' → ∃ m', m' < m ∧ W (i + 1) m' H') ∧ ∀ x H', (Itl K a).yld i H x H' → T Nx x H') := by
  refine ⟨fun i m H => m = xs.length - i ∧ i ≤ xs.length ∧ Pv i H, ⟨xs.length, by simp, Nat.zero_le _, h0⟩, ?_⟩
  rintro i m H ⟨rfl, hi, p⟩
  have q := hl i H hi p
  by_cases hlt : i < xs.length
  · refine .inr ⟨⟨xs, xs[i], q, by simp [hlt]⟩, Pv (i + 1), fun H' p' => ⟨xs.length - (i + 1), by omega, rfl, hlt, p'⟩, fun x H' y => ?_⟩
    obtain ⟨e, y⟩ := y
    subst e
    exact hs i x _ (y xs q) p
  · have e : i = xs.length := by omega
    subst e
    exact .inl ⟨⟨xs, q, Nat.le_refl _⟩, hd H p⟩
theorem in_range {lo : Int} {n : Nat} {H4 : Hp} {Qd : Hp → Prop} {T : (Hp → Prop) → V → Hp → Prop} (Pv : Nat → Hp → Prop) (h0 : Pv 0 H4)
    (hs : ∀ i H, i < n → Pv i H → T (Pv (i + 1)) (.int (lo + i)) H) (hd : ∀ H, Pv n H → Qd H) :
    ∃ W : Nat → Nat → Hp → Prop, (∃ m, W 0 m H4) ∧ ∀ i m H, W i m H →
      ((Itr lo n).stop i H ∧ Qd H) ∨ ((Itr lo n).go i H ∧ ∃ Nx : Hp → Prop, (∀ H', Nx H' → ∃ m', m' < m ∧ W (i + 1) m' H') ∧ ∀ x H', (Itr lo n).yld i H x H' → T Nx x H') := by
  refine ⟨fun i m H => m = n - i ∧ i ≤ n ∧ Pv i H, ⟨n, by simp, Nat.zero_le _, h0⟩, ?_⟩
  rintro i m H ⟨rfl, hi, p⟩
  by_cases hlt : i < n
  · refine .inr ⟨hlt, Pv (i + 1), fun H' p' => ⟨n - (i + 1), by omega, rfl, hlt, p'⟩, fun x H' y => ?_⟩
    obtain ⟨e, y⟩ := y
    subst e y
    exact hs i _ hlt p
  · have e : i = n := by omega
    subst e
    exact .inl ⟨Nat.le_refl _, hd H p⟩

/-! ### data -/
section
variable {K : PySem.W.Frag} {H H' : Hp}
theorem DpAll.append : ∀ {ds es : List PyData} {vs us : List V}, DpAll K H vs ds → DpAll K H us es → DpAll K H (vs ++ us) (ds ++ es)
  | _, _, _, _, .nil, h => h
  | _, _, _, _, .cons h t, g => .cons h (DpAll.append t g)
theorem DpAll.snoc {ds : List PyData} {d : PyData} {vs : List V} {v : V} (h : DpAll K H vs ds) (g : Dp K H v d) : DpAll K H (vs ++ [v]) (ds ++ [d]) := DpAll.append h (.cons g .nil)
/-- an open place of a heap without D -/
theorem wo_none {D : Addr} {p : Addr} (h : H p = none) : wo D H p = none := by
  unfold wo
  by_cases e : p = D
  · rw [if_pos e]
  · rw [if_neg e]; exact h
theorem wo_new {D : Addr} {o : HO} (h : H D = none) : Same H (wo D (upd H D o)) := fun b x e => by
  have hb := ne_of_none e h
  rw [wo_ne hb, upd_ne hb]
  exact e
/-- a new tuple, seen without D -/
theorem tup_wo {D p : Addr} {xs : List V} {ds : List PyData} {o : HO} (hD : H D = some o) (hp : H p = none) (h : DpAll K (wo D H) xs ds) : Dp K (wo D (upd H p (.tup xs))) (.ref p) (.tuple ds) := by
  have hne : p ≠ D := (ne_of_none hD hp).symm
  refine .tup (SqT.of ((wo_ne hne).trans upd_same)) (DpAll.same ?_ h)
  exact Same.wo (Same.new hp)
theorem tup_new {p : Addr} {xs : List V} {ds : List PyData} (hp : H p = none) (h : DpAll K H xs ds) : Dp K (upd H p (.tup xs)) (.ref p) (.tuple ds) := .tup (SqT.of upd_same) (DpAll.same (Same.new hp) h)
theorem DpAll.int_vals : ∀ {ns : List Int} {vs : List V}, DpAll K H vs (ns.map PyData.int) → vs = ns.map V.int
  | [], _, .nil => rfl
  | n :: ns, _, .cons h t => by
    cases h
    rw [DpAll.int_vals t]
    rfl
/-- a tuple of ints as a datum -/
def tI (ns : List Int) : PyData := .tuple (ns.map PyData.int)
theorem Dp.tI {v : V} {ns : List Int} (h : Dp K H v (tI ns)) : ∃ a, v = .ref a ∧ SqT K H a (ns.map V.int) := by
  cases h with
  | tup q l =>
    rw [DpAll.int_vals l] at q
    exact ⟨_, rfl, q⟩
theorem Dp.ofTI {a : Addr} {ns : List Int} (h : SqT K H a (ns.map V.int)) : Dp K H (.ref a) (My.tI ns) := .tup h (DpAll.ints ns)
theorem sqt_wo {a D : Addr} {xs us : List V} (h : SqT K H a xs) (hD : H D = some (.lst us)) : SqT K (wo D H) a xs := by
  rcases h with (h | ⟨o, h⟩) | h
  · have hne : a ≠ D := ne_of h hD (by intro z; cases z)
    exact .inl (.inl ((wo_ne hne).trans h))
  · have hne : a ≠ D := ne_of h hD (by intro z; cases z)
    exact .inl (.inr ⟨o, (wo_ne hne).trans h⟩)
  · exact .inr h
theorem tI_wo {D : Addr} {us : List V} (hD : H D = some (.lst us)) : ∀ {L : List (List Int)} {vs : List V}, DpAll K H vs (L.map tI) → DpAll K (wo D H) vs (L.map tI)
  | [], _, .nil => .nil
  | s :: L, _, .cons h t => by
    obtain ⟨a, rfl, q⟩ := Dp.tI h
    exact .cons (Dp.ofTI (sqt_wo q hD)) (tI_wo hD t)
theorem Same.updD {D : Addr} {o : HO} (s : Same H H') (n : H D = none) : Same H (upd H' D o) := fun b x e => by
  rw [upd_ne (ne_of_none e n)]
  exact s _ _ e
theorem push {D : Addr} {us : List V} {y : V} {ds : List PyData} {d : PyData} (hus : DpAll K (wo D H) us ds) (hy : Dp K (wo D H) y d) :
    upd H D (.lst (us ++ [y])) D = some (.lst (us ++ [y])) ∧ DpAll K (wo D (upd H D (.lst (us ++ [y])))) (us ++ [y]) (ds ++ [d]) :=
  ⟨upd_same, DpAll.snoc (DpAll.same Same.put hus) (Dp.same Same.put hy)⟩
theorem DpAll.getD {ds : List PyData} {vs : List V} {i : Nat} {v : V} (h : DpAll K H vs ds) (e : vs[i]? = some v) : ∃ d, ds[i]? = some d ∧ Dp K H v d := DpAll.get h e
theorem tI_get {L : List (List Int)} {vs : List V} {i : Nat} {v : V} (h : DpAll K H vs (L.map tI)) (e : vs[i]? = some v) : ∃ s a, L[i]? = some s ∧ v = .ref a ∧ SqT K H a (s.map V.int) := by
  obtain ⟨d, e1, e2⟩ := DpAll.get h e
  rw [List.getElem?_map] at e1
  cases q : L[i]? with
  | none => rw [q] at e1; cases e1
  | some s =>
    rw [q] at e1
    cases e1
    obtain ⟨a, r, t⟩ := Dp.tI e2
    exact ⟨s, a, rfl, r, t⟩
end

section
variable {X : Cx} (K : PySem.W.Frag) (P : Program) (w : World)
theorem setOfT (hc : X.calm = true) (hu : X.A.units + 64 < cLine) (h : X.K = K := by rfl) (hP : X.prog = P := by rfl) (hw : X.w = w := by rfl) : CallR X (.type "set") (rSetOfT K P w) := by subst h hP hw; exact cr_setOfT hc hu
theorem sortedT (hc : X.calm = true) (h : X.K = K := by rfl) (hP : X.prog = P := by rfl) (hw : X.w = w := by rfl) : CallR X (.builtin "sorted") (rSortedT K P w) := by subst h hP hw; exact cr_sortedT hc
theorem repT (h : X.K = K := by rfl) : OpR X (binaryOp .Mult) (rRepT K) := by subst h; exact op_repT
/-- a walk over a list or a tuple -/
def iSeq (K : PySem.W.Frag) (tl : TE) : TI := fun σ H R => iList K tl σ H R ∨ iTup K tl σ H R
theorem pi_seqK {tg l : Expr} {tl : TE} (hl : PE X l tl) (h : X.K = K := by rfl) : PI X tg l (iSeq K tl) := by
  subst h
  refine ⟨fun pins s σ H R I q => ?_⟩
  rcases q with q | q
  · exact (pi_list hl).run pins s σ H R I q
  · exact (pi_tup hl).run pins s σ H R I q
end
section
variable {K : PySem.W.Frag} {H H' : Hp}
theorem wo_upd {p q : Addr} {o : HO} (h : q ≠ p) : wo p (upd H q o) = upd (wo p H) q o := by
  funext b
  by_cases e : b = p
  · have hb : b ≠ q := fun z => h (z.symm.trans e)
    rw [upd_ne hb]
    show (if b = p then none else _) = (if b = p then none else _)
    rw [if_pos e, if_pos e]
  · rw [wo_ne e]
    by_cases e2 : b = q
    · subst e2
      rw [upd_same, upd_same]
    · rw [upd_ne e2, upd_ne e2, wo_ne e]
end

theorem map_erase {α β : Type} (f : α → β) : ∀ (l : List α) (i : Nat), (l.map f).eraseIdx i = (l.eraseIdx i).map f
  | [], _ => rfl
  | _ :: _, 0 => rfl
  | a :: l, i + 1 => congrArg (f a :: ·) (map_erase f l i)
theorem erase_perm {α : Type} : ∀ {l : List α} {i : Nat} {z : α}, l[i]? = some z → (z :: l.eraseIdx i).Perm l
  | [], _, _, h => by simp at h
  | a :: l, 0, z, h => by
    have e : a = z := Option.some.inj h
    subst e
    exact .refl _
  | a :: l, i + 1, z, h => (List.Perm.swap a z _).trans ((erase_perm (l := l) (i := i) h).cons a)

/-! ### promises of the draws -/
/-- 0, 1, .. k - 1 -/
def ups (k : Nat) : List Int := (List.range k).map fun (i : Nat) => (i : Int)
theorem ups_len (k : Nat) : (ups k).length = k := by unfold ups; rw [List.length_map, List.length_range]
theorem mem_ups {k : Nat} {x : Int} : x ∈ ups k ↔ 0 ≤ x ∧ x < k := by
  unfold ups
  rw [List.mem_map]
  constructor
  · rintro ⟨i, hi, rfl⟩
    have := List.mem_range.mp hi
    omega
  · rintro ⟨h0, h1⟩
    exact ⟨x.toNat, List.mem_range.mpr (by omega), by omega⟩
def spOneOf (K : PySem.W.Frag) : Sp := fun vs H Q _ => ∃ (p c : Addr) (n : Nat) (l : Addr) (xs : List V), vs = [.ref p, .ref l] ∧ Pen H p c n ∧ n ≤ 1000000 ∧ SqL K (wo p H) l xs ∧ 1 ≤ xs.length ∧ xs.length ≤ 100000 ∧
  ∀ (j : Nat) x H', xs[j]? = some x → Pen H' p c (n + 1) → Same (wo p H) (wo p H') → Q x H'
def spOrder (K : PySem.W.Frag) : Sp := fun vs H Q _ => ∃ (p c : Addr) (n k : Nat), vs = [.ref p, .int k] ∧ Pen H p c n ∧ n ≤ 900000 ∧ k ≤ 1000 ∧
  ∀ (q : Addr) (o : List Int) H', o.Perm (ups k) → Pen H' p c (n + k) → Same (wo p H) (wo p H') → wo p H q = none → SqT K (wo p H') q (o.map V.int) → Q (.ref q) H'

/-! ### webs -/
def prI (t : Int × Int) : List Int := [t.1, t.2]
def webD (n : Int) (T : List (Int × Int)) : PyData := .tuple [.int n, .tuple (T.map fun t => tI (prI t))]
def ltP (s t : Int × Int) : Prop := s.1 < t.1 ∨ (s.1 = t.1 ∧ s.2 < t.2)
def lowP (t : Int × Int) : Int × Int := (if t.2 < t.1 then t.2 else t.1, if t.2 > t.1 then t.2 else t.1)
/-- T: the pairs ps of two different places, each once, ascending, the lesser place first -/
def Canon (ps T : List (Int × Int)) : Prop := T.Pairwise ltP ∧ ∀ t, t ∈ T ↔ ∃ s ∈ ps, s.1 ≠ s.2 ∧ t = lowP s
def spWeb (K : PySem.W.Frag) : Sp := fun vs H Q _ => ∃ (n : Int) (l : Addr) (us : List V) (ps : List (Int × Int)), vs = [.int n, .ref l] ∧ (SqL K H l us ∨ SqT K H l us) ∧ DpAll K H us ((ps.map prI).map tI) ∧ ps.length < 64 ∧
  (∀ s ∈ ps, (0 ≤ s.1 ∧ s.1 < 64) ∧ 0 ≤ s.2 ∧ s.2 < 64) ∧ ∀ (q : Addr) T H', Canon ps T → Same H H' → H q = none → Dp K H' (.ref q) (webD n T) → Q (.ref q) H'
section
variable {K : PySem.W.Frag} {H H' : Hp}
theorem ks_of : ∀ {L : List (List Int)} {vs : List V}, DpAll K H vs (L.map tI) → ∃ ks : List (Addr × List Int), vs = ks.map (fun p => V.ref p.1) ∧ ks.map (·.2) = L ∧ ∀ p ∈ ks, SqT K H p.1 (p.2.map V.int)
  | [], _, .nil => ⟨[], rfl, rfl, fun _ h => nomatch h⟩
  | s :: L, _, .cons h t => by
    obtain ⟨a, rfl, q⟩ := Dp.tI h
    obtain ⟨ks, rfl, rfl, hk⟩ := ks_of t
    refine ⟨(a, s) :: ks, rfl, rfl, fun p hp => ?_⟩
    rcases List.mem_cons.mp hp with rfl | hp
    · exact q
    · exact hk p hp
theorem ks_to : ∀ {ks : List (Addr × List Int)}, (∀ p ∈ ks, SqT K H p.1 (p.2.map V.int)) → DpAll K H (ks.map fun p => V.ref p.1) ((ks.map (·.2)).map tI)
  | [], _ => .nil
  | p :: ks, h => .cons (Dp.ofTI (h p List.mem_cons_self)) (ks_to fun q hq => h q (List.mem_cons_of_mem _ hq))
/-- what sorted(set(..)) of pairs leaves -/
theorem canon_of {ps : List (Int × Int)} {ks L L' : List (Addr × List Int)} (hk : ks.map (·.2) = ((ps.filter fun s => !decide (s.1 = s.2)).map lowP).map prI) (hb : ∀ s ∈ ps, (0 ≤ s.1 ∧ s.1 < 64) ∧ 0 ≤ s.2 ∧ s.2 < 64)
    (h1 : ∀ p ∈ L, p ∈ ks) (h2 : ∀ p ∈ ks, p.2 ∈ L.map (·.2)) (pm : L'.Perm L) (nd : (L'.map (·.2)).Nodup) (pw : L'.Pairwise fun q r => TS.code 64 q.2 ≤ TS.code 64 r.2) :
    ∃ T, L'.map (·.2) = T.map prI ∧ Canon ps T := by
  have hform : ∀ q ∈ L', ∃ s ∈ ps, s.1 ≠ s.2 ∧ q.2 = prI (lowP s) := fun q hq => by
    have hm : q.2 ∈ ks.map (·.2) := List.mem_map.mpr ⟨q, h1 q (pm.mem_iff.mp hq), rfl⟩
    rw [hk] at hm
    obtain ⟨t, ht, e⟩ := List.mem_map.mp hm
    obtain ⟨s, hs, rfl⟩ := List.mem_map.mp ht
    obtain ⟨h3, h4⟩ := List.mem_filter.mp hs
    refine ⟨s, h3, fun z => ?_, e.symm⟩
    rw [decide_eq_true z] at h4
    cases h4
  let tp : List Int → Int × Int := fun l => (l.getD 0 0, l.getD 1 0)
  have hrt : ∀ t, tp (prI t) = t := fun t => rfl
  refine ⟨L'.map fun q => tp q.2, ?_, ?_, fun t => ?_⟩
  · rw [List.map_map]
    refine List.map_congr_left fun q hq => ?_
    obtain ⟨s, _, _, e⟩ := hform q hq
    show q.2 = prI (tp q.2)
    rw [e, hrt]
  · rw [List.pairwise_map]
    have pw2 := (pw.and (List.pairwise_map.mp nd))
    refine List.Pairwise.imp_of_mem (fun {q r} hq hr h => ?_) pw2
    obtain ⟨s, hs, _, e⟩ := hform q hq
    obtain ⟨s', hs', _, e'⟩ := hform r hr
    have b := hb s hs
    have b' := hb s' hs'
    have c1 : (0 ≤ (lowP s).1 ∧ (lowP s).1 < 64) ∧ 0 ≤ (lowP s).2 ∧ (lowP s).2 < 64 := by
      unfold lowP
      dsimp only
      constructor <;> split <;> omega
    have c2 : (0 ≤ (lowP s').1 ∧ (lowP s').1 < 64) ∧ 0 ≤ (lowP s').2 ∧ (lowP s').2 < 64 := by
      unfold lowP
      dsimp only
      constructor <;> split <;> omega
    rw [e, e'] at h ⊢
    rw [hrt, hrt]
    exact pair_lt h.1 h.2 c1.1 c1.2 c2.1 c2.2
  · rw [List.mem_map]
    constructor
    · rintro ⟨q, hq, rfl⟩
      obtain ⟨s, hs, hne, e⟩ := hform q hq
      exact ⟨s, hs, hne, by rw [e, hrt]⟩
    · rintro ⟨s, hs, hne, rfl⟩
      have hm : prI (lowP s) ∈ ks.map (·.2) := by
        rw [hk]
        exact List.mem_map.mpr ⟨_, List.mem_map.mpr ⟨s, List.mem_filter.mpr ⟨hs, by rw [decide_eq_false hne]; rfl⟩, rfl⟩, rfl⟩
      obtain ⟨p, hp, e⟩ := List.mem_map.mp hm
      obtain ⟨q, hq, e2⟩ := List.mem_map.mp (h2 p hp)
      exact ⟨q, pm.mem_iff.mpr hq, by rw [e2, e, hrt]⟩
end
theorem in_tup {K : PySem.W.Frag} {a : Addr} {xs : List V} {H4 : Hp} {Qd : Hp → Prop} {T : (Hp → Prop) → V → Hp → Prop} (Pv : Nat → Hp → Prop) (h0 : Pv 0 H4) (hl : ∀ i H, i ≤ xs.length → Pv i H → SqT K H a xs)
    (hs : ∀ (i : Nat) (x : V) H, xs[i]? = some x → Pv i H → T (Pv (i + 1)) x H) (hd : ∀ H, Pv xs.length H → Qd H) :
    ∃ W : Nat → Nat → Hp → Prop, (∃ m, W 0 m H4) ∧ ∀ i m H, W i m H →
      ((Itt K a).stop i H ∧ Qd H) ∨ ((Itt K a).go i H ∧ ∃ Nx : Hp → Prop, (∀ H', Nx H' → ∃ m', m' < m ∧ W (i + 1) m' H') ∧ ∀ x H', (Itt K a).yld i H x H' → T Nx x H') := by
  refine ⟨fun i m H => m = xs.length - i ∧ i ≤ xs.length ∧ Pv i H, ⟨xs.length, by simp, Nat.zero_le _, h0⟩, ?_⟩
  rintro i m H ⟨rfl, hi, p⟩
  have q := hl i H hi p
  by_cases hlt : i < xs.length
  · refine .inr ⟨⟨xs, xs[i], q, by simp [hlt]⟩, Pv (i + 1), fun H' p' => ⟨xs.length - (i + 1), by omega, rfl, hlt, p'⟩, fun x H' y => ?_⟩
    obtain ⟨e, y⟩ := y
    subst e
    exact hs i x _ (y xs q) p
  · have e : i = xs.length := by omega
    subst e
    exact .inl ⟨⟨xs, q, Nat.le_refl _⟩, hd H p⟩
/-- either walk -/
theorem in_seq {K : PySem.W.Frag} {l : Addr} {us : List V} {tl : TE} {σ : L2.St} {H : Hp} {T : Addr → (Hp → Prop) → V → Hp → Prop} {Qd : Addr → Hp → Prop} {H4 : Hp → Addr → Hp}
    (ht : ∀ R : V → Hp → Prop, R (.ref l) H → tl σ H R) (hq : SqL K H l us ∨ SqT K H l us) (Pv : Addr → Nat → Hp → Prop)
    (hsm : ∀ D i H', H D = none → Pv D i H' → Same H H') (h0 : ∀ D, H D = none → Pv D 0 (H4 H D))
    (hs : ∀ D (i : Nat) (x : V) H', H D = none → us[i]? = some x → Pv D i H' → T D (Pv D (i + 1)) x H') (hd : ∀ D H', H D = none → Pv D us.length H' → Qd D H') :
    iSeq K tl σ H fun J H1 => ∀ D, H1 D = none → ∃ W : Nat → Nat → Hp → Prop, (∃ m, W 0 m (H4 H1 D)) ∧ ∀ i m H, W i m H →
      (J.stop i H ∧ Qd D H) ∨ (J.go i H ∧ ∃ Nx : Hp → Prop, (∀ H', Nx H' → ∃ m', m' < m ∧ W (i + 1) m' H') ∧ ∀ x H', J.yld i H x H' → T D Nx x H') := by
  rcases hq with hq | hq
  · refine .inl (ht _ ⟨l, rfl, ⟨us, hq⟩, fun D hD => ?_⟩)
    exact in_list (xs := us) (T := T D) (Pv D) (h0 D hD) (fun i H' _ h => (hsm D i H' hD h).seq hq) (fun i x H' e h => hs D i x H' hD e h) fun H' h => hd D H' hD h
  · refine .inr (ht _ ⟨l, rfl, ⟨us, hq⟩, fun D hD => ?_⟩)
    exact in_tup (xs := us) (T := T D) (Pv D) (h0 D hD) (fun i H' _ h => Same.sqt (hsm D i H' hD h) hq) (fun i x H' e h => hs D i x H' hD e h) fun H' h => hd D H' hD h

/-! ### drawn webs -/
def WebOk (k : Nat) (T : List (Int × Int)) : Prop := T.Pairwise ltP ∧ ∀ t ∈ T, 0 ≤ t.1 ∧ t.1 < t.2 ∧ t.2 < k
theorem Canon.web {ps T : List (Int × Int)} {k : Nat} (h : Canon ps T) (hb : ∀ s ∈ ps, (0 ≤ s.1 ∧ s.1 < k) ∧ 0 ≤ s.2 ∧ s.2 < k) : WebOk k T := by
  refine ⟨h.1, fun t ht => ?_⟩
  obtain ⟨s, hs, hne, rfl⟩ := (h.2 t).mp ht
  have b := hb s hs
  unfold lowP
  dsimp only
  split <;> split <;> omega
def spDrawWeb (K : PySem.W.Frag) : Sp := fun vs H Q _ => ∃ (p c : Addr) (n lo hi : Nat), vs = [.ref p, .int lo, .int hi] ∧ Pen H p c n ∧ n ≤ 800000 ∧ 1 ≤ lo ∧ lo ≤ hi ∧ hi ≤ 12 ∧
  ∀ (q : Addr) (k : Nat) T H', lo ≤ k → k ≤ hi → WebOk k T → Pen H' p c (n + 200) → Same (wo p H) (wo p H') → wo p H q = none → Dp K (wo p H') (.ref q) (webD k T) → Q (.ref q) H'
section
variable {K : PySem.W.Frag} {H H' : Hp}
theorem web_wo {v : V} {n : Int} {T : List (Int × Int)} {p : Addr} {us : List V} (h : Dp K H v (webD n T)) (hp : H p = some (.lst us)) : Dp K (wo p H) v (webD n T) := by
  cases h with
  | tup q l =>
    cases l with
    | cons h1 l =>
      cases l with
      | cons h2 l =>
        cases l
        cases h1
        cases h2 with
        | tup q2 l2 =>
          refine .tup (sqt_wo q hp) (.cons (.int n) (.cons (.tup (sqt_wo q2 hp) ?_) .nil))
          have e : (T.map fun t => tI (prI t)) = (T.map prI).map tI := by rw [List.map_map]; rfl
          rw [e] at l2 ⊢
          exact tI_wo hp l2
theorem Pen.lst {p c : Addr} {n : Nat} (h : Pen H p c n) : ∃ us, H p = some (.lst us) := by
  obtain ⟨cs, k, l, e, _⟩ := h
  exact ⟨_, e⟩
theorem tYes_then {σ : L2.St} {A B : Hp → Prop} (h : A H) : tYes σ H (fun b H3 => if b = true then A H3 else B H3) := by
  show (if true = true then A H else B H)
  rw [if_pos rfl]
  exact h
/-- two draws in a new tuple -/
theorem two_takes {σ : L2.St} {Q : VK} {p c : Addr} {n k i : Nat} (h0 : σ[0]? = some (some (.ref p))) (h3 : σ[i]? = some (some (.int k))) (pen : Pen H p c n) (hn : n + 2 ≤ 1000000) (k0 : 1 ≤ k) (k1 : k ≤ 1000)
    (q : ∀ (t : Addr) (s : Int × Int) H', (0 ≤ s.1 ∧ s.1 < k) ∧ 0 ≤ s.2 ∧ s.2 < k → Pen H' p c (n + 2) → Same (wo p H) (wo p H') → wo p H t = none → SqT K (wo p H') t ((prI s).map V.int) → Q (.ref t) H') :
    tTup (tCons (tCall spTake [] E0 (tCons (tVar 0) (tCons (tVar i) tNil))) (tCons (tCall spTake [] E0 (tCons (tVar 0) (tCons (tVar i) tNil))) tNil)) σ H Q := by
  refine ⟨_, h0, _, h3, p, c, _, n, rfl, pen, by omega, by omega, by omega, fun r1 H1 r10 r11 pen1 s1 => ?_⟩
  refine ⟨_, h0, _, h3, p, c, _, n + 1, rfl, pen1, by omega, by omega, by omega, fun r2 H2 r20 r21 pen2 s2 => ?_⟩
  refine ⟨by show 2 ≤ sizeLine; decide, fun t ht => ?_⟩
  have nt := Pen.ne pen2 ht
  refine q t (r1, r2) _ ⟨⟨r10, r11⟩, r20, r21⟩ (Pen.upd pen2 nt) (s1.trans (s2.trans (Same.wo (Same.new ht)))) ((s1.trans s2).free (wo_none ht)) ?_
  exact SqT.of ((wo_ne nt.1).trans upd_same)
/-- [(draw, draw) for k in range(m)] -/
theorem draw_pairs {σ : L2.St} {D p c : Addr} {n k m a i : Nat} {Qd : Hp → Prop} (hD : H D = none) (h0 : ∀ v, ((wipe σ [a]).set a (some v))[0]? = some (some (.ref p))) (h3 : ∀ v, ((wipe σ [a]).set a (some v))[i]? = some (some (.int k)))
    (hw : ∀ v, wipe ((wipe σ [a]).set a (some v)) [a] = wipe σ [a]) (pen : Pen H p c n) (hn : n + 2 * m ≤ 900000) (hm : m ≤ 1000) (k0 : 1 ≤ k) (k1 : k ≤ 1000)
    (hq : ∀ H' us (ps : List (Int × Int)), Pen H' p c (n + 2 * m) → Same (wo p H) (wo p H') → H' D = some (.lst us) → ps.length = m → (∀ s ∈ ps, (0 ≤ s.1 ∧ s.1 < k) ∧ 0 ≤ s.2 ∧ s.2 < k) → DpAll K (wo D (wo p H')) us ((ps.map prI).map tI) → Qd H') :
    ∃ W : Nat → Nat → Hp → Prop, (∃ m, W 0 m (upd H D (.lst []))) ∧ ∀ j l H, W j l H →
      ((Itr 0 m).stop j H ∧ Qd H) ∨ ((Itr 0 m).go j H ∧ ∃ Nx : Hp → Prop, (∀ H', Nx H' → ∃ m', m' < l ∧ W (j + 1) m' H') ∧ ∀ x H', (Itr 0 m).yld j H x H' → gName a x (wipe σ [a]) H' fun σ2 H2 => wipe σ2 [a] = wipe σ [a] ∧ tYes σ2 H2 fun b H3 =>
        if b = true then tTup (tCons (tCall spTake [] E0 (tCons (tVar 0) (tCons (tVar i) tNil))) (tCons (tCall spTake [] E0 (tCons (tVar 0) (tCons (tVar i) tNil))) tNil)) σ2 H3 fun y H4 => ∃ acc, H4 D = some (.lst acc) ∧ acc.length < sizeLine ∧ Nx (upd H4 D (.lst (acc ++ [y]))) else Nx H3) := by
  have nD := Pen.ne pen hD
  refine lc_range (fun j H3 => Pen H3 p c (n + 2 * j) ∧ Same (wo p H) (wo p H3) ∧ ∃ (us : List V) (ps : List (Int × Int)), H3 D = some (.lst us) ∧ ps.length = j ∧ (∀ s ∈ ps, (0 ≤ s.1 ∧ s.1 < k) ∧ 0 ≤ s.2 ∧ s.2 < k) ∧ DpAll K (wo D (wo p H3)) us ((ps.map prI).map tI)) ?_ ?_ ?_
  · exact ⟨Pen.upd pen nD, Same.wo (Same.new hD), [], [], upd_same, rfl, (fun _ h => nomatch h), .nil⟩
  · rintro j H3 hj ⟨pen3, s3, us, ps, eD, lps, hps, hus⟩
    refine ⟨hw _, ?_⟩
    refine tYes_then (A := fun H3 => tTup _ _ H3 _) ?_
    refine two_takes (K := K) (h0 _) (h3 _) pen3 (by omega) k0 k1 fun t s H4 hs pen4 s4 nt qt => ?_
    have eD' : wo p H3 D = some (.lst us) := (wo_ne nD.1).trans eD
    have eD4 := (wo_some (s4 _ _ eD')).2
    have htD : t ≠ D := (ne_of_none eD' nt).symm
    obtain ⟨g1, g2⟩ := push (DpAll.same (Same.wo s4) hus) (Dp.ofTI (sqt_wo qt ((wo_ne nD.1).trans eD4)))
    refine ⟨us, eD4, ?_, Pen.upd pen4 nD, ?_, us ++ [.ref t], ps ++ [s], upd_same, ?_, ?_, ?_⟩
    · rw [DpAll.len hus, List.length_map, List.length_map]
      exact smallT (by omega)
    · rw [wo_upd nD.1]
      exact Same.updD (s3.trans s4) (wo_none hD)
    · rw [List.length_append, lps]
      rfl
    · intro z hz
      rcases List.mem_append.mp hz with hz | hz
      · exact hps z hz
      · rw [List.mem_singleton.mp hz]
        exact hs
    · rw [wo_upd nD.1, List.map_append, List.map_append]
      exact g2
  · rintro H3 ⟨pen3, s3, us, ps, eD, lps, hps, hus⟩
    exact hq H3 us ps pen3 s3 eD lps hps hus
end
end My

set_option Elab.async false
set_option linter.all false
set_option maxRecDepth 100000
set_option maxHeartbeats 4000000
namespace My
open PySem PySem.Spec PyProof.Rows L2
/-! ### lists of pairs of places -/
section
variable {K : PySem.W.Frag} {H H' H3 Hb : Hp} {k j i : Nat} {D t l l2 : Addr}
/-- at l a list of j pairs of places below k -/
def PL (K : PySem.W.Frag) (k : Nat) (H : Hp) (l : Addr) (j : Nat) : Prop := ∃ (us : List V) (ps : List (Int × Int)), H l = some (.lst us) ∧ ps.length = j ∧ (∀ s ∈ ps, (0 ≤ s.1 ∧ s.1 < k) ∧ 0 ≤ s.2 ∧ s.2 < k) ∧ DpAll K H us ((ps.map prI).map tI)
/-- at D such a list grows -/
def PairsAt (K : PySem.W.Frag) (k : Nat) (Hb : Hp) (D : Addr) (j : Nat) (H : Hp) : Prop := Same Hb H ∧ ∃ (us : List V) (ps : List (Int × Int)), H D = some (.lst us) ∧ ps.length = j ∧ (∀ s ∈ ps, (0 ≤ s.1 ∧ s.1 < k) ∧ 0 ≤ s.2 ∧ s.2 < k) ∧ DpAll K (wo D H) us ((ps.map prI).map tI)
theorem PL.same (s : Same H H') (h : PL K k H l j) : PL K k H' l j := by
  obtain ⟨us, ps, e, h1, h2, h3⟩ := h
  exact ⟨us, ps, s _ _ e, h1, h2, DpAll.same s h3⟩
theorem PairsAt.start (hD : Hb D = none) : PairsAt K k Hb D 0 (upd Hb D (.lst [])) := ⟨Same.new hD, [], [], upd_same, rfl, (fun _ h => nomatch h), .nil⟩
theorem PairsAt.pl (h : PairsAt K k Hb D j H) : PL K k H D j := by
  obtain ⟨_, us, ps, e, h1, h2, h3⟩ := h
  exact ⟨us, ps, e, h1, h2, DpAll.same wo_le h3⟩
theorem PairsAt.push (h : PairsAt K k Hb D j H3) (hD : Hb D = none) (ht : H3 t = none) {x y : Int} (hx : 0 ≤ x ∧ x < k) (hy : 0 ≤ y ∧ y < k) (hj : j ≤ 1000) :
    ∃ acc, upd H3 t (.tup [.int x, .int y]) D = some (.lst acc) ∧ acc.length < sizeLine ∧ PairsAt K k Hb D (j + 1) (upd (upd H3 t (.tup [.int x, .int y])) D (.lst (acc ++ [.ref t]))) := by
  obtain ⟨s3, us, ps, eD, h1, h2, hus⟩ := h
  have htD : t ≠ D := (ne_of_none eD ht).symm
  have sT := Same.new (o := HO.tup [V.int x, V.int y]) ht
  obtain ⟨g1, g2⟩ := My.push (DpAll.same (Same.wo sT) hus) (Dp.ofTI (K := K) (a := t) (ns := prI (x, y)) (SqT.of ((wo_ne htD).trans upd_same)))
  refine ⟨us, sT _ _ eD, ?_, Same.updD (s3.trans sT) hD, us ++ [.ref t], ps ++ [(x, y)], upd_same, ?_, ?_, ?_⟩
  · rw [DpAll.len hus, List.length_map, List.length_map]
    exact smallT (by omega)
  · rw [List.length_append, h1]
    rfl
  · intro z hz
    rcases List.mem_append.mp hz with hz | hz
    · exact h2 z hz
    · rw [List.mem_singleton.mp hz]
      exact ⟨hx, hy⟩
  · rw [List.map_append, List.map_append]
    exact g2
theorem PL.one {x y : Int} (ht : H t = none) (hl : upd H t (.tup [.int x, .int y]) l = none) (hx : 0 ≤ x ∧ x < k) (hy : 0 ≤ y ∧ y < k) : PL K k (upd (upd H t (.tup [.int x, .int y])) l (.lst [.ref t])) l 1 := by
  refine ⟨[.ref t], [(x, y)], upd_same, rfl, fun z hz => ?_, ?_⟩
  · rw [List.mem_singleton.mp hz]
    exact ⟨hx, hy⟩
  · exact .cons (Dp.same (Same.new hl) (Dp.ofTI (ns := prI (x, y)) (SqT.of upd_same))) .nil
/-- two lists put together -/
theorem PL.cat (h : PL K k H l j) (h2 : PL K k H l2 i) (hj : j + i ≤ 1000) : ∃ us vs, H l = some (.lst us) ∧ H l2 = some (.lst vs) ∧ us.length + vs.length ≤ sizeLine ∧ ∀ p, H p = none → PL K k (upd H p (.lst (us ++ vs))) p (j + i) := by
  obtain ⟨us, ps, e, a1, a2, a3⟩ := h
  obtain ⟨vs, qs, f, b1, b2, b3⟩ := h2
  refine ⟨us, vs, e, f, ?_, fun p hp => ⟨us ++ vs, ps ++ qs, upd_same, ?_, ?_, ?_⟩⟩
  · rw [DpAll.len a3, DpAll.len b3, List.length_map, List.length_map, List.length_map, List.length_map]
    exact small (by omega)
  · rw [List.length_append]
    omega
  · intro z hz
    rcases List.mem_append.mp hz with hz | hz
    · exact a2 z hz
    · exact b2 z hz
  · rw [List.map_append, List.map_append]
    exact DpAll.append (DpAll.same (Same.new hp) a3) (DpAll.same (Same.new hp) b3)
theorem in_two {x a b : Int} (h : inV (.int x) [.int a, .int b] = true) : x = a ∨ x = b := by
  have h2 : ((a == x) || ((b == x) || false)) = true := h
  simp at h2
  omega
theorem not_two {x a b : Int} (h : ¬ inV (.int x) [.int a, .int b] = true) : x ≠ a ∧ x ≠ b := by
  have h2 : ¬ ((a == x) || ((b == x) || false)) = true := h
  simp at h2
  omega
theorem dInt {x y : Int} (h : decide (V.int x = V.int y) = true) : x = y := V.int.inj (of_decide_eq_true h)
theorem dIntN {x y : Int} (h : ¬ decide (V.int x = V.int y) = true) : x ≠ y := fun z => h (decide_eq_true (congrArg V.int z))
theorem cutV_whole {xs : List V} {lo hi : Option Int} (h : HT.sIx xs.length 0 lo = 0 ∧ HT.sIx xs.length xs.length hi = xs.length) : cutV xs lo hi = xs := by
  unfold cutV
  rw [h.1, h.2, List.drop_zero, Nat.sub_zero]
  exact List.take_length
/-- a slice of a tuple, new or the tuple itself -/
theorem slT_any {a : Addr} {xs : List V} {lo hi : Option Int} {Q : VK} (h : SqT K H a xs) (q : ∀ (b : Addr) H', Same H H' → SqT K H' b (cutV xs lo hi) → Q (.ref b) H') : rSlA K (.ref a) lo hi H Q := by
  refine ⟨a, xs, rfl, h, fun hw => q a H (Same.refl H) ?_, fun _ p hp => q p _ (Same.new hp) (SqT.of upd_same)⟩
  rw [cutV_whole hw]
  exact h
theorem cutV_ints {o : List Int} {lo hi : Option Int} : ∃ r : List Int, cutV (o.map V.int) lo hi = r.map V.int ∧ (∀ x ∈ r, x ∈ o) ∧ r.length ≤ o.length := by
  unfold cutV
  refine ⟨(o.drop (HT.sIx (o.map V.int).length 0 lo)).take (HT.sIx (o.map V.int).length (o.map V.int).length hi - HT.sIx (o.map V.int).length 0 lo), ?_, fun x hx => List.mem_of_mem_drop (List.mem_of_mem_take hx), ?_⟩
  · rw [List.map_take, List.map_drop]
  · rw [List.length_take, List.length_drop]
    omega
/-- an item from behind or from ahead -/
theorem at_back {r : List Int} {i : Int} (h0 : -1 ≤ i) (h1 : i < r.length) (hne : 0 < r.length) : ∃ x ∈ r, atI (r.map V.int) i = some (.int x) := by
  by_cases h : 0 ≤ i
  · obtain ⟨x, e, hx⟩ := at_int h h1
    exact ⟨x, List.mem_of_getElem? e, hx⟩
  · have e : i = -1 := by omega
    subst e
    have hl : r.length - 1 < r.length := by omega
    refine ⟨r[r.length - 1], List.getElem_mem hl, ?_⟩
    have hi : ixN (r.map V.int).length (-1) = some (r.length - 1) := by
      unfold ixN
      rw [List.length_map, if_neg (by decide), if_pos (by omega)]
      congr 1
      omega
    unfold atI
    rw [hi]
    show (r.map V.int)[r.length - 1]? = _
    rw [List.getElem?_map, List.getElem?_eq_getElem hl]
    rfl
end
end My

set_option Elab.async false
set_option linter.all false
set_option maxRecDepth 100000
set_option maxHeartbeats 4000000
namespace My
open PySem PySem.Spec PyProof.Rows L2

/-! ### data with empty dicts among it -/
mutual
inductive Dq (K : PySem.W.Frag) (H : Hp) : V → PyData → Prop
  | non : Dq K H .non .none
  | bl (b : Bool) : Dq K H (.bl b) (.bool b)
  | int (i : Int) : Dq K H (.int i) (.int i)
  | str (x : Str) : Dq K H (.str x) (.str x)
  | lst {a : Addr} {xs : List V} {ds : List PyData} : SqL K H a xs → DqAll K H xs ds → Dq K H (.ref a) (.list ds)
  | tup {a : Addr} {xs : List V} {ds : List PyData} : SqT K H a xs → DqAll K H xs ds → Dq K H (.ref a) (.tuple ds)
  | dct {a : Addr} : H a = some (.dK []) → Dq K H (.ref a) (.dict [])
inductive DqAll (K : PySem.W.Frag) (H : Hp) : List V → List PyData → Prop
  | nil : DqAll K H [] []
  | cons {v : V} {vs : List V} {d : PyData} {ds : List PyData} : Dq K H v d → DqAll K H vs ds → DqAll K H (v :: vs) (d :: ds)
end
section
variable {K : PySem.W.Frag} {H H' : Hp}
mutual
theorem Dq.of : ∀ {d : PyData} {v : V}, Dp K H v d → Dq K H v d
  | _, _, .non => .non
  | _, _, .bl b => .bl b
  | _, _, .int i => .int i
  | _, _, .str x => .str x
  | _, _, .lst h a => .lst h (DqAll.of a)
  | _, _, .tup h a => .tup h (DqAll.of a)
theorem DqAll.of : ∀ {ds : List PyData} {vs : List V}, DpAll K H vs ds → DqAll K H vs ds
  | _, _, .nil => .nil
  | _, _, .cons h t => .cons (Dq.of h) (DqAll.of t)
end
mutual
theorem Dq.same (s : Same H H') : ∀ {d : PyData} {v : V}, Dq K H v d → Dq K H' v d
  | _, _, .non => .non
  | _, _, .bl b => .bl b
  | _, _, .int i => .int i
  | _, _, .str x => .str x
  | _, _, .lst h a => .lst (s.seq h) (DqAll.same s a)
  | _, _, .tup h a => .tup (Same.sqt s h) (DqAll.same s a)
  | _, _, .dct h => .dct (s _ _ h)
theorem DqAll.same (s : Same H H') : ∀ {ds : List PyData} {vs : List V}, DqAll K H vs ds → DqAll K H' vs ds
  | _, _, .nil => .nil
  | _, _, .cons h t => .cons (Dq.same s h) (DqAll.same s t)
end
theorem DqAll.len : ∀ {ds : List PyData} {vs : List V}, DqAll K H vs ds → vs.length = ds.length
  | _, _, .nil => rfl
  | _, _, .cons _ t => congrArg (· + 1) (DqAll.len t)
theorem DqAll.get : ∀ {ds : List PyData} {vs : List V} {i : Nat} {v : V}, DqAll K H vs ds → vs[i]? = some v → ∃ d, ds[i]? = some d ∧ Dq K H v d
  | _, _, i, v, .nil, e => by simp at e
  | d :: ds, _, 0, v, .cons h t, e => by
    simp at e
    subst e
    exact ⟨d, rfl, h⟩
  | _ :: ds, _, i + 1, v, .cons h t, e => by
    obtain ⟨d, e1, e2⟩ := DqAll.get (i := i) t (by simpa using e)
    exact ⟨d, by simpa using e1, e2⟩
theorem DqAll.append : ∀ {ds es : List PyData} {vs us : List V}, DqAll K H vs ds → DqAll K H us es → DqAll K H (vs ++ us) (ds ++ es)
  | _, _, _, _, .nil, h => h
  | _, _, _, _, .cons h t, g => .cons h (DqAll.append t g)
theorem Dq.knd {v : V} {d : PyData} (h : Dq K H v d) : Knd K H v (kd d) := by
  cases h with
  | non => exact kNon
  | bl b => exact kBl b
  | int i => exact kInt i
  | str x => exact kStr x
  | lst h _ => exact sql_knd h
  | tup h _ => exact sqt_knd h
  | dct h => exact .base (.dK h)
end

/-! ### what repr reads -/
section
variable {X : Cx} {pins : List (Addr × Obj)} {σ : L2.St} {H : Hp} {s : Shared}
theorem dict_empty {a : Addr} (I : Inv X pins σ H s) (h : H a = some (.dK [])) : ∃ o n, s.heap.get? a = some o ∧ o.cls = .type "dict" ∧ o.data = .dict #[] n ∧ (a == sysModules) = false := by
  obtain ⟨_, hs, vs, kv, o, es, ep, e1, e2, e3, _, e4, _⟩ := (show ObjOk X.prog X.w H s.heap a (.dK []) from I.hok a _ h)
  cases kv
  have hes : es = #[] := by
    obtain ⟨l⟩ := es
    have e4' : Pairs _ l [] := e4
    cases e4'
    rfl
  subst hes
  exact ⟨o, ep, e1, e2.1, e3, hs⟩
mutual
theorem Dq.reads (I : Inv X pins σ H s) : ∀ {d : PyData} {v : V} {u : Value}, Dq X.K H v d → RelV v u → ∃ as, Reads s.heap u d as
  | _, _, _, .non, r => by
    cases r
    exact ⟨_, .none⟩
  | _, _, _, .bl b, r => by
    cases r
    exact ⟨_, .bool b⟩
  | _, _, _, .int i, r => by
    obtain ⟨t, e⟩ := r
    subst e
    exact ⟨_, .int i t⟩
  | _, _, _, .str x, r => by
    obtain ⟨t, e⟩ := r
    subst e
    exact ⟨_, .str x t⟩
  | _, _, _, .lst h a, r => by
    cases r
    obtain ⟨its, rv, ⟨o, n, e1, e2, e3, e4⟩, _⟩ := I.list h
    obtain ⟨as, ra⟩ := DqAll.reads I a rv
    exact ⟨_, .list e1 e2 e4 (by simpa using ra)⟩
  | _, _, _, .tup h a, r => by
    cases r
    obtain ⟨its, rv, ⟨o, e1, e2, n, e4⟩, _⟩ := I.tuple h
    obtain ⟨as, ra⟩ := DqAll.reads I a rv
    exact ⟨_, .tuple e1 e2 e4 (by simpa using ra)⟩
  | _, _, _, .dct h, r => by
    cases r
    obtain ⟨o, n, e1, e2, e3, _⟩ := dict_empty I h
    exact ⟨_, .dict e1 e2 e3 .nil .nil⟩
theorem DqAll.reads (I : Inv X pins σ H s) : ∀ {ds : List PyData} {vs : List V} {us : List Value}, DqAll X.K H vs ds → Vals vs us → ∃ as, ReadsAll s.heap us ds as
  | _, _, _, .nil, r => by
    cases r
    exact ⟨_, .nil⟩
  | _, _, _, .cons h t, r => by
    cases r with
    | cons r1 r2 =>
      obtain ⟨as, h1⟩ := Dq.reads I h r1
      obtain ⟨bs, h2⟩ := DqAll.reads I t r2
      exact ⟨_, .cons h1 h2⟩
end
mutual
theorem Dq.repr (I : Inv X pins σ H s) : ∀ {d : PyData} {v : V} {u : Value}, Dq X.K H v d → RelV v u → d.showable = true → d.shown.length ≤ sizeLine → ∃ bs, ReadAtMost s.heap d.depth bs ∧ ReprK X.prog X.w bs s.heap d.depth u d.shown
  | _, _, _, .non, r, _, _ => by
    cases r
    exact ⟨[], (fun _ h => nomatch h), by simp only [PyData.shown]; exact .of_is ReprIs.none _ _ _⟩
  | _, _, _, .bl b, r, _, _ => by
    cases r
    exact ⟨[], (fun _ h => nomatch h), by simp only [PyData.shown]; exact .of_is (ReprIs.bool b) _ _ _⟩
  | _, _, _, .int i, r, hs, _ => by
    obtain ⟨t, e⟩ := r
    subst e
    exact ⟨[], (fun _ h => nomatch h), by simp only [PyData.shown]; exact .of_is (ReprIs.int t (by simpa [PyData.showable] using hs)) _ _ _⟩
  | _, _, _, .str x, r, _, hz => by
    obtain ⟨t, e⟩ := r
    subst e
    exact ⟨[], (fun _ h => nomatch h), by simp only [PyData.shown]; exact .of_is (ReprIs.str x t (by simpa only [PyData.shown] using hz)) _ _ _⟩
  | .list xs, _, _, .lst (a := a) h l, r, hs, hz => by
    cases r
    have hd : Dq X.K H (.ref a) (.list xs) := .lst h l
    obtain ⟨as, rd⟩ := Dq.reads I hd (show RelV (.ref a) (.ref a) from rfl)
    obtain ⟨its, rv, ⟨o, n, e1, e2, e3, e4⟩, _⟩ := I.list h
    have hz' : (listText (PyData.shownAll xs)).length ≤ sizeLine := by simpa only [PyData.shown] using hz
    obtain ⟨bs, hb, hk⟩ := DqAll.repr I l rv (by simpa [PyData.showable] using hs) fun t ht => Nat.le_trans (listText_mem_le ht) hz'
    have hna : a ∉ bs := not_mem_of_deeper rd (by simp only [PyData.depth]; omega) hb
    refine ⟨a :: bs, ReadAtMost.cons rd (by simp only [PyData.depth]; omega) hb, ?_⟩
    simp only [PyData.depth, PyData.shown]
    cases its with
    | nil =>
      cases rv
      cases l
      simp only [PyData.shownAll, listText_nil]
      exact ReprK.listEmpty e1 e2 e4
    | cons x r => exact ReprK.list e1 e2 e4 hna (by simpa using hk.length_eq) fun i y e => hk.item i y (by simpa using e)
  | .tuple xs, _, _, .tup (a := a) h l, r, hs, hz => by
    cases r
    have hd : Dq X.K H (.ref a) (.tuple xs) := .tup h l
    obtain ⟨as, rd⟩ := Dq.reads I hd (show RelV (.ref a) (.ref a) from rfl)
    obtain ⟨its, rv, ⟨o, e1, e2, n, e4⟩, _⟩ := I.tuple h
    have hz' : (tupleText (PyData.shownAll xs)).length ≤ sizeLine := by simpa only [PyData.shown] using hz
    obtain ⟨bs, hb, hk⟩ := DqAll.repr I l rv (by simpa [PyData.showable] using hs) fun t ht => Nat.le_trans (tupleText_mem_le ht) hz'
    have hna : a ∉ bs := not_mem_of_deeper rd (by simp only [PyData.depth]; omega) hb
    refine ⟨a :: bs, ReadAtMost.cons rd (by simp only [PyData.depth]; omega) hb, ?_⟩
    simp only [PyData.depth, PyData.shown]
    exact ReprK.tuple e1 e2 e4 hna (by simpa using hk)
  | _, _, _, .dct (a := a) h, r, _, _ => by
    cases r
    have hd : Dq X.K H (.ref a) (.dict []) := .dct h
    obtain ⟨as, rd⟩ := Dq.reads I hd (show RelV (.ref a) (.ref a) from rfl)
    obtain ⟨o, n, e1, e2, e3, e4⟩ := dict_empty I h
    refine ⟨[a], ReadAtMost.cons (n := 0) rd (Nat.zero_le _) (fun _ h => nomatch h), ?_⟩
    have hd0 : (PyData.dict []).depth = 0 + 1 := by simp only [PyData.depth, PyData.depthKv]
    have hs0 : (PyData.dict []).shown = dictText [] := by simp only [PyData.shown, PyData.shownKv]
    rw [hd0, hs0]
    exact ReprK.dict e1 e2 e3 e4 (fun h => nomatch h) .nil
theorem DqAll.repr (I : Inv X pins σ H s) : ∀ {ds : List PyData} {vs : List V} {us : List Value}, DqAll X.K H vs ds → Vals vs us → PyData.showableAll ds = true → (∀ t ∈ PyData.shownAll ds, t.length ≤ sizeLine) →
    ∃ bs, ReadAtMost s.heap (PyData.depthAll ds) bs ∧ ReprAllK X.prog X.w bs s.heap (PyData.depthAll ds) us (PyData.shownAll ds)
  | _, _, _, .nil, r, _, _ => by
    cases r
    exact ⟨[], (fun _ h => nomatch h), by simp only [PyData.shownAll]; exact .nil⟩
  | d :: ds, _, _, .cons h t, r, hs, hz => by
    cases r with
    | cons r1 r2 =>
      have hs' : d.showable = true ∧ PyData.showableAll ds = true := by simpa [PyData.showableAll] using hs
      obtain ⟨b1, hb1, k1⟩ := Dq.repr I h r1 hs'.1 (hz _ (by simp only [PyData.shownAll]; exact List.mem_cons_self ..))
      obtain ⟨b2, hb2, k2⟩ := DqAll.repr I t r2 hs'.2 fun t ht => hz t (by simp only [PyData.shownAll]; exact List.mem_cons_of_mem _ ht)
      have m1 : d.depth ≤ PyData.depthAll (d :: ds) := by simp only [PyData.depthAll]; exact Nat.le_max_left _ _
      have m2 : PyData.depthAll ds ≤ PyData.depthAll (d :: ds) := by simp only [PyData.depthAll]; exact Nat.le_max_right _ _
      refine ⟨b1 ++ b2, (hb1.mono m1).append (hb2.mono m2), ?_⟩
      simp only [PyData.shownAll]
      exact .cons ((k1.more fun b hb => List.mem_append_left _ hb).level_le m1) (k2.more_le (fun b hb => List.mem_append_right _ hb) m2)
end
end

section
variable {X : Cx}
def rRepr (K : PySem.W.Frag) : List V → Hp → VK → Prop := fun vs H Q => ∃ (x : V) (d : PyData), vs = [x] ∧ Dq K H x d ∧ d.showable = true ∧ d.depth ≤ 60 ∧ d.shown.length ≤ sizeLine ∧ Q (.str d.shown) H
/-- repr(x), where no repr is under way -/
theorem call_reprD (K : PySem.W.Frag) (hg : X.A.guards = some []) (hu : X.A.units + 64 < cLine) (hK : X.K = K := by rfl) : CallR X (.builtin "repr") (rRepr K) := by
  subst hK
  intro pins s σ H xs us Q I r h
  obtain ⟨x, d, rfl, hd, hs, h60, hz, q⟩ := h
  obtain ⟨u, rfl, ru⟩ := vals1 r
  have fin : ∀ (h' : Heap) (t : Tok) (tk : Nat), (∀ b o, s.heap.get? b = some o → h'.get? b = some o) → EP X pins σ Q (.str d.shown t) { s with heap := h', toks := tk } := fun h' t tk hk => ⟨.str d.shown, H, I.kept hk, ⟨_, rfl⟩, q⟩
  cases hd with
  | non =>
    cases ru
    exact PySem.P.repr_of_none (by simpa only [PyData.shown] using fin s.heap _ _ fun _ _ e => e)
  | bl b =>
    cases ru
    exact PySem.P.repr_of_bool (by simpa only [PyData.shown] using fin s.heap _ _ fun _ _ e => e)
  | int i =>
    obtain ⟨t, e⟩ := ru
    subst e
    exact PySem.P.repr_of_int (by simpa [PyData.showable] using hs) (by simpa only [PyData.shown] using fin s.heap _ _ fun _ _ e => e)
  | str z =>
    obtain ⟨t, e⟩ := ru
    subst e
    exact PySem.P.repr_of_str (by simpa only [PyData.shown] using fin s.heap _ _ fun _ _ e => e) (by simpa only [PyData.shown] using hz)
  | @lst a xs ds h l =>
    cases ru
    obtain ⟨as, rd⟩ := Dq.reads I (.lst h l) (show RelV (.ref a) (.ref a) from rfl)
    obtain ⟨its, rv, ⟨o, n, e1, e2, e3, e4⟩, _⟩ := I.list h
    have hz' : (listText (PyData.shownAll ds)).length ≤ sizeLine := by simpa only [PyData.shown] using hz
    have h60' : PyData.depthAll ds + 1 ≤ 60 := by simpa only [PyData.depth] using h60
    obtain ⟨bs, hb, hk⟩ := DqAll.repr I l rv (by simpa [PyData.showable] using hs) fun t ht => Nat.le_trans (listText_mem_le ht) hz'
    have hna : a ∉ bs := not_mem_of_deeper rd (by simp only [PyData.depth]; omega) hb
    refine call_repr_slot (by omega) ⟨o, e1, e2⟩ F.slot_list_repr.toG ?_
    simp only [PyData.shown] at fin
    cases its with
    | nil =>
      cases rv
      cases l
      simp only [PyData.shownAll, listText_nil] at fin
      exact call_list_repr_empty ⟨o, e1, e2⟩ e1 e4 ⟨_, _, rfl, fin s.heap _ _ fun _ _ e => e⟩
    | cons x r =>
      exact call_list_reprK e1 e2 e4 hna (by simpa using hk.length_eq) (fun i y e => hk.item i y (by simpa using e)) hg (fun b _ => Clear.nil b) (by show X.A.units + 1 + _ < _; omega) (fun _ _ e => e) (fun h' t tk hk => ⟨_, _, rfl, fin h' t tk hk⟩) hz'
  | @tup a xs ds h l =>
    cases ru
    obtain ⟨as, rd⟩ := Dq.reads I (.tup h l) (show RelV (.ref a) (.ref a) from rfl)
    obtain ⟨its, rv, ⟨o, e1, e2, n, e4⟩, _⟩ := I.tuple h
    have hz' : (tupleText (PyData.shownAll ds)).length ≤ sizeLine := by simpa only [PyData.shown] using hz
    have h60' : PyData.depthAll ds + 1 ≤ 60 := by simpa only [PyData.depth] using h60
    obtain ⟨bs, hb, hk⟩ := DqAll.repr I l rv (by simpa [PyData.showable] using hs) fun t ht => Nat.le_trans (tupleText_mem_le ht) hz'
    have hna : a ∉ bs := not_mem_of_deeper rd (by simp only [PyData.depth]; omega) hb
    simp only [PyData.shown] at fin
    refine call_repr_slot (by omega) ⟨o, e1, e2⟩ F.slot_tuple_repr ?_
    exact call_tuple_reprK e1 e2 e4 hna (by simpa using hk) hg (fun b _ => Clear.nil b) (by show X.A.units + 1 + _ < _; omega) (fun _ _ e => e) (fun h' t tk hk => ⟨_, _, rfl, fin h' t tk hk⟩) hz'
  | @dct a h =>
    cases ru
    obtain ⟨as, rd⟩ := Dq.reads I (.dct h) (show RelV (.ref a) (.ref a) from rfl)
    obtain ⟨o, n, e1, e2, e3, e4⟩ := dict_empty I h
    have hs0 : (PyData.dict []).shown = dictText [] := by simp only [PyData.shown, PyData.shownKv]
    rw [hs0] at fin hz
    refine call_repr_slot (by omega) ⟨o, e1, e2⟩ F.slot_dict_repr ?_
    exact call_dict_reprK (as := []) (d := 0) e1 e2 e3 e4 (fun h => nomatch h) .nil hg (fun b _ => Clear.nil b) (by show X.A.units + 1 + _ < _; omega) (fun _ _ e => e) (fun h' t tk hk => ⟨_, _, rfl, fin h' t tk hk⟩) hz
end
end My

set_option Elab.async false
set_option linter.all false
set_option maxRecDepth 100000
set_option maxHeartbeats 4000000
namespace My
open PySem PySem.Spec PyProof.Rows L2

/-! ### a def that is called where no repr is under way -/
structure FnG (P : Program) (w : World) (K : PySem.W.Frag) (mg : Str → Option Value) (base : Heap) (k : Nat) (f : Addr) (fd : FuncData) (ps : List Str) (sp : Sp) : Prop where
  len : ∀ vs H Q E, sp vs H Q E → vs.length = ps.length
  run : ∀ (A : Around) (outer : List Env) (s : Shared) (H : Hp) (args : Args) (us : List Value) (vs : List V) (Q : VK) (E : XK), A.guards = some [] → Room k A → Env0 P w K mg base A outer s H → BindsTo s fd args (ps.zip us) → Vals vs us → sp vs H Q E →
    codeAny (model P w) A (.call (.ref f) args) (CR CX0 outer P w H s Q E) s
theorem okG {P : Program} {w : World} {K : PySem.W.Frag} {mg : Str → Option Value} {base : Heap} {x qual : Str} {st : Stmt} {f : Addr} {fd : FuncData} {N ps : List Str} {k : Nat} {sp : Sp} (F : Fun K x qual st f fd) (S : FnScope N ps (defScope st))
    (len : ∀ vs H Q E, sp vs H Q E → vs.length = ps.length)
    (hbody : ∀ (cdv : Value) (A : Around) (outer : List Env) (s : Shared) (H : Hp) (vs : List V) (Q : VK) (E : XK), A.guards = some [] → Room k (A.deeper (envOfC qual (defScope st) s.heap.objs.size f cdv)) → sp vs H Q E →
      ∃ t, PSs (cxOf CX0 P w K mg base N qual (defScope st) f cdv A outer s H E).nox (defBody st) t ∧ t { nx := fun _ H' => Q .non H', rt := Q } (start N vs) H) : FnG P w K mg base (k + 1) f fd ps sp := by
  obtain ⟨oc, od, kV, doc, pm, an, cdv, ct, osl, rfl, lk, hcd⟩ := F.ex
  constructor
  · exact len
  intro A outer s H args us vs Q E gA room env bind vals prom
  have lenV := len _ _ _ _ prom
  have inK : K.In s.heap := env.mod.kin.keeps fun b o e => (env.bs b o e).1
  have noLim : s.heap.NoLimit := env.mod.nolimit.keeps fun b o e => (env.bs b o e).1
  refine codeAny_call_function room.depth (inK _ _ lk) rfl S.co S.gen rfl (PySem.W.codeRec_of inK hcd) (bind _ _ _ _ ?_)
  refine wpAny_newFunctionEnv_cells S.kind (fun y hy => ?_) fun e0 he s1 fresh => ?_
  · rcases S.par y.1 (List.of_mem_zip hy).1 with z | z
    · exact .inl z
    · exact .inr ⟨z, PySem.W.cellsFrom_some _ _ _ (.inl z)⟩
  subst he
  refine ⟨noLim.keeps fresh.toInCall.keep, codeAny_func ?_⟩
  obtain ⟨t, der, rd⟩ := hbody cdv A outer s H vs Q E gA (room.deeper _) prom
  have I := inv_start (CX := CX0) (E := E) S room.hd env lenV vals fresh
  refine wpAny_mono (der.nox.run [] s1 (start N vs) H _ I rd) (fun fl s' q => ?_) fun _ _ q => q
  have close : ∀ {σ' : L2.St} {H' : Hp} {v : V} {u : Value}, Inv (cxOf CX0 P w K mg base N qual (defScope st) f cdv A outer s H E) [] σ' H' s' → RelV v u → Q v H' → CE outer P w H s Q u s' :=
    fun {σ' H' v u} J r z => ⟨v, H', J.os, J.bare, J.base, J.hok, r, z⟩
  match fl, q with
  | .ret u, ⟨v, σ', H', J, r, z⟩ => exact close J r z
  | .next, ⟨σ', H', J, z⟩ => exact close (v := V.non) (u := Value.none) J rfl z
  | .brk, ⟨_, _, _, z⟩ => exact z.elim
  | .cont, ⟨_, _, _, z⟩ => exact z.elim

/-! ### the law's call -/
/-- the heap in which the script alone is tracked -/
def scr (K : PySem.W.Frag) (a : Addr) (o : Obj) (xs : List V) : Hp := fun b => if K.lookup a = none ∧ b = a then some (.frz o (.lst xs)) else none
theorem law_callG {P : Program} {w : World} {K : PySem.W.Frag} {mg mb : Str → Option Value} {k : Nat} {fa a : Addr} {fd : FuncData} {x : Str} {sp : Sp} {s₁ : Shared} {vs : List Value} {ns : List Int}
    (KX : K.In s₁.heap) (hns : s₁.heap.Ns mainGlobals mg) (hb : s₁.heap.Ns builtinsNs mb) (hbb : ∀ x : Str, x ≠ "__name__" → mb x = bootBuiltins x) (hlim : s₁.heap.NoLimit) (hg : s₁.gens = #[])
    (ha : s₁.heap.get? a = some { cls := .type "list", data := .seq vs.toArray }) (hi : IntsAre vs ns) (hl : ns.length ≤ sizeLine) (hr : Room k callerA)
    (F : ∀ base : Heap, K.In base → base.Ns mainGlobals mg → FnG P w K mg base k fa fd [x] sp) (hbind : ∀ (s : Shared) (u : Value), BindsTo s fd ⟨[u], []⟩ [(x, u)])
    (hsp : ∀ H : Hp, SqL K H a (ns.map V.int) → sp [.ref a] H (fun v _ => v = .bl true) fun _ _ _ => False) :
    codeAny (model P w) callerA (.call (.ref fa) ⟨[.ref a], []⟩) (fun r s' => r = .ok (.ret (.bool true)) ∧ OldK s₁.heap s'.heap ∧ s'.os = s₁.os ∧ AllBare s'.gens) s₁ := by
  have rv := vals_ints hi
  have lv := hi.length
  let o0 : Obj := { cls := .type "list", data := .seq vs.toArray }
  let H := scr K a o0 (ns.map V.int)
  have Hat : ∀ b u, H b = some u → K.lookup a = none ∧ b = a ∧ u = .frz o0 (.lst (ns.map V.int)) := fun b u e => by
    have e' : (if K.lookup a = none ∧ b = a then some (HO.frz o0 (.lst (ns.map V.int))) else none) = some u := e
    by_cases c : K.lookup a = none ∧ b = a
    · rw [if_pos c] at e'
      exact ⟨c.1, c.2, (Option.some.inj e').symm⟩
    · rw [if_neg c] at e'
      cases e'
  have Hno : ∀ b, b ≠ a → H b = none := fun b n => if_neg fun c => n c.2
  have hok : HOk P w H s₁.heap := fun b u e => by
    obtain ⟨_, rfl, rfl⟩ := Hat b u e
    exact ⟨ha, by rw [List.length_map]; exact hl, vs, _, rv, ha⟩
  have hS : SqL K H a (ns.map V.int) := by
    cases q : K.lookup a with
    | none => exact .inl (.inr ⟨o0, if_pos ⟨q, rfl⟩⟩)
    | some o =>
      have e := KX a o q
      rw [ha] at e
      cases e
      exact .inr ⟨_, vs.toArray, _, q, rfl, rfl, rfl, by rw [List.size_toArray, lv]; exact hl, by simpa using rv⟩
  -- what the law does not own stays
  have noDict : ∀ {b : Addr} {o : Obj} {es : Array DictEntry} {ep : Nat}, s₁.heap.get? b = some o → o.data = .dict es ep → H b = none := fun {b o es ep} e d => Hno b fun z => by
    subst z
    rw [ha] at e
    cases e
    exact nomatch (show Data.seq vs.toArray _ = Data.dict es ep from d)
  have nsK : ∀ {b : Addr} {m : Str → Option Value}, s₁.heap.Ns b m → (hidT s₁.heap H).Ns b m := fun {b m} ⟨o, es, ep, e, d, r⟩ => ⟨o, es, ep, hidT_get e (noDict e d), d, r⟩
  have inB : K.In (hidT s₁.heap H) := fun b o e => hidT_get (KX b o e) (by
    cases q : H b with
    | none => rfl
    | some u =>
      obtain ⟨z, rfl, _⟩ := Hat b u q
      rw [z] at e
      cases e)
  have mod : Mod K mg (hidT s₁.heap H) := ⟨inB, nsK hns, ⟨mb, nsK hb, hbb⟩, let ⟨mc, h1, h2⟩ := hlim; ⟨mc, nsK h1, h2⟩⟩
  have env : Env0 P w K mg (hidT s₁.heap H) callerA [] s₁ H := ⟨rfl, mod, fun b o e => of_hidT e, Nat.le_of_eq (hidT_size _ _), trivial, (fun b hb => nomatch hb), hok, .of_eq hg⟩
  refine codeAny_mono ((F _ inB (nsK hns)).run callerA [] s₁ H ⟨[.ref a], []⟩ [.ref a] [.ref a] _ _ rfl hr env (hbind s₁ (.ref a)) (.cons rfl .nil) (hsp H hS)) fun r s' q => ?_
  match r, q with
  | .error e, q => exact (show False from q).elim
  | .ok (.ret u), ⟨v, H', os, bare, un, hok', rel, hv⟩ =>
    obtain rfl : v = .bl true := hv
    obtain rfl : u = Value.bool true := rel
    refine ⟨rfl, OldK.of_keep fun b o e => ?_, os, bare⟩
    cases z : H b with
    | none => exact un.keep b o e z (fun h => nomatch h) (fun h => nomatch h)
    | some u =>
      obtain ⟨_, rfl, rfl⟩ := Hat b u z
      have z2 := un.frzs b _ _ z
      obtain ⟨e1, _⟩ := hok b _ z
      obtain ⟨e2, _⟩ := hok' b _ z2
      rw [e] at e1
      cases e1
      exact e2
theorem walk_ofG {l : PySem.W.OpenLaw} {n k : Nat} {q : Program} {loose : List Str} {XP : (Str → Option Value) → Heap → Prop} {YP : World → Heap → Prop} {d : DefRec} {K : Params → PySem.W.Frag} {sp : World → Sp} {x : Str}
    (hn : l.most = some n) (hn2 : n ≤ sizeLine) (hdf : d.params.defaults = []) (hr : Room k callerA)
    (hY : ∀ (w : World) (h : Heap), YP w h → (K w.params).In h)
    (F : ∀ (w : World) (mg : Str → Option Value) (fa : Addr) (h : Heap), (K w.params).In h → h.Ns mainGlobals mg → mg d.name = some (.ref fa) →
      ∃ fd : FuncData, (∀ (s : Shared) (u : Value), BindsTo s fd ⟨[u], []⟩ [(x, u)]) ∧
        ∀ base : Heap, (K w.params).In base → base.Ns mainGlobals mg → FnG l.prog w (K w.params) mg base k fa fd [x] (sp w))
    (hsp : ∀ (w : World) (H : Hp) (a : Addr) (ns : List Int), ns.length ≤ n → SqL (K w.params) H a (ns.map V.int) → sp w [.ref a] H (fun v _ => v = .bl true) fun _ _ _ => False) :
    PySem.W.WalkO q loose XP YP l.row.toRowW d [] (fun f vs => PySem.call f vs) := by
  refine Att.attach_call hn hdf fun w s₀ s₁ mg mb fa o pm cd doc a vs ns G Y ho hd hcd hmg hobj hints hlen hg => ?_
  have KX := hY w _ Y
  obtain ⟨fd, hb, hF⟩ := F w mg fa _ KX G.T.g hmg
  exact law_callG KX G.T.g G.T.b G.T.builtins G.T.nolimit hg hobj hints (Nat.le_trans hlen hn2) hr hF hb fun H hS => hsp w H a ns hlen hS
end My

set_option Elab.async false
set_option linter.all false
set_option maxRecDepth 100000
set_option maxHeartbeats 4000000
namespace My
open PySem PySem.Spec PyProof.Rows L2

/-! ### how large data is -/
def Sm (W D : Nat) (d : PyData) : Prop := d.leavesShort 60 = true ∧ d.showable = true ∧ d.bulk ≤ W ∧ d.depth ≤ D
def SmAll (W D : Nat) (ds : List PyData) : Prop := PyData.leavesShortAll 60 ds = true ∧ PyData.showableAll ds = true ∧ PyData.bulkAll ds ≤ W ∧ PyData.depthAll ds ≤ D
theorem Sm.mono {W W' D D' : Nat} {d : PyData} (h : Sm W D d) (hw : W ≤ W') (hd : D ≤ D') : Sm W' D' d := ⟨h.1, h.2.1, Nat.le_trans h.2.2.1 hw, Nat.le_trans h.2.2.2 hd⟩
theorem SmAll.mono {W W' D D' : Nat} {ds : List PyData} (h : SmAll W D ds) (hw : W ≤ W') (hd : D ≤ D') : SmAll W' D' ds := ⟨h.1, h.2.1, Nat.le_trans h.2.2.1 hw, Nat.le_trans h.2.2.2 hd⟩
theorem SmAll.list {W D : Nat} {ds : List PyData} (h : SmAll W D ds) : Sm W (D + 1) (.list ds) := by
  obtain ⟨h1, h2, h3, h4⟩ := h
  exact ⟨by simpa only [PyData.leavesShort] using h1, by simpa only [PyData.showable] using h2, by simpa only [PyData.bulk] using h3, by simp only [PyData.depth]; omega⟩
theorem SmAll.tuple {W D : Nat} {ds : List PyData} (h : SmAll W D ds) : Sm W (D + 1) (.tuple ds) := by
  obtain ⟨h1, h2, h3, h4⟩ := h
  exact ⟨by simpa only [PyData.leavesShort] using h1, by simpa only [PyData.showable] using h2, by simpa only [PyData.bulk] using h3, by simp only [PyData.depth]; omega⟩
theorem SmAll.nil {D : Nat} : SmAll 0 D [] := ⟨rfl, rfl, Nat.le_refl 0, Nat.zero_le _⟩
theorem SmAll.cons {W W' D : Nat} {d : PyData} {ds : List PyData} (h : Sm W D d) (t : SmAll W' D ds) : SmAll (W + 1 + W') D (d :: ds) := by
  obtain ⟨h1, h2, h3, h4⟩ := h
  obtain ⟨t1, t2, t3, t4⟩ := t
  refine ⟨by simp only [PyData.leavesShortAll, h1, t1, Bool.and_true], by simp only [PyData.showableAll, h2, t2, Bool.and_true], by simp only [PyData.bulkAll]; omega, ?_⟩
  simp only [PyData.depthAll]
  exact Nat.max_le.mpr ⟨h4, t4⟩
theorem SmAll.uncons {W D : Nat} {d : PyData} {ds : List PyData} (h : SmAll W D (d :: ds)) : ∃ w w', w + 1 + w' ≤ W ∧ Sm w D d ∧ SmAll w' D ds := by
  obtain ⟨h1, h2, h3, h4⟩ := h
  simp only [PyData.leavesShortAll, Bool.and_eq_true] at h1
  simp only [PyData.showableAll, Bool.and_eq_true] at h2
  simp only [PyData.bulkAll] at h3
  simp only [PyData.depthAll] at h4
  have h5 := Nat.max_le.mp h4
  exact ⟨d.bulk, PyData.bulkAll ds, h3, ⟨h1.1, h2.1, Nat.le_refl _, h5.1⟩, h1.2, h2.2, Nat.le_refl _, h5.2⟩
theorem SmAll.append : ∀ {W W' D : Nat} {ds es : List PyData}, SmAll W D ds → SmAll W' D es → SmAll (W + W') D (ds ++ es)
  | W, W', D, [], es, _, h => h.mono (by omega) (Nat.le_refl _)
  | W, W', D, d :: ds, es, h, g => by
    obtain ⟨w, w', hw, h1, h2⟩ := h.uncons
    exact (SmAll.cons h1 (SmAll.append h2 g)).mono (by omega) (Nat.le_refl _)
theorem SmAll.take : ∀ {W D : Nat} {ds : List PyData} (k : Nat), SmAll W D ds → SmAll W D (ds.take k)
  | _, _, [], k, h => by rw [List.take_nil]; exact h
  | _, _, _ :: _, 0, h => SmAll.nil.mono (Nat.zero_le _) (Nat.le_refl _)
  | W, D, d :: ds, k + 1, h => by
    obtain ⟨w, w', hw, h1, h2⟩ := h.uncons
    exact (SmAll.cons h1 (SmAll.take k h2)).mono hw (Nat.le_refl _)
theorem SmAll.drop : ∀ {W D : Nat} {ds : List PyData} (k : Nat), SmAll W D ds → SmAll W D (ds.drop k)
  | _, _, [], k, h => by rw [List.drop_nil]; exact h
  | _, _, _ :: _, 0, h => h
  | W, D, d :: ds, k + 1, h => by
    obtain ⟨w, w', hw, h1, h2⟩ := h.uncons
    exact (SmAll.drop k h2).mono (by omega) (Nat.le_refl _)
theorem SmAll.mem : ∀ {W D : Nat} {ds : List PyData} {d : PyData}, SmAll W D ds → d ∈ ds → Sm W D d
  | W, D, e :: ds, d, h, m => by
    obtain ⟨w, w', hw, h1, h2⟩ := h.uncons
    rcases List.mem_cons.mp m with rfl | m
    · exact h1.mono (by omega) (Nat.le_refl _)
    · exact (SmAll.mem h2 m).mono (by omega) (Nat.le_refl _)
theorem SmAll.reverse : ∀ {W D : Nat} {ds : List PyData}, SmAll W D ds → SmAll W D ds.reverse
  | _, _, [], h => h
  | W, D, d :: ds, h => by
    obtain ⟨w, w', hw, h1, h2⟩ := h.uncons
    rw [List.reverse_cons]
    exact (SmAll.append (SmAll.reverse h2) (SmAll.cons h1 SmAll.nil)).mono (by omega) (Nat.le_refl _)
theorem SmAll.len : ∀ {W D : Nat} {ds : List PyData}, SmAll W D ds → ds.length ≤ W
  | _, _, [], _ => Nat.zero_le _
  | W, D, d :: ds, h => by
    obtain ⟨w, w', hw, h1, h2⟩ := h.uncons
    have := SmAll.len h2
    rw [List.length_cons]
    omega
/-- one place put anew -/
theorem SmAll.set : ∀ {W W' D : Nat} {ds : List PyData} {d : PyData} (k : Nat), SmAll W D ds → Sm W' D d → SmAll (W + W') D (ds.set k d)
  | _, _, _, [], _, _, h, _ => h.mono (by omega) (Nat.le_refl _)
  | W, W', D, e :: ds, d, 0, h, g => by
    obtain ⟨w, w', hw, h1, h2⟩ := h.uncons
    exact (SmAll.cons g h2).mono (by omega) (Nat.le_refl _)
  | W, W', D, e :: ds, d, k + 1, h, g => by
    obtain ⟨w, w', hw, h1, h2⟩ := h.uncons
    exact (SmAll.cons h1 (SmAll.set k h2 g)).mono (by omega) (Nat.le_refl _)
theorem Sm.int {i : Int} (h : i.natAbs < 10 ^ 50) : Sm 0 0 (.int i) := by
  refine ⟨?_, ?_, Nat.le_refl _, Nat.le_refl _⟩
  · simp only [PyData.leavesShort, decide_eq_true_eq]
    have e := int_text_length_le10 (a := i) (k := 50) (by decide) h
    show (Str.ofString (toString i)).length ≤ 60
    rw [PySem.ofString_length]
    omega
  · simp only [PyData.showable, decide_eq_true_eq]
    rcases Nat.eq_zero_or_pos i.natAbs with z | z
    · rw [z]
      decide
    · have h2 : (10 : Nat) ^ 50 ≤ 2 ^ 200 := by decide
      have h3 := (Nat.log2_lt (n := i.natAbs) (k := 200) (by omega)).mpr (Nat.lt_of_lt_of_le h h2)
      omega
theorem Sm.bool {b : Bool} : Sm 0 0 (.bool b) := ⟨rfl, rfl, Nat.le_refl _, Nat.le_refl _⟩
theorem Sm.none : Sm 0 0 .none := ⟨rfl, rfl, Nat.le_refl _, Nat.le_refl _⟩
theorem Sm.str0 : Sm 1 0 (.str "") := ⟨by decide, rfl, by decide, Nat.le_refl _⟩
theorem Sm.strA : Sm 1 0 (.str "a") := ⟨by decide, rfl, by decide, Nat.le_refl _⟩
theorem Sm.dict0 : Sm 0 1 (.dict []) := ⟨by decide, by decide, by decide, by decide⟩
/-- the text of small data is in the line -/
theorem Sm.fits {W D : Nat} {d : PyData} (h : Sm W D d) (hw : W ≤ 100000) : d.shown.length + 64 ≤ sizeLine := by
  have h1 := PyData.shown_le_bulk 60 (by decide) d h.1
  have h2 := h.2.2.1
  rw [sizeLine_eq]
  omega
end My

set_option Elab.async false
set_option linter.all false
set_option maxRecDepth 100000
set_option maxHeartbeats 4000000
namespace My
open PySem PySem.Spec PyProof.Rows L2

/-! ### a heap without some addresses -/
def wos (av : List Addr) (H : Hp) : Hp := fun b => if b ∈ av then none else H b
theorem wos_in {av : List Addr} {H : Hp} {b : Addr} (h : b ∉ av) : wos av H b = H b := by unfold wos; rw [if_neg h]
theorem wos_some {av : List Addr} {H : Hp} {b : Addr} {o : HO} (h : wos av H b = some o) : b ∉ av ∧ H b = some o := by
  unfold wos at h
  by_cases c : b ∈ av
  · rw [if_pos c] at h
    cases h
  · rw [if_neg c] at h
    exact ⟨c, h⟩
theorem wos_le {av : List Addr} {H : Hp} : Same (wos av H) H := fun b o h => (wos_some h).2
theorem Same.wos {av : List Addr} {H H' : Hp} (s : Same H H') : Same (wos av H) (wos av H') := fun b o h => by
  obtain ⟨n, e⟩ := wos_some h
  rw [wos_in n]
  exact s _ _ e
theorem Same.wos_of {av : List Addr} {p : Addr} {H H' : Hp} (hp : p ∈ av) (s : L2.Same (My.wo p H) (My.wo p H')) : L2.Same (My.wos av H) (My.wos av H') := fun b o h => by
  obtain ⟨n, e⟩ := wos_some h
  have hb : b ≠ p := fun z => n (by rw [z]; exact hp)
  rw [wos_in n]
  exact (wo_some (s _ _ ((wo_ne hb).trans e))).2
theorem wos_wo {av : List Addr} {p : Addr} {H : Hp} (hp : p ∈ av) : Same (wos av H) (wo p H) := fun b o h => by
  obtain ⟨n, e⟩ := wos_some h
  exact (wo_ne (fun z : b = p => n (by rw [z]; exact hp))).trans e
/-- the addresses are there -/
def Avs (av : List Addr) (H : Hp) : Prop := ∀ b ∈ av, ∃ o, H b = some o
theorem Avs.same {av : List Addr} {H H' : Hp} (s : Same H H') (h : Avs av H) : Avs av H' := fun b hb => by
  obtain ⟨o, e⟩ := h b hb
  exact ⟨o, s _ _ e⟩
theorem Avs.of {av : List Addr} {p : Addr} {H H' : Hp} (s : Same (wo p H) (wo p H')) (hp : ∃ o, H' p = some o) (h : Avs av H) : Avs av H' := fun b hb => by
  by_cases c : b = p
  · rw [c]
    exact hp
  · obtain ⟨o, e⟩ := h b hb
    exact ⟨o, (wo_some (s _ _ ((wo_ne c).trans e))).2⟩
theorem Avs.fresh {av : List Addr} {H : Hp} {a : Addr} (h : Avs av H) (ha : H a = none) : a ∉ av := fun z => by
  obtain ⟨o, e⟩ := h a z
  rw [e] at ha
  cases ha

theorem wo_updD {p fa : Addr} {H H' : Hp} {o : HO} (s : Same (wo p H) (wo p H')) (hf : wo p H fa = none) : Same (wo p H) (wo p (upd H' fa o)) := fun b x h => by
  have n : b ≠ fa := fun z => by
    rw [z, hf] at h
    cases h
  have hb : b ≠ p := (wo_some h).1
  rw [wo_ne hb, upd_ne n]
  exact (wo_some (s _ _ h)).2
theorem wos_updD {av : List Addr} {fa : Addr} {H : Hp} {o : HO} : Same (wos (fa :: av) H) (wos av (upd H fa o)) := fun b x h => by
  obtain ⟨n, e⟩ := wos_some h
  rw [List.mem_cons, not_or] at n
  rw [wos_in n.2, upd_ne n.1]
  exact e
theorem wos_more {av : List Addr} {p fa : Addr} {H H' : Hp} (hp : p ∈ av) (hf : wo p H fa = none) (s : Same (wo p H) (wo p H')) : Same (wos av H) (wos (fa :: av) H') := fun b x h => by
  obtain ⟨n, e⟩ := wos_some h
  have hb : b ≠ p := fun z => n (by rw [z]; exact hp)
  have h2 : wo p H b = some x := (wo_ne hb).trans e
  have n2 : b ≠ fa := fun z => by
    rw [z, hf] at h2
    cases h2
  rw [wos_in (by rw [List.mem_cons, not_or]; exact ⟨n2, n⟩)]
  exact (wo_some (s _ _ h2)).2

/-! ### displays: what is written out is new data, and nothing else changes -/
/-- the part tells data d, from any heap that holds H0; the addresses av are not in it -/
def EvQ (K : PySem.W.Frag) (av : List Addr) (H0 : Hp) (σ : L2.St) (t : TE) (d : PyData) : Prop :=
  ∀ H, Same H0 H → ∀ Q : VK, (∀ x H', Same H H' → Dq K (wos av H') x d → Q x H') → t σ H Q
def EvA (K : PySem.W.Frag) (av : List Addr) (H0 : Hp) (σ : L2.St) (t : TA) (ds : List PyData) : Prop :=
  ∀ H, Same H0 H → ∀ Q : List V → Hp → Prop, (∀ xs H', Same H H' → DqAll K (wos av H') xs ds → Q xs H') → t σ H Q
section
variable {K : PySem.W.Frag} {av : List Addr} {H0 : Hp} {σ : L2.St} {t : TE} {ta : TA} {d : PyData} {ds : List PyData}
theorem EvQ.pure {v : V} (h : ∀ (H : Hp) (Q : VK), Q v H → t σ H Q) (hd : Dq K (wos av H0) v d) : EvQ K av H0 σ t d :=
  fun H s Q q => h H Q (q v H (fun _ _ e => e) (Dq.same (My.Same.wos s) hd))
theorem EvQ.c {v : V} (hd : Dq K (wos av H0) v d) : EvQ K av H0 σ (tC v) d := EvQ.pure (fun _ _ q => q) hd
theorem EvQ.var {i : Nat} {v : V} (e : σ[i]? = some (some v)) (hd : Dq K (wos av H0) v d) : EvQ K av H0 σ (tVar i) d := EvQ.pure (fun _ _ q => ⟨v, e, q⟩) hd
theorem EvA.nil : EvA K av H0 σ tNil [] := fun H s Q q => q [] H (fun _ _ e => e) .nil
theorem EvA.cons (h : EvQ K av H0 σ t d) (r : EvA K av H0 σ ta ds) : EvA K av H0 σ (tCons t ta) (d :: ds) :=
  fun H s Q q => h H s _ fun x H1 s1 hx => r H1 (s.trans s1) _ fun xs H2 s2 hxs => q (x :: xs) H2 (s1.trans s2) (.cons (Dq.same (My.Same.wos s2) hx) hxs)
theorem EvQ.tup (hp : Avs av H0) (r : EvA K av H0 σ ta ds) (hl : ds.length ≤ 1000) : EvQ K av H0 σ (tTup ta) (.tuple ds) := fun H s Q q => by
  refine r H s _ fun xs H1 s1 hxs => ⟨by rw [hxs.len, sizeLine_eq]; omega, fun a ha => q _ _ (s1.trans (My.Same.new ha)) ?_⟩
  have n : a ∉ av := (hp.same (s.trans s1)).fresh ha
  exact .tup (SqT.of ((wos_in n).trans upd_same)) (DqAll.same (My.Same.wos (My.Same.new ha)) hxs)
theorem EvQ.lst (hp : Avs av H0) (r : EvA K av H0 σ ta ds) (hl : ds.length ≤ 1000) : EvQ K av H0 σ (tLst ta) (.list ds) := fun H s Q q => by
  refine r H s _ fun xs H1 s1 hxs => ⟨by rw [hxs.len, sizeLine_eq]; omega, fun a ha => q _ _ (s1.trans (My.Same.new ha)) ?_⟩
  have n : a ∉ av := (hp.same (s.trans s1)).fresh ha
  exact .lst (SqL.of ((wos_in n).trans upd_same)) (DqAll.same (My.Same.wos (My.Same.new ha)) hxs)
theorem EvQ.dict (hp : Avs av H0) : EvQ K av H0 σ tDNewK (.dict []) := fun H s Q q a ha => by
  refine q _ _ (My.Same.new ha) (.dct ?_)
  have n : a ∉ av := (hp.same s).fresh ha
  exact (wos_in n).trans upd_same
end
theorem tAsg_op {r : R2} {ta tb : TE} {g : TG} {D : Ends} {σ : L2.St} {H : Hp} (h : ta σ H fun x H1 => tb σ H1 fun y H2 => r x y H2 fun z H3 => g z σ H3 D.nx) : tAsg (tOp r ta tb) g D σ H := h
/-- one of the data -/
theorem DqAll.mem {K : PySem.W.Frag} {H : Hp} {ds : List PyData} {vs : List V} {j : Nat} {v : V} (h : DqAll K H vs ds) (e : vs[j]? = some v) : ∃ d, d ∈ ds ∧ Dq K H v d := by
  obtain ⟨d, e1, e2⟩ := h.get e
  exact ⟨d, List.mem_of_getElem? e1, e2⟩

section
variable {K : PySem.W.Frag} {H : Hp}
theorem DqAll.take : ∀ {ds : List PyData} {vs : List V} (k : Nat), DqAll K H vs ds → DqAll K H (vs.take k) (ds.take k)
  | _, _, k, .nil => by rw [List.take_nil, List.take_nil]; exact .nil
  | _, _, 0, .cons _ _ => .nil
  | _, _, k + 1, .cons h t => .cons h (DqAll.take k t)
theorem DqAll.drop : ∀ {ds : List PyData} {vs : List V} (k : Nat), DqAll K H vs ds → DqAll K H (vs.drop k) (ds.drop k)
  | _, _, k, .nil => by rw [List.drop_nil, List.drop_nil]; exact .nil
  | _, _, 0, .cons h t => .cons h t
  | _, _, k + 1, .cons h t => DqAll.drop k t
theorem DqAll.set : ∀ {ds : List PyData} {vs : List V} {v : V} {d : PyData} (k : Nat), DqAll K H vs ds → Dq K H v d → DqAll K H (vs.set k v) (ds.set k d)
  | _, _, _, _, k, .nil, _ => .nil
  | _, _, _, _, 0, .cons _ t, g => .cons g t
  | _, _, _, _, k + 1, .cons h t, g => .cons h (DqAll.set k t g)
theorem DqAll.reverse : ∀ {ds : List PyData} {vs : List V}, DqAll K H vs ds → DqAll K H vs.reverse ds.reverse
  | _, _, .nil => .nil
  | _, _, .cons h t => by
    rw [List.reverse_cons, List.reverse_cons]
    exact DqAll.append (DqAll.reverse t) (.cons h .nil)
/-- a slice of data is data, no larger -/
theorem DqAll.cut {ds : List PyData} {vs : List V} {W D : Nat} (lo hi : Option Int) (h : DqAll K H vs ds) (s : SmAll W D ds) : ∃ es, DqAll K H (cutV vs lo hi) es ∧ SmAll W D es :=
  ⟨_, DqAll.take _ (DqAll.drop _ h), SmAll.take _ (SmAll.drop _ s)⟩
theorem Sm.items {W D : Nat} {ds : List PyData} (h : Sm W (D + 1) (.tuple ds)) : SmAll W D ds := by
  obtain ⟨h1, h2, h3, h4⟩ := h
  exact ⟨by simpa only [PyData.leavesShort] using h1, by simpa only [PyData.showable] using h2, by simpa only [PyData.bulk] using h3, by simp only [PyData.depth] at h4; omega⟩
end

/-- whole numbers of some size, in tuples, e deep -/
def Ti : Nat → PyData → Prop
  | 0, d => ∃ i : Int, d = .int i ∧ i.natAbs ≤ 1000000
  | e + 1, d => (∃ i : Int, d = .int i ∧ i.natAbs ≤ 1000000) ∨ ∃ ds, d = .tuple ds ∧ ∀ x ∈ ds, Ti e x
/-- any small values -/
def spOdd (K : PySem.W.Frag) : Sp := fun vs H Q _ => ∃ (p c : Addr) (n : Nat) (av : List Addr), vs = [.ref p] ∧ Pen H p c n ∧ n ≤ 900000 ∧ p ∈ av ∧ Avs av H ∧
  ∀ (x : V) (d : PyData) H', Dq K (wos av H') x d → Sm 2 3 d → Pen H' p c (n + 1) → Same (wo p H) (wo p H') → Q x H'
/-- the data bent: e levels of calls are there -/
def spBent (K : PySem.W.Frag) (m : Nat) : Sp := fun vs H Q _ => ∃ (p c : Addr) (n W e : Nat) (v : V) (d : PyData) (av : List Addr), vs = [.ref p, v] ∧ Pen H p c n ∧ n + 10 * e ≤ 800000 ∧ e + 2 ≤ m ∧ Ti e d ∧ Sm W e d ∧ Dq K (wos av H) v d ∧ W ≤ 1000 ∧ p ∈ av ∧ Avs av H ∧
  ∀ (x : V) (d' : PyData) H', Dq K (wos av H') x d' → Sm ((e + 2) * W + 2) (e + 3) d' → Pen H' p c (n + 10 * (e + 1)) → Same (wo p H) (wo p H') → Q x H'
end My

set_option Elab.async false
set_option linter.all false
set_option maxRecDepth 100000
set_option maxHeartbeats 4000000
namespace My
open PySem PySem.Spec PyProof.Rows L2 Srt

/-! ### sorted(t), t a tuple of pairs of whole numbers -/
section
variable {prog : Program} {w : World} {A : Around} {E : Value → Shared → Prop} {s : Shared}
theorem gather_tup {l : Addr} {vs : List Value} {Q : List Value → Shared → Prop} (hl : s.heap.IsTuple l vs.toArray) (hsz : vs.length ≤ sizeLine)
    (h : Q vs { s with heap := (s.heap.push (seqObj "list" #[] 0)).update s.heap.objs.size (Obj.mapSeq (· ++ vs.toArray)) }) :
    wpAny (model prog w) A (collect (.ref l)) Q E s := by
  obtain ⟨o, ho, hc, n, hd⟩ := id hl
  unfold collect
  refine wpAny_bind (wpAny_runValue (codeAny_builtin entry_proto_collect' ?_))
  show wpAny _ _ (do again (.builtin "list.__iadd__" ⟨[← newList [], .ref l], []⟩)) _ _ s
  refine wpAny_bind (wpAny_newList (wpAny_pure ⟨Code.quiet_builtin _ (by decide +kernel), codeAny_builtin entry_list_iadd' ?_⟩))
  show wpAny _ _ (Builtin.List.listExtendWith (.ref s.heap.objs.size) (.ref l) (.ref s.heap.objs.size)) _ _ { s with heap := s.heap.push (seqObj "list" #[] 0) }
  unfold Builtin.List.listExtendWith
  have ho' : (s.heap.push (seqObj "list" #[] 0)).get? l = some o := Heap.get?_push_of_some _ ho
  refine wpAny_bind (wpAny_typeOf (T := "tuple") ⟨o, ho', hc⟩ ?_)
  have ht : (Value.type "tuple" == Value.type "tuple") = true := by rfl
  rw [if_pos (by rw [ht]; simp)]
  refine wpAny_bind (listItems_at ho' hd ?_)
  refine wpAny_bind (listItems_at (xs := #[]) (n := 0) (Heap.get?_push_size _ rfl) rfl ?_)
  rw [if_neg (by simp)]
  refine wpAny_bind (listUpdate_at (xs := #[]) (n := 0) (Heap.get?_push_size _ rfl) rfl ?_ (Nat.zero_le _) (by show (#[] ++ vs.toArray).size ≤ sizeLine + 1; simp only [Array.size_append, List.size_toArray, List.length_nil]; omega))
  refine wpAny_pure ?_
  show wpAny (model prog w) A (do
      let o ← load s.heap.objs.size
      match o.data with
      | .seq xs _ => pure xs.toList
      | _ => unsupported "internal:collect") Q E { s with heap := (s.heap.push (seqObj "list" #[] 0)).update s.heap.objs.size (Obj.mapSeq (· ++ vs.toArray)) }
  refine wpAny_bind (wpAny_load (get?_update_seq (Heap.get?_push_size _ rfl) _) ?_)
  show wpAny _ _ (pure ((#[] : Array Value) ++ vs.toArray).toList) Q E _
  rw [show ((#[] : Array Value) ++ vs.toArray).toList = vs by simp]
  exact wpAny_pure h
theorem sorted_tup {l : Addr} {vs : List Value} {Q : Value → Shared → Prop} (hl : s.heap.IsTuple l vs.toArray) (hz : vs.length ≤ sizeLine)
    (hS : 2 ≤ vs.length → ∀ (h₁ : Heap) (a : Addr), h₁.get? a = some (seqObj "list" vs.toArray 0) → (∀ b o, s.heap.get? b = some o → b ≠ a ∧ h₁.get? b = some o) → Sortable prog w A.in1.in1 { s with heap := h₁ } a vs)
    (h : ∀ out : List Value, out.Perm vs → Q (.ref (s.heap.objs.size + 1)) { s with heap := sortedAll s.heap vs out.toArray }) :
    wpAny (model prog w) A (call (.builtin "sorted") [.ref l]) Q E s := by
  refine Calls.call_function_entry kind_sorted plain_sorted entry_sorted (args_sorted1 _) ?_
  unfold Builtin.«sorted»
  refine wpAny_bind (m := checkCount "sorted" 1 1 _) (wpAny_pure ?_)
  refine wpAny_bind (gather_tup hl hz ?_)
  refine wpAny_bind (wpAny_newList ?_ hz)
  have hsz : ((s.heap.push (seqObj "list" #[] 0)).update s.heap.objs.size (Obj.mapSeq (· ++ vs.toArray))).objs.size = s.heap.objs.size + 1 := by
    rw [Heap.size_update, size_push']
  have hoL : (((s.heap.push (seqObj "list" #[] 0)).update s.heap.objs.size (Obj.mapSeq (· ++ vs.toArray))).push (seqObj "list" vs.toArray 0)).get? (s.heap.objs.size + 1) = some (seqObj "list" vs.toArray 0) := by
    rw [← hsz]; exact Heap.get?_push_size _ rfl
  have keep : ∀ b o, s.heap.get? b = some o → b ≠ s.heap.objs.size + 1 ∧ (((s.heap.push (seqObj "list" #[] 0)).update s.heap.objs.size (Obj.mapSeq (· ++ vs.toArray))).push (seqObj "list" vs.toArray 0)).get? b = some o := fun b o q => by
    have hlt : b < s.heap.objs.size := Heap.lt_size q
    refine ⟨Nat.ne_of_lt (Nat.lt_succ_of_lt hlt), Heap.get?_push_of_some _ ?_⟩
    rw [Heap.get?_update_ne _ _ _ _ (Nat.ne_of_lt hlt)]
    exact Heap.get?_push_of_some _ q
  show wpAny _ _ _ _ _ { s with heap := ((s.heap.push (seqObj "list" #[] 0)).update s.heap.objs.size (Obj.mapSeq (· ++ vs.toArray))).push (seqObj "list" vs.toArray 0) }
  rw [hsz]
  refine wpAny_bind (wpAny_holding (wpAny_call_entry slot_list_sort ⟨_, hoL, rfl⟩ entry_list_sort (list_sort_any hoL hz (fun h2 => hS h2 _ _ hoL keep) fun out hp => ⟨_, rfl, ?_⟩) (args_list_sort _)))
  exact wpAny_pure ⟨_, rfl, h out hp⟩
theorem sorted_ptup {l : Addr} {vs : List Value} {Q : Value → Shared → Prop} (hl : s.heap.IsTuple l vs.toArray) (hz : vs.length ≤ sizeLine) (hp : ∀ v ∈ vs, ∃ x y, IsPair s.heap v x y)
    (h : ∀ (h' : Heap) (d : Addr) (out : List Value), out.Perm vs → (∀ b o, s.heap.get? b = some o → h'.get? b = some o) → s.heap.objs.size ≤ d → (∃ n, h'.get? d = some (seqObj "list" out.toArray n)) → Q (.ref d) { s with heap := h' }) :
    wpAny (model prog w) A (call (.builtin "sorted") [.ref l]) Q E s := by
  refine sorted_tup hl hz (fun h2 h₁ a ha k => ?_) fun out ho => ?_
  · refine pairs_sortable (s := { s with heap := h₁ }) (by omega) (fun v hm => ?_) fun o e => ?_
    · obtain ⟨x, y, p⟩ := hp v hm
      exact ⟨x, y, p.keeps fun b o e _ => (k b o e).2⟩
    · have e' : some o = some (seqObj "list" vs.toArray 0) := e.symm.trans ha
      cases e'
      intro c
      exact absurd (Value.type.inj c) (by decide)
  · exact h _ _ out ho (fun b o e => sortedAll_old e) (Nat.le_succ _) (sortedAll_at s.heap vs out.toArray)
end
def rSortTP (K : PySem.W.Frag) : List V → Hp → VK → Prop := fun vs H Q => ∃ a xs, vs = [V.ref a] ∧ SqT K H a xs ∧ (∀ x ∈ xs, ∃ t i j, x = V.ref t ∧ SqT K H t [.int i, .int j]) ∧
  ∀ ys p, ys.Perm xs → H p = none → Q (.ref p) (upd H p (.lst ys))
theorem cr_sortTP {X : Cx} : CallR X (.builtin "sorted") (rSortTP X.K) := by
  intro pins s σ H vs us Q I r h
  obtain ⟨a, xs, rfl, hs, hx, q⟩ := h
  obtain ⟨its, rv, hl, hz⟩ := I.tuple hs
  obtain ⟨u, rfl, ru⟩ := vals1 r
  obtain rfl : u = Value.ref a := ru
  obtain ⟨e1, e2⟩ := refs_back rv fun x m => by
    obtain ⟨t, _, _, e, _⟩ := hx x m
    exact ⟨t, e⟩
  refine sorted_ptup hl (by rw [← rv.length]; exact hz) (fun v hv => ?_) fun h' d out hp k hd hn => ?_
  · obtain ⟨t, rfl⟩ := e2 v hv
    have hm : V.ref t ∈ xs := by rw [e1]; exact List.mem_map.mpr ⟨_, hv, rfl⟩
    obtain ⟨t', i, j, e, ht⟩ := hx _ hm
    cases e
    obtain ⟨its2, r2, ⟨o, ho, hc, n, hd⟩, _⟩ := I.tuple ht
    obtain ⟨u1, u2, rfl, ri, rj⟩ := vals2 r2
    obtain ⟨t1, rfl⟩ := ri
    obtain ⟨t2, rfl⟩ := rj
    exact ⟨i, j, t, o, t1, t2, n, rfl, ho, hc, hd⟩
  · have h3 : ∀ u ∈ out, ∃ a, u = Value.ref a := fun u hu => e2 u (hp.mem_iff.mp hu)
    obtain ⟨n, hn⟩ := hn
    refine ⟨.ref d, upd H d (.lst (out.map backV)), I.laid (t' := s.toks) k hd ⟨?_, out, n, vals_back h3, hn⟩, rfl, q _ d ?_ (I.hok.fresh hd)⟩
    · rw [List.length_map, hp.length_eq, ← rv.length]; exact hz
    · rw [e1]; exact hp.map backV
theorem sortTP {X : Cx} (K : PySem.W.Frag) (h : X.K = K := by rfl) : CallR X (.builtin "sorted") (rSortTP K) := by subst h; exact cr_sortTP
/-- data in another order -/
theorem DqAll.perm {K : PySem.W.Frag} {H : Hp} {vs us : List V} (p : us.Perm vs) : ∀ {ds : List PyData}, DqAll K H vs ds → ∃ es, es.Perm ds ∧ DqAll K H us es := by
  induction p with
  | nil => exact fun h => ⟨_, .refl _, h⟩
  | cons x _ ih =>
    intro ds h
    cases h with
    | cons h t =>
      obtain ⟨es, e1, e2⟩ := ih t
      exact ⟨_, e1.cons _, .cons h e2⟩
  | swap x y l =>
    intro ds h
    cases h with
    | cons h t =>
      cases t with
      | cons h2 t => exact ⟨_, .swap .., .cons h2 (.cons h t)⟩
  | trans _ _ ih1 ih2 =>
    intro ds h
    obtain ⟨es, e1, e2⟩ := ih2 h
    obtain ⟨fs, f1, f2⟩ := ih1 e2
    exact ⟨fs, f1.trans e1, f2⟩
theorem SmAll.perm {W D : Nat} {ds es : List PyData} (p : es.Perm ds) : SmAll W D ds → SmAll W D es := by
  revert W
  induction p with
  | nil => exact fun h => h
  | cons x _ ih =>
    intro W h
    obtain ⟨w, w', hw, h1, h2⟩ := h.uncons
    exact (SmAll.cons h1 (ih h2)).mono hw (Nat.le_refl _)
  | swap x y l =>
    intro W h
    obtain ⟨w, w', hw, h1, h2⟩ := h.uncons
    obtain ⟨v, v', hv, g1, g2⟩ := h2.uncons
    exact (SmAll.cons g1 (SmAll.cons h1 g2)).mono (by omega) (Nat.le_refl _)
  | trans _ _ ih1 ih2 => exact fun h => ih1 (ih2 h)

/-- webs bent in the ways of webs -/
def spNear (K : PySem.W.Frag) : Sp := fun vs H Q _ => ∃ (p c : Addr) (n0 : Nat) (av : List Addr) (v : V) (n : Int) (T : List (Int × Int)), vs = [.ref p, v] ∧ Pen H p c n0 ∧ n0 ≤ 800000 ∧ Dq K (wos av H) v (webD n T) ∧ (1 ≤ n ∧ n ≤ 12) ∧ T.length ≤ 144 ∧ (∀ t ∈ T, (0 ≤ t.1 ∧ t.1 < 12) ∧ 0 ≤ t.2 ∧ t.2 < 12) ∧ p ∈ av ∧ Avs av H ∧
  ∀ (x : V) (d' : PyData) H', Dq K (wos av H') x d' → Sm 1000 6 d' → Pen H' p c (n0 + 5) → Same (wo p H) (wo p H') → Q x H'
end My

set_option Elab.async false
set_option linter.all false
set_option maxRecDepth 100000
set_option maxHeartbeats 4000000
namespace My
open PySem PySem.Spec PyProof.Rows L2 HT

/-! ### t[::-1], t a tuple -/
section
variable {prog : Program} {w : World} {A : Around} {E : Value → Shared → Prop} {s : Shared}
theorem back_places (n : Nat) : Builtin.Slice.slicePlaces ((n : Int) - 1) (-1) (-1) = n := by
  unfold Builtin.Slice.slicePlaces
  have h1 : ¬ ((-1 : Int) > 0) := by decide
  rw [if_neg h1]
  split
  · rw [show (-(-1) : Int) = 1 by decide, Int.ediv_one]
    omega
  · omega
theorem back_applied {sl : Addr} {vl vu vs : Value} {n : Nat} {Q : Int × Int × Nat → Shared → Prop} (hs : s.heap.IsSliceOf sl vl vu vs) (pl : IsPart vl none) (pu : IsPart vu none) (ps : IsPart vs (some (-1)))
    (h : Q ((n : Int) - 1, -1, n) s) : wpAny (model prog w) A (Builtin.Slice.sliceApplied (.ref sl) (pure (n : Int))) Q E s := by
  obtain ⟨os, hos, hcs, hds⟩ := id hs
  unfold Builtin.Slice.sliceApplied Builtin.Slice.sliceFields
  refine wpAny_bind (wpAny_bind (wpAny_field hos hds (x := vl) rfl (wpAny_bind (wpAny_field hos hds (x := vu) rfl (wpAny_bind (wpAny_field hos hds (x := vs) rfl (wpAny_pure ?_)))))))
  refine wpAny_bind (slicePart_ ps ?_)
  show wpAny _ _ (if ((-1 : Int) == 0) = true then _ else _) _ _ s
  rw [if_neg (by decide)]
  refine wpAny_bind (slicePart_ pl (wpAny_bind (slicePart_ pu (wpAny_bind (wpAny_pure ?_)))))
  show wpAny _ _ (pure ((n : Int) - 1, (-1 : Int), Builtin.Slice.slicePlaces ((n : Int) - 1) (-1) (-1))) _ _ s
  rw [back_places]
  exact wpAny_pure h
theorem back_pick (xs : Array Value) : ((List.range xs.size).filterMap fun (k : Nat) => xs[(((xs.size : Nat) : Int) - 1 + (k : Int) * (-1)).toNat]?).toArray = xs.toList.reverse.toArray := by
  have e : (List.range xs.size).filterMap (fun (k : Nat) => xs[(((xs.size : Nat) : Int) - 1 + (k : Int) * (-1)).toNat]?) = ((List.range xs.size).map fun k => xs.size - 1 - k).filterMap (xs[·]?) := by
    rw [List.filterMap_map]
    refine congrArg (fun f => (List.range xs.size).filterMap f) (funext fun k => ?_)
    show xs[(((xs.size : Nat) : Int) - 1 + (k : Int) * (-1)).toNat]? = xs[xs.size - 1 - k]?
    have e : (((xs.size : Nat) : Int) - 1 + (k : Int) * (-1)).toNat = xs.size - 1 - k := by omega
    rw [e]
  rw [e, PySem.W.krv_range, List.filterMap_reverse, PySem.W.krv_all]
theorem item_back {t sl : Addr} {items : Array Value} {vl vu vs : Value} {Q : Value → Shared → Prop} (ht : IsTup s.heap t items) (hs : s.heap.IsSliceOf sl vl vu vs) (pl : IsPart vl none) (pu : IsPart vu none) (ps : IsPart vs (some (-1)))
    (h : Q (.ref s.heap.objs.size) { s with heap := s.heap.push { cls := .type "tuple", data := .seq items.toList.reverse.toArray } }) (hsz : items.size ≤ sizeLine) : wpAny (model prog w) A (getItem (.ref t) (.ref sl)) Q E s := by
  have htake : sizeOk (.seq items.toList.reverse.toArray) := by
    show items.toList.reverse.toArray.size ≤ sizeLine
    rw [List.size_toArray, List.length_reverse, Array.length_toList]
    exact hsz
  obtain ⟨os, hos, hcs, hds⟩ := id hs
  have hTs : s.TypeIs (.ref sl) "slice" := ⟨os, hos, hcs⟩
  unfold getItem
  try with_reducible refine wpAny_holding ?_
  first | refine wpAny_bind (wpAny_pure ?_) | skip
  refine wpAny_bind (wpAny_sequenceKey ht.typeIs (by decide) ?_)
  refine wpAny_bind (wpAny_callSpecial?_slot (name := Str.ofString "__getitem__") ht.typeIs PyProof.Rows.slot_tuple_getitem
    (wpAny_call_entry PyProof.Rows.slot_tuple_getitem ht.typeIs entry_tuple_getitem ?_ (args_tuple_getitem _ _)))
  show wpAny _ _ (Builtin.Tuple.tupleItemsOf (.ref t) >>= _) _ _ s
  refine wpAny_bind (tupleItemsOf_ ht ?_)
  refine wpAny_bind (wpAny_typeOf hTs ?_)
  rw [if_pos (by decide)]
  refine wpAny_bind (back_applied hs pl pu ps ?_)
  have hno : ¬ ((((items.size : Int) - 1) == 0 && (-1 : Int) == 1 && items.size == items.size) = true) := by
    intro q
    rw [Bool.and_eq_true, Bool.and_eq_true] at q
    exact absurd q.1.2 (by decide)
  show wpAny _ _ (if (((items.size : Int) - 1) == 0 && (-1 : Int) == 1 && items.size == items.size) = true then _ else _) _ _ s
  rw [if_neg hno, back_pick]
  first
    | exact wpAny_bind (m := Builtin.Tuple.tupleExact _) (wpAny_newObj_type (wpAny_pure ⟨_, rfl, wpAny_pure h⟩) htake)
    | exact wpAny_bind (m := Builtin.Tuple.tupleExact _) (wpAny_newObj_type (wpAny_bind (wpAny_pure (wpAny_pure ⟨_, rfl, wpAny_pure h⟩))) htake)
    | exact wpAny_bind (wpAny_bind (m := Builtin.Tuple.tupleExact _) (wpAny_newObj_type (wpAny_pure (wpAny_pure ⟨_, rfl, wpAny_pure h⟩)) htake))
    | exact wpAny_bind (wpAny_bind (m := Builtin.Tuple.tupleExact _) (wpAny_newObj_type (wpAny_pure ⟨_, rfl, wpAny_pure h⟩) htake))
end
def tBackT (K : PySem.W.Frag) (te : TE) : TE := fun σ H Q => te σ H fun x H1 => ∃ a xs, x = .ref a ∧ SqT K H1 a xs ∧ ∀ p, H1 p = none → Q (.ref p) (upd H1 p (.tup xs.reverse))
theorem pe_backT {X : Cx} (K : PySem.W.Frag) {e : Expr} {te : TE} {k : Nat} {p1 p2 p3 pos : Pos} (he : PE X e te) (hK : X.K = K := by rfl) : PE X (.Subscript e (.Slice none none (some (.UnaryOp .USub (.Constant (.int 1) k p1) p2)) p3) pos) (tBackT K te) := by
  subst hK
  refine ⟨fun pins s σ H Q I h => ?_⟩
  refine Subscript_ (thn (he.run pins s σ H _ I h) fun v s1 ⟨x, H1, I1, r1, q1⟩ => ?_)
  obtain ⟨a, xs, ex, hx, q⟩ := q1
  subst ex
  cases r1
  have hst : PO X (some (.UnaryOp .USub (.Constant (.int 1) k p1) p2)) (tPart (tUn (rU fun i => .int (-i)) (tC (.int 1)))) := po_some (pe_un un_neg pe_int)
  refine wpAny_Slice (thn (po_none.run pins s1 σ H1 (fun o H2 => o = none ∧ H2 = H1) I1 ⟨rfl, rfl⟩) fun vl s2 ⟨l, H2, I2, pl, el, e2⟩ => ?_)
  subst el e2
  refine thn (po_none.run pins s2 σ H2 (fun o H3 => o = none ∧ H3 = H2) I2 ⟨rfl, rfl⟩) fun vu s3 ⟨u, H3, I3, pu, eu, e3⟩ => ?_
  subst eu e3
  refine thn (hst.run pins s3 σ H3 (fun o H4 => o = some (-1) ∧ H4 = H3) I3 ⟨1, rfl, -1, rfl, rfl, rfl⟩) fun vs s4 ⟨o, H4, I4, ps, eo, e4⟩ => ?_
  subst eo e4
  have I5 : Inv X pins σ H4 { s4 with heap := s4.heap.push { cls := .type "slice", data := .fields #[vl, vu, vs] } } := I4.kept (t' := s4.toks) fun b ob q => Heap.get?_push_of_some _ q
  obtain ⟨its, r, ht, hz⟩ := I5.tuple hx
  have hlen := r.length
  show wpAny (model X.prog X.w) X.A (subscriptTail e (.Slice none none (some (.UnaryOp .USub (.Constant (.int 1) k p1) p2)) p3) (.ref a) (.ref s4.heap.objs.size)) (EP X pins σ Q) X.xe { s4 with heap := s4.heap.push { cls := .type "slice", data := .fields #[vl, vu, vs] } }
  refine tail_any (ops := [.ref a, .ref s4.heap.objs.size]) ht.typeIs (PyProof.Rows.slot_tuple_getitem.lookup) ?_ (by with_unfolding_all rfl)
  refine item_back ht (Heap.IsSliceOf.new _ vl vu vs) pl pu ps ?_ (by rw [List.size_toArray]; omega)
  refine ⟨.ref _, _, I5.laid (t' := s4.toks) (o := .tup xs.reverse) (fun b ob q => Heap.get?_push_of_some _ q) (Nat.le_refl _) ?_, rfl, q _ (I5.hok.fresh (Nat.le_refl _))⟩
  exact ⟨by rw [List.length_reverse]; exact hz, _, r.reverse, IsTup.new _ _⟩
end My

set_option Elab.async false
set_option linter.all false
set_option maxRecDepth 100000
set_option maxHeartbeats 4000000
namespace My
open PySem PySem.Spec PyProof.Rows L2

/-! ### more of displays -/
/-- as EvQ, and the list told is the def's own -/
def EvL (K : PySem.W.Frag) (av : List Addr) (H0 : Hp) (σ : L2.St) (t : TE) (ds : List PyData) : Prop :=
  ∀ H, Same H0 H → ∀ Q : VK, (∀ a xs H', Same H H' → H' a = some (.lst xs) → a ∉ av → DqAll K (wos av H') xs ds → Q (.ref a) H') → t σ H Q
def cutD (ds : List PyData) (lo hi : Option Int) : List PyData := (ds.drop (HT.sIx ds.length 0 lo)).take (HT.sIx ds.length ds.length hi - HT.sIx ds.length 0 lo)
theorem smallN {n : Nat} (h : n ≤ 10000) : n ≤ sizeLine := by
  rw [sizeLine_eq]
  omega
section
variable {K : PySem.W.Frag} {av : List Addr} {H0 : Hp} {σ : L2.St} {t t1 t2 : TE} {ta : TA} {tl th : TO} {lo hi : Option Int} {d : PyData} {ds es : List PyData}
theorem DqAll.cutD {H : Hp} {vs : List V} (h : DqAll K H vs ds) : DqAll K H (cutV vs lo hi) (My.cutD ds lo hi) := by
  unfold cutV My.cutD
  rw [h.len]
  exact DqAll.take _ (DqAll.drop _ h)
theorem SmAll.cutD {W D : Nat} (h : SmAll W D ds) : SmAll W D (My.cutD ds lo hi) := SmAll.take _ (SmAll.drop _ h)
theorem Dq.un_tup {H : Hp} {v : V} (h : Dq K H v (.tuple ds)) : ∃ a xs, v = .ref a ∧ SqT K H a xs ∧ DqAll K H xs ds := by
  cases h with
  | tup h t => exact ⟨_, _, rfl, h, t⟩
theorem Dq.un_lst {H : Hp} {v : V} (h : Dq K H v (.list ds)) : ∃ a xs, v = .ref a ∧ SqL K H a xs ∧ DqAll K H xs ds := by
  cases h with
  | lst h t => exact ⟨_, _, rfl, h, t⟩
theorem EvL.lst (hp : Avs av H0) (r : EvA K av H0 σ ta ds) (hl : ds.length ≤ 1000) : EvL K av H0 σ (tLst ta) ds := fun H s Q q => by
  refine r H s _ fun xs H1 s1 hxs => ⟨by rw [hxs.len, sizeLine_eq]; omega, fun a ha => q a xs _ (s1.trans (My.Same.new ha)) upd_same ?_ (DqAll.same (My.Same.wos (My.Same.new ha)) hxs)⟩
  exact (hp.same (s.trans s1)).fresh ha
theorem EvL.q (h : EvL K av H0 σ t ds) : EvQ K av H0 σ t (.list ds) := fun H s Q q =>
  h H s _ fun a xs H' s' e n hx => q _ _ s' (.lst (SqL.of ((wos_in n).trans e)) hx)
theorem EvL.var {i : Nat} {a : Addr} {xs : List V} (e : σ[i]? = some (some (.ref a))) (h : H0 a = some (.lst xs)) (n : a ∉ av) (hx : DqAll K (wos av H0) xs ds) : EvL K av H0 σ (tVar i) ds := fun H s Q q =>
  ⟨_, e, q a xs H (fun _ _ e => e) (s _ _ h) n (DqAll.same (My.Same.wos s) hx)⟩
theorem EvL.cat (hp : Avs av H0) (h1 : EvL K av H0 σ t1 ds) (h2 : EvL K av H0 σ t2 es) (hl : ds.length + es.length ≤ 10000) : EvL K av H0 σ (tOp rCat t1 t2) (ds ++ es) := fun H s Q q => by
  refine h1 H s _ fun a xs H1 s1 e1 n1 hx => h2 H1 (s.trans s1) _ fun b ys H2 s2 e2 n2 hy => ⟨a, b, xs, ys, rfl, rfl, s2 _ _ e1, e2, ?_, fun c hc => ?_⟩
  · rw [hx.len, hy.len]
    exact smallN hl
  · have t3 := My.Same.new (o := HO.lst (xs ++ ys)) hc
    have n3 := (hp.same (s.trans (s1.trans s2))).fresh hc
    exact q c _ _ (s1.trans (s2.trans t3)) upd_same n3 (DqAll.append (DqAll.same (My.Same.wos (s2.trans t3)) hx) (DqAll.same (My.Same.wos t3) hy))
theorem EvQ.slT (hp : Avs av H0) (he : EvQ K av H0 σ t (.tuple ds)) (hl : ∀ (H : Hp) (Q : Option Int → Hp → Prop), Q lo H → tl σ H Q) (hh : ∀ (H : Hp) (Q : Option Int → Hp → Prop), Q hi H → th σ H Q) :
    EvQ K av H0 σ (tSl (rSlA K) t tl th) (.tuple (cutD ds lo hi)) := fun H s Q q => by
  refine he H s _ fun x H1 s1 hx => hl _ _ (hh _ _ ?_)
  obtain ⟨a, xs, rfl, hT, hxs⟩ := hx.un_tup
  by_cases hw : HT.sIx xs.length 0 lo = 0 ∧ HT.sIx xs.length xs.length hi = xs.length
  · refine ⟨a, xs, rfl, My.Same.sqt wos_le hT, fun _ => q _ _ s1 (.tup hT ?_), fun z => absurd hw z⟩
    have := DqAll.cutD (lo := lo) (hi := hi) hxs
    rw [cutV_whole hw] at this
    exact this
  · refine ⟨a, xs, rfl, My.Same.sqt wos_le hT, fun z => absurd z hw, fun _ b hb => ?_⟩
    have t3 := My.Same.new (o := HO.tup (cutV xs lo hi)) hb
    have n3 := (hp.same (s.trans s1)).fresh hb
    exact q _ _ (s1.trans t3) (.tup (SqT.of ((wos_in n3).trans upd_same)) (DqAll.same (My.Same.wos t3) (DqAll.cutD hxs)))
theorem EvQ.catT (hp : Avs av H0) (h1 : EvQ K av H0 σ t1 (.tuple ds)) (h2 : EvQ K av H0 σ t2 (.tuple es)) (hl : ds.length + es.length ≤ 10000) : EvQ K av H0 σ (tOp (rCatA K) t1 t2) (.tuple (ds ++ es)) := fun H s Q q => by
  refine h1 H s _ fun x H1 s1 hx => h2 H1 (s.trans s1) _ fun y H2 s2 hy => ?_
  obtain ⟨a, xs, rfl, hT, hxs⟩ := (Dq.same (My.Same.wos s2) hx).un_tup
  obtain ⟨b, ys, rfl, hT2, hys⟩ := hy.un_tup
  refine ⟨a, b, xs, ys, rfl, rfl, My.Same.sqt wos_le hT, My.Same.sqt wos_le hT2, by rw [hxs.len, hys.len]; exact smallN hl, fun z => ?_, fun z1 z2 => ?_, fun z1 z2 c hc => ?_⟩
  · subst z
    cases hxs
    exact q _ _ (s1.trans s2) (.tup hT2 hys)
  · subst z2
    cases hys
    rw [List.append_nil] at *
    exact q _ _ (s1.trans s2) (.tup hT hxs)
  · have t3 := My.Same.new (o := HO.tup (xs ++ ys)) hc
    have n3 := (hp.same (s.trans (s1.trans s2))).fresh hc
    exact q _ _ (s1.trans (s2.trans t3)) (.tup (SqT.of ((wos_in n3).trans upd_same)) (DqAll.same (My.Same.wos t3) (DqAll.append hxs hys)))
theorem EvQ.backT (hp : Avs av H0) (h : EvQ K av H0 σ t (.tuple ds)) : EvQ K av H0 σ (tBackT K t) (.tuple ds.reverse) := fun H s Q q => by
  refine h H s _ fun x H1 s1 hx => ?_
  obtain ⟨a, xs, rfl, hT, hxs⟩ := hx.un_tup
  refine ⟨a, xs, rfl, My.Same.sqt wos_le hT, fun b hb => ?_⟩
  have t3 := My.Same.new (o := HO.tup xs.reverse) hb
  have n3 := (hp.same (s.trans s1)).fresh hb
  exact q _ _ (s1.trans t3) (.tup (SqT.of ((wos_in n3).trans upd_same)) (DqAll.same (My.Same.wos t3) (DqAll.reverse hxs)))
theorem EvL.listOf (hp : Avs av H0) (h : EvQ K av H0 σ t (.tuple ds)) : EvL K av H0 σ (tCB (rListOf K) (tCons t tNil)) ds := fun H s Q q => by
  refine h H s _ fun x H1 s1 hx => ?_
  obtain ⟨a, xs, rfl, hT, hxs⟩ := hx.un_tup
  refine ⟨a, xs, rfl, .inr (My.Same.sqt wos_le hT), fun b hb => ?_⟩
  have t3 := My.Same.new (o := HO.lst xs) hb
  have n3 := (hp.same (s.trans s1)).fresh hb
  exact q b xs _ (s1.trans t3) upd_same n3 (DqAll.same (My.Same.wos t3) hxs)
theorem EvQ.tupleOf (hp : Avs av H0) (h : EvQ K av H0 σ t (.list ds)) : EvQ K av H0 σ (tCB (rTupleOf K) (tCons t tNil)) (.tuple ds) := fun H s Q q => by
  refine h H s _ fun x H1 s1 hx => ?_
  obtain ⟨a, xs, rfl, hL, hxs⟩ := hx.un_lst
  refine ⟨a, xs, rfl, .inl ⟨wos_le.seq hL, fun b hb => ?_⟩⟩
  have t3 := My.Same.new (o := HO.tup xs) hb
  have n3 := (hp.same (s.trans s1)).fresh hb
  exact q _ _ (s1.trans t3) (.tup (SqT.of ((wos_in n3).trans upd_same)) (DqAll.same (My.Same.wos t3) hxs))
/-- sorted(t): the pairs in some order -/
theorem EvQ.sortP (hp : Avs av H0) (h : EvQ K av H0 σ t (.tuple ds)) (hd : ∀ d ∈ ds, ∃ i j : Int, d = .tuple [.int i, .int j]) :
    ∀ H, Same H0 H → ∀ Q : VK, (∀ a xs fs H', fs.Perm ds → Same H H' → H' a = some (.lst xs) → a ∉ av → DqAll K (wos av H') xs fs → Q (.ref a) H') → tCB (rSortTP K) (tCons t tNil) σ H Q := fun H s Q q => by
  refine h H s _ fun x H1 s1 hx => ?_
  obtain ⟨a, xs, rfl, hT, hxs⟩ := hx.un_tup
  refine ⟨a, xs, rfl, My.Same.sqt wos_le hT, fun y hy => ?_, fun ys b hperm hb => ?_⟩
  · obtain ⟨i, hi, e⟩ := List.getElem_of_mem hy
    obtain ⟨d, hd', hq⟩ := hxs.mem (List.getElem?_eq_some_iff.mpr ⟨hi, e⟩)
    obtain ⟨i, j, rfl⟩ := hd d hd'
    obtain ⟨t, zs, rfl, hT2, hz⟩ := hq.un_tup
    cases hz with
    | cons h1 hz =>
    cases hz with
    | cons h2 hz =>
    cases hz
    cases h1
    cases h2
    exact ⟨t, i, j, rfl, My.Same.sqt wos_le hT2⟩
  · obtain ⟨fs, f1, f2⟩ := DqAll.perm hperm hxs
    have t3 := My.Same.new (o := HO.lst ys) hb
    have n3 := (hp.same (s.trans s1)).fresh hb
    exact q b ys fs _ f1 (s1.trans t3) upd_same n3 (DqAll.same (My.Same.wos t3) f2)
/-- [.. for .. in t], t a tuple: each item tells its data -/
theorem EvL.lc {g : TG} {te : TE} {vs : List Nat} {F : PyData → PyData} (hp : Avs av H0) (h : EvQ K av H0 σ t (.tuple ds)) (hl : ds.length ≤ 10000)
    (hs : ∀ d ∈ ds, ∀ (x : V) (av' : List Addr) (H1 : Hp), (∀ b ∈ av, b ∈ av') → Avs av' H1 → Dq K (wos av' H1) x d → ∀ R : V → Hp → Prop, (∀ y H', Same H1 H' → Dq K (wos av' H') y (F d) → R y H') → g x (wipe σ vs) H1 fun σ2 H2 => wipe σ2 vs = wipe σ vs ∧ tYes σ2 H2 fun b H3 => if b = true then te σ2 H3 R else False) :
    EvL K av H0 σ (tLc (iTup K t) g tYes te vs) (ds.map F) := fun H s Q q => by
  refine h H s _ fun x H1 s1 hx => ?_
  obtain ⟨a, xs, rfl, hT, hxs⟩ := hx.un_tup
  refine ⟨a, rfl, ⟨xs, My.Same.sqt wos_le hT⟩, fun D hD => ?_⟩
  have hlen := hxs.len
  have hp1 := hp.same (s.trans s1)
  have nD := hp1.fresh hD
  refine lc_tup (xs := xs) (fun j H3 => Same H1 H3 ∧ ∃ us, H3 D = some (.lst us) ∧ DqAll K (wos (D :: av) H3) us ((ds.take j).map F)) ?_ (fun j H3 _ hP => My.Same.sqt hP.1 (My.Same.sqt wos_le hT)) ?_ ?_
  · exact ⟨My.Same.new hD, [], upd_same, .nil⟩
  · rintro i x H3 ex ⟨s3, us, eD, hus⟩
    obtain ⟨d, ed, hd⟩ := hxs.get ex
    have hav3 : Avs (D :: av) H3 := fun b hb => by
      rcases List.mem_cons.mp hb with rfl | hb
      · exact ⟨_, eD⟩
      · exact hp1.same s3 b hb
    have hmore : Same (wos av H1) (wos (D :: av) H3) := fun b o e => by
      obtain ⟨n, e⟩ := wos_some e
      have nb : b ≠ D := fun z => by
        rw [z, hD] at e
        cases e
      rw [wos_in (by rw [List.mem_cons, not_or]; exact ⟨nb, n⟩)]
      exact s3 _ _ e
    have hh := hs d (List.mem_of_getElem? ed) x (D :: av) H3 (fun b hb => List.mem_cons_of_mem _ hb) hav3 (Dq.same hmore hd) (fun y H4 => ∃ acc, H4 D = some (.lst acc) ∧ acc.length < sizeLine ∧ (Same H1 (upd H4 D (.lst (acc ++ [y]))) ∧ ∃ us, (upd H4 D (.lst (acc ++ [y]))) D = some (.lst us) ∧ DqAll K (wos (D :: av) (upd H4 D (.lst (acc ++ [y])))) us ((ds.take (i + 1)).map F))) (fun y H4 s4 hy => ?_)
    · exact hh
    · have hul := hus.len
      rw [List.length_map, List.length_take] at hul
      have k3 : Same (wos (D :: av) H4) (wos (D :: av) (upd H4 D (.lst (us ++ [y])))) := fun b o e => by
        obtain ⟨n, e⟩ := wos_some e
        rw [wos_in n, upd_ne (fun z => n (by rw [z]; exact List.mem_cons_self))]
        exact e
      refine ⟨us, s4 _ _ eD, ?_, My.Same.updD (s3.trans s4) hD, us ++ [y], upd_same, ?_⟩
      · have := smallN hl
        rw [sizeLine_eq] at *
        omega
      · rw [List.take_add_one, ed, List.map_append]
        exact DqAll.append (DqAll.same ((My.Same.wos s4).trans k3) hus) (.cons (Dq.same k3 hy) .nil)
  · rintro H3 ⟨s3, us, eD, hus⟩
    rw [hlen, List.take_length] at hus
    refine q D us H3 (s1.trans s3) eD nD (DqAll.same (fun b o e => ?_) hus)
    obtain ⟨n, e⟩ := wos_some e
    rw [List.mem_cons, not_or] at n
    rw [wos_in n.2]
    exact e
end
theorem tAsg_e {te : TE} {g : TG} {D : Ends} {σ : L2.St} {H : Hp} (h : te σ H fun x H1 => g x σ H1 D.nx) : tAsg te g D σ H := h
theorem tOp_e {r : R2} {ta tb : TE} {σ : L2.St} {H : Hp} {Q : VK} (h : ta σ H fun x H1 => tb σ H1 fun y H2 => r x y H2 Q) : tOp r ta tb σ H Q := h
theorem tCons_e {ta : TE} {tr : TA} {σ : L2.St} {H : Hp} {Q : List V → Hp → Prop} (h : ta σ H fun x H1 => tr σ H1 fun xs H2 => Q (x :: xs) H2) : tCons ta tr σ H Q := h
theorem tCB1_e {r : List V → Hp → VK → Prop} {t : TE} {σ : L2.St} {H : Hp} {Q : VK} (h : t σ H fun x H1 => r [x] H1 Q) : tCB r (tCons t tNil) σ H Q := h
theorem tTup_e {ta : TA} {σ : L2.St} {H : Hp} {Q : VK} (h : ta σ H fun xs H1 => xs.length ≤ sizeLine ∧ ∀ p, H1 p = none → Q (.ref p) (upd H1 p (.tup xs))) : tTup ta σ H Q := h
section
variable {K : PySem.W.Frag} {av : List Addr} {H : Hp} {Q : VK} {x y : V} {xs : List V} {ds es : List PyData}
theorem tupV (hp : Avs av H) (hx : DqAll K (wos av H) xs ds) (hl : ds.length ≤ 10000) (q : ∀ z H', Same H H' → Dq K (wos av H') z (.tuple ds) → Q z H') : xs.length ≤ sizeLine ∧ ∀ p, H p = none → Q (.ref p) (upd H p (.tup xs)) := by
  refine ⟨by rw [hx.len]; exact smallN hl, fun b hb => ?_⟩
  have t3 := My.Same.new (o := HO.tup xs) hb
  have n3 := hp.fresh hb
  exact q _ _ t3 (.tup (SqT.of ((wos_in n3).trans upd_same)) (DqAll.same (My.Same.wos t3) hx))
theorem catV (hp : Avs av H) (hx : Dq K (wos av H) x (.tuple ds)) (hy : Dq K (wos av H) y (.tuple es)) (hl : ds.length + es.length ≤ 10000) (q : ∀ z H', Same H H' → Dq K (wos av H') z (.tuple (ds ++ es)) → Q z H') : rCatA K x y H Q :=
  (EvQ.catT (σ := []) hp (EvQ.c hx) (EvQ.c hy) hl) H (fun _ _ e => e) Q q
end
theorem smPairs : ∀ T : List (Int × Int), (∀ t ∈ T, (0 ≤ t.1 ∧ t.1 < 12) ∧ 0 ≤ t.2 ∧ t.2 < 12) → SmAll (3 * T.length) 1 (T.map fun t => tI (prI t))
  | [], _ => (SmAll.nil (D := 1)).mono (Nat.zero_le _) (Nat.le_refl _)
  | t :: T, h => by
    have h1 := h t List.mem_cons_self
    have i1 : Sm 0 0 (.int t.1) := Sm.int (by omega)
    have i2 : Sm 0 0 (.int t.2) := Sm.int (by omega)
    exact (SmAll.cons (SmAll.tuple (SmAll.cons i1 (SmAll.cons i2 SmAll.nil))) (smPairs T fun t ht => h t (List.mem_cons_of_mem _ ht))).mono (by rw [List.length_cons]; omega) (Nat.le_refl _)
/-- a pair turned about -/
def turnD : PyData → PyData
  | .tuple [a, b] => .tuple [b, a]
  | d => d
/-- a tuple as a list -/
def listD : PyData → PyData
  | .tuple ds => .list ds
  | d => d
theorem SmAll.mapF {F : PyData → PyData} {D : Nat} : ∀ {ds : List PyData} {W : Nat}, (∀ d ∈ ds, ∀ w, Sm w D d → Sm w D (F d)) → SmAll W D ds → SmAll W D (ds.map F)
  | [], _, _, h => h
  | d :: ds, W, hF, h => by
    obtain ⟨w, w', hw, h1, h2⟩ := h.uncons
    exact (SmAll.cons (hF d List.mem_cons_self w h1) (SmAll.mapF (fun e he => hF e (List.mem_cons_of_mem _ he)) h2)).mono hw (Nat.le_refl _)
theorem Sm.turn {W D : Nat} {a b : PyData} (h : Sm W (D + 1) (.tuple [a, b])) : Sm W (D + 1) (turnD (.tuple [a, b])) := SmAll.tuple (SmAll.perm (.swap ..) (Sm.items h))
theorem Sm.listD {W D : Nat} {ds : List PyData} (h : Sm W (D + 1) (.tuple ds)) : Sm W (D + 1) (listD (.tuple ds)) := SmAll.list (Sm.items h)
theorem tSeq_e {t u : TS} {D : Ends} {σ : L2.St} {H : Hp} (h : t { D with nx := u D } σ H) : tSeq t u D σ H := h
theorem tTup1 {K : PySem.W.Frag} {av : List Addr} {t : TE} {σ : L2.St} {H : Hp} {Q : VK} (h : t σ H fun x H1 => Avs av H1 ∧ ∃ d, Dq K (wos av H1) x d ∧ ∀ z H', Same H1 H' → Dq K (wos av H') z (.tuple [d]) → Q z H') (hm : ∀ (R R' : VK), (∀ x H1, R x H1 → R' x H1) → t σ H R → t σ H R') : tTup (tCons t tNil) σ H Q :=
  hm _ _ (fun x H1 ⟨hp, d, hx, q⟩ => tupV (ds := [d]) hp (.cons hx .nil) (by simp) q) h
end My

set_option Elab.async false
set_option linter.all false
set_option maxRecDepth 100000
set_option maxHeartbeats 4000000
namespace My
open PySem PySem.Spec PyProof.Rows L2

/-! ### what values are: whole numbers, places, ties, webs, lots -/
def wholeD : PyData → Bool
  | .int _ => true
  | _ => false
def placeD (n : Int) : PyData → Bool
  | .int i => decide (0 ≤ i) && decide (i < n)
  | _ => false
def ltD : PyData → PyData → Bool
  | .int a, .int b => decide (a < b)
  | .tuple [.int a, .int b], .tuple [.int c, .int d] => HT.lexLt [a, b] [c, d]
  | _, _ => false
def upsD (ds : List PyData) : List Bool := (ds.zip (ds.drop 1)).map fun p => ltD p.1 p.2
def tieD (n : Int) : PyData → Bool
  | .tuple [.int a, .int b] => placeD n (.int a) && placeD n (.int b) && decide (a < b)
  | _ => false
def lotD (n : Int) : PyData → Bool
  | .tuple ds => ds.all (placeD n) && (upsD ds).all id
  | _ => false
def isWebD : PyData → Bool
  | .tuple [.int n, .tuple ts] => decide (1 ≤ n) && decide (n ≤ 12) && ts.all (tieD n) && (upsD ts).all id
  | _ => false
theorem wholeD_kd {d : PyData} : wholeD d = ((kd d).is .int && !(kd d).is .bl) := by cases d <;> rfl
theorem wholeD_int {d : PyData} (h : wholeD d = true) : ∃ i, d = .int i := by
  cases d with
  | int i => exact ⟨i, rfl⟩
  | _ => cases h
theorem placeD_whole {n : Int} {d : PyData} (h : wholeD d = false) : placeD n d = false := by
  cases d with
  | int i => cases h
  | _ => rfl
/-- < of whole numbers and of tuples of them -/
def rLtU (K : PySem.W.Frag) : R2 := fun x y H Q => (∃ i j, x = .int i ∧ y = .int j ∧ Q (.bl (decide (i < j))) H) ∨ rLtT K x y H Q
theorem ltU {X : Cx} (K : PySem.W.Frag) (hu : X.A.units < cLine) (h : X.K = K := by rfl) : OpR X (compareOp .Lt) (rLtU K) := by
  intro pins s σ H x y v u Q I rx ry q
  rcases q with q | q
  · exact op_lt pins s σ H x y v u Q I rx ry q
  · exact ltT K hu h pins s σ H x y v u Q I rx ry q
def spWhole (K : PySem.W.Frag) : Sp := fun vs H Q _ => ∃ (v : V) (d : PyData), vs = [v] ∧ Dq K H v d ∧ ∀ H', Same H H' → Q (.bl (wholeD d)) H'
def spPlace (K : PySem.W.Frag) : Sp := fun vs H Q _ => ∃ (n : Int) (v : V) (d : PyData), vs = [.int n, v] ∧ Dq K H v d ∧ ∀ H', Same H H' → Q (.bl (placeD n d)) H'
def IntsD (ds : List PyData) : Prop := ∀ d ∈ ds, ∃ i : Int, d = .int i
def PairsD (ds : List PyData) : Prop := ∀ d ∈ ds, ∃ i j : Int, d = .tuple [.int i, .int j]
def spAsc (K : PySem.W.Frag) : Sp := fun vs H Q _ => ∃ (t : Addr) (xs : List V) (ds : List PyData), vs = [.ref t] ∧ SqT K H t xs ∧ DqAll K H xs ds ∧ ds.length ≤ 10000 ∧ (IntsD ds ∨ PairsD ds) ∧ ∀ H', Same H H' → Q (.bl ((upsD ds).all id)) H'
def spTie (K : PySem.W.Frag) : Sp := fun vs H Q _ => ∃ (n : Int) (v : V) (d : PyData), vs = [.int n, v] ∧ Dq K H v d ∧ ∀ H', Same H H' → Q (.bl (tieD n d)) H'
def spIsLot (K : PySem.W.Frag) : Sp := fun vs H Q _ => ∃ (n : Int) (v : V) (d : PyData) (W D : Nat), vs = [.int n, v] ∧ Dq K H v d ∧ Sm W D d ∧ W ≤ 10000 ∧ ∀ H', Same H H' → Q (.bl (lotD n d)) H'
def spIsWeb (K : PySem.W.Frag) : Sp := fun vs H Q _ => ∃ (v : V) (d : PyData) (W D : Nat), vs = [v] ∧ Dq K H v d ∧ Sm W D d ∧ W ≤ 10000 ∧ ∀ H', Same H H' → Q (.bl (isWebD d)) H'
theorem cut_one {xs : List V} : cutV xs (some 1) none = xs.drop 1 := by
  unfold cutV
  cases xs with
  | nil => simp
  | cons x xs =>
    have e1 : HT.sIx (x :: xs).length 0 (some 1) = 1 := by
      simp [HT.sIx]
      try omega
    have e2 : HT.sIx (x :: xs).length (x :: xs).length none = (x :: xs).length := rfl
    rw [e1, e2]
    refine List.take_of_length_le ?_
    rw [List.length_drop]
    exact Nat.le_refl _
theorem upsD_len {ds : List PyData} : (upsD ds).length = ds.length - 1 := by
  unfold upsD
  rw [List.length_map, List.length_zip, List.length_drop]
  omega
theorem upsD_get {ds : List PyData} {i : Nat} {d e : PyData} (h1 : ds[i]? = some d) (h2 : (ds.drop 1)[i]? = some e) : (upsD ds)[i]? = some (ltD d e) := by
  unfold upsD
  have z : (ds.zip (ds.drop 1))[i]? = some (d, e) := List.getElem?_zip_eq_some.mpr ⟨h1, h2⟩
  rw [List.getElem?_map, z]
  rfl
/-- what each item tells of the next one, one after another -/
def UpsAt (H1 : Hp) (D : Addr) (ds : List PyData) (i : Nat) (H3 : Hp) : Prop := Same H1 H3 ∧ H3 D = some (.lst (((upsD ds).take i).map V.bl))
theorem UpsAt.next {H1 H3 H4 : Hp} {D : Addr} {ds : List PyData} {i : Nat} {d e : PyData} (h : UpsAt H1 D ds i H3) (hD : H1 D = none) (s : Same H3 H4) (h1 : ds[i]? = some d) (h2 : (ds.drop 1)[i]? = some e) (hl : ds.length ≤ 10000) :
    ∃ acc, H4 D = some (.lst acc) ∧ acc.length < sizeLine ∧ UpsAt H1 D ds (i + 1) (upd H4 D (.lst (acc ++ [V.bl (ltD d e)]))) := by
  refine ⟨_, s _ _ h.2, ?_, My.Same.updD (h.1.trans s) hD, ?_⟩
  · rw [List.length_map, List.length_take, upsD_len, sizeLine_eq]
    omega
  · rw [upd_same, List.take_add_one, upsD_get h1 h2, List.map_append]
    rfl
theorem UpsAt.all {H1 H3 : Hp} {D : Addr} {ds : List PyData} {i : Nat} (h : UpsAt H1 D ds i H3) (hi : ds.length - 1 ≤ i) : H3 D = some (.lst ((upsD ds).map V.bl)) := by
  have := h.2
  rw [List.take_of_length_le (by rw [upsD_len]; exact hi)] at this
  exact this
theorem ltU_data {K : PySem.W.Frag} {H : Hp} {x y : V} {d e : PyData} {Q : VK} (hk : (∃ i j : Int, d = .int i ∧ e = .int j) ∨ (∃ a b c f : Int, d = .tuple [.int a, .int b] ∧ e = .tuple [.int c, .int f])) (hx : Dq K H x d) (hy : Dq K H y e) (q : Q (.bl (ltD d e)) H) : rLtU K x y H Q := by
  rcases hk with ⟨i, j, rfl, rfl⟩ | ⟨a, b, c, f, rfl, rfl⟩
  · cases hx
    cases hy
    exact .inl ⟨i, j, rfl, rfl, q⟩
  · obtain ⟨t1, zs, rfl, hT, hz⟩ := hx.un_tup
    obtain ⟨t2, zs2, rfl, hT2, hz2⟩ := hy.un_tup
    cases hz with
    | cons h1 hz =>
    cases hz with
    | cons h2 hz =>
    cases hz
    cases hz2 with
    | cons g1 hz2 =>
    cases hz2 with
    | cons g2 hz2 =>
    cases hz2
    cases h1
    cases h2
    cases g1
    cases g2
    exact .inr ⟨t1, t2, [a, b], [c, f], rfl, rfl, hT, hT2, q⟩
/-- a list of truths grows -/
def BsAt (H1 : Hp) (D : Addr) (bs : List Bool) (i : Nat) (H3 : Hp) : Prop := Same H1 H3 ∧ H3 D = some (.lst ((bs.take i).map V.bl))
theorem BsAt.start {H1 : Hp} {D : Addr} {bs : List Bool} (hD : H1 D = none) : BsAt H1 D bs 0 (upd H1 D (.lst [])) := ⟨My.Same.new hD, upd_same⟩
theorem BsAt.next {H1 H3 H4 : Hp} {D : Addr} {bs : List Bool} {i : Nat} {b : Bool} (h : BsAt H1 D bs i H3) (hD : H1 D = none) (s : Same H3 H4) (hb : bs[i]? = some b) (hl : bs.length ≤ 10000) :
    ∃ acc, H4 D = some (.lst acc) ∧ acc.length < sizeLine ∧ BsAt H1 D bs (i + 1) (upd H4 D (.lst (acc ++ [V.bl b]))) := by
  refine ⟨_, s _ _ h.2, ?_, My.Same.updD (h.1.trans s) hD, ?_⟩
  · rw [List.length_map, List.length_take, sizeLine_eq]
    omega
  · rw [upd_same, List.take_add_one, hb, List.map_append]
    rfl
theorem BsAt.all {H1 H3 : Hp} {D : Addr} {bs : List Bool} {i : Nat} (h : BsAt H1 D bs i H3) (hi : bs.length ≤ i) : H3 D = some (.lst (bs.map V.bl)) := by
  have := h.2
  rw [List.take_of_length_le hi] at this
  exact this
theorem map_get {ds : List PyData} {F : PyData → Bool} {i : Nat} {d : PyData} (h : ds[i]? = some d) : (ds.map F)[i]? = some (F d) := by
  rw [List.getElem?_map, h]
  rfl
theorem all_map {ds : List PyData} {F : PyData → Bool} : (ds.map F).all id = ds.all F := by
  rw [List.all_map]
  rfl
theorem placeD_ints {n : Int} {ds : List PyData} (h : ds.all (placeD n) = true) : IntsD ds := fun d hd => by
  have := List.all_eq_true.mp h d hd
  cases d with
  | int i => exact ⟨i, rfl⟩
  | _ => cases this
theorem tieD_pair {n : Int} {d : PyData} (h : tieD n d = true) : ∃ i j : Int, d = .tuple [.int i, .int j] := by
  unfold tieD at h
  split at h
  · exact ⟨_, _, rfl⟩
  · cases h
theorem tieD_pairs {n : Int} {ds : List PyData} (h : ds.all (tieD n) = true) : PairsD ds := fun d hd => tieD_pair (List.all_eq_true.mp h d hd)
theorem inV_false : ∀ bs : List Bool, inV (.bl false) (bs.map V.bl) = !(bs.all id) ∧ (bs.map V.bl).all flatV = true
  | [] => ⟨rfl, rfl⟩
  | b :: bs => by
    obtain ⟨h1, h2⟩ := inV_false bs
    refine ⟨?_, ?_⟩
    · have e : inV (.bl false) ((b :: bs).map V.bl) = (eqV (.bl b) (.bl false) || inV (.bl false) (bs.map V.bl)) := rfl
      rw [e, h1]
      cases b <;> rfl
    · rw [List.map_cons, List.all_cons, h2]
      rfl
theorem tieD_lot {n : Int} {ds : List PyData} : tieD n (.tuple ds) = (lotD n (.tuple ds) && decide (ds.length = 2)) := by
  match ds with
  | [] => rfl
  | [d0] => cases d0 <;> simp [tieD]
  | [d1, d2] =>
    cases d1 <;> cases d2 <;> simp [tieD, lotD, placeD, upsD, ltD]
  | d0 :: d1 :: d2 :: ds => cases d0 <;> cases d1 <;> simp [tieD]
theorem tieD_no {n : Int} {d : PyData} (h : lotD n d = false) : tieD n d = false := by
  cases d with
  | tuple ds => rw [tieD_lot, h]; rfl
  | _ => rfl
theorem ltI_data {K : PySem.W.Frag} {H : Hp} {x y : V} {d e : PyData} {Q : VK} (hk : ∃ i j : Int, d = .int i ∧ e = .int j) (hx : Dq K H x d) (hy : Dq K H y e) (q : Q (.bl (ltD d e)) H) : rI0 (fun i j => V.bl (decide (i < j))) x y H Q := by
  obtain ⟨i, j, rfl, rfl⟩ := hk
  cases hx
  cases hy
  exact ⟨i, j, rfl, rfl, q⟩
theorem ltT_data {K : PySem.W.Frag} {H : Hp} {x y : V} {d e : PyData} {Q : VK} (hk : ∃ a b c f : Int, d = .tuple [.int a, .int b] ∧ e = .tuple [.int c, .int f]) (hx : Dq K H x d) (hy : Dq K H y e) (q : Q (.bl (ltD d e)) H) : rLtT K x y H Q := by
  rcases ltU_data (.inr hk) hx hy q with ⟨i, j, rfl, rfl, _⟩ | h
  · obtain ⟨a, b, c, f, rfl, rfl⟩ := hk
    cases hx
  · exact h
theorem Sm.len {W D : Nat} {ds : List PyData} (sm : Sm W D (.tuple ds)) (hW : W ≤ 10000) : ds.length ≤ 10000 := by
  obtain ⟨_, _, h3, _⟩ := sm
  have : PyData.bulkAll ds ≤ W := by simpa only [PyData.bulk] using h3
  have l2 : ∀ ds : List PyData, ds.length ≤ PyData.bulkAll ds := fun ds => by
    induction ds with
    | nil => exact Nat.zero_le _
    | cons d ds ih =>
      simp only [PyData.bulkAll, List.length_cons]
      omega
  have := l2 ds
  omega
theorem Sm.item {W D : Nat} {ds : List PyData} {d : PyData} (sm : Sm W D (.tuple ds)) (h : d ∈ ds) : Sm W D d := by
  cases D with
  | zero =>
    have := sm.2.2.2
    simp only [PyData.depth] at this
    omega
  | succ D => exact ((Sm.items sm).mem h).mono (Nat.le_refl _) (Nat.le_succ _)
end My

set_option Elab.async false
set_option linter.all false
set_option maxRecDepth 100000
set_option maxHeartbeats 4000000
namespace My
open PySem PySem.Spec PyProof.Rows L2 SrtO

/-! ### sorted(t), t a tuple of whole numbers -/
section
variable {prog : Program} {w : World} {A : Around} {E : Value → Shared → Prop} {s : Shared}
theorem sorted_otup {l : Addr} {vs : List Value} {ltv : Value → Value → Bool} {Q : Value → Shared → Prop} (O : Swo ltv) (hl : s.heap.IsTuple l vs.toArray) (hz : vs.length ≤ sizeLine)
    (hS : 2 ≤ vs.length → ∀ (h₁ : Heap) (a : Addr), h₁.get? a = some (seqObj "list" vs.toArray 0) → (∀ b o, s.heap.get? b = some o → b ≠ a ∧ h₁.get? b = some o) → SortableO prog w A.in1.in1 { s with heap := h₁ } a vs ltv)
    (h : ∀ out : List Value, Srtd ltv out → Stb ltv out vs → Q (.ref (s.heap.objs.size + 1)) { s with heap := sortedAll s.heap vs out.toArray }) :
    wpAny (model prog w) A (call (.builtin "sorted") [.ref l]) Q E s := by
  refine Calls.call_function_entry kind_sorted plain_sorted entry_sorted (args_sorted1 _) ?_
  unfold Builtin.«sorted»
  refine wpAny_bind (m := checkCount "sorted" 1 1 _) (wpAny_pure ?_)
  refine wpAny_bind (gather_tup hl hz ?_)
  refine wpAny_bind (wpAny_newList ?_ hz)
  have hsz : ((s.heap.push (seqObj "list" #[] 0)).update s.heap.objs.size (Obj.mapSeq (· ++ vs.toArray))).objs.size = s.heap.objs.size + 1 := by
    rw [Heap.size_update, size_push']
  have hoL : (((s.heap.push (seqObj "list" #[] 0)).update s.heap.objs.size (Obj.mapSeq (· ++ vs.toArray))).push (seqObj "list" vs.toArray 0)).get? (s.heap.objs.size + 1) = some (seqObj "list" vs.toArray 0) := by
    rw [← hsz]; exact Heap.get?_push_size _ rfl
  have keep : ∀ b o, s.heap.get? b = some o → b ≠ s.heap.objs.size + 1 ∧ (((s.heap.push (seqObj "list" #[] 0)).update s.heap.objs.size (Obj.mapSeq (· ++ vs.toArray))).push (seqObj "list" vs.toArray 0)).get? b = some o := fun b o q => by
    have hlt : b < s.heap.objs.size := Heap.lt_size q
    refine ⟨Nat.ne_of_lt (Nat.lt_succ_of_lt hlt), Heap.get?_push_of_some _ ?_⟩
    rw [Heap.get?_update_ne _ _ _ _ (Nat.ne_of_lt hlt)]
    exact Heap.get?_push_of_some _ q
  show wpAny _ _ _ _ _ { s with heap := ((s.heap.push (seqObj "list" #[] 0)).update s.heap.objs.size (Obj.mapSeq (· ++ vs.toArray))).push (seqObj "list" vs.toArray 0) }
  rw [hsz]
  refine wpAny_bind (wpAny_holding (wpAny_call_entry slot_list_sort ⟨_, hoL, rfl⟩ entry_list_sort (list_sort_ord O hoL hz (fun h2 => hS h2 _ _ hoL keep) fun out hp hq => ⟨_, rfl, ?_⟩) (args_list_sort _)))
  exact wpAny_pure ⟨_, rfl, h out hp hq⟩
end
def rSortTI (K : PySem.W.Frag) : List V → Hp → VK → Prop := fun vs H Q => ∃ (a : Addr) (ns : List Int), vs = [V.ref a] ∧ SqT K H a (ns.map V.int) ∧ ∀ (ns' : List Int) (p : Addr), ns'.Perm ns → ns'.Pairwise (· ≤ ·) → H p = none → Q (.ref p) (upd H p (.lst (ns'.map V.int)))
theorem cr_sortTI {X : Cx} : CallR X (.builtin "sorted") (rSortTI X.K) := by
  intro pins s σ H vs us Q I r h
  obtain ⟨a, ns, rfl, hs, q⟩ := h
  obtain ⟨its, rv, hl, hz⟩ := I.tuple hs
  rw [Vals.ref1 r]
  have hi := rv.ints
  refine sorted_otup SrtO.swo_int hl (by rw [← rv.length]; exact hz) (fun h2 h₁ a' _ _ => SrtO.ints_sortable hi h2) fun out h1 h2 => ?_
  obtain ⟨k1, k2, k3⟩ := SrtO.ints_out hi h1 h2
  obtain ⟨ep, he'⟩ := PyProof.Rows.sortedAll_at s.heap its out.toArray
  have hlen : ((out.map SrtO.iv).map V.int).length ≤ sizeLine := by
    rw [List.length_map, k2.length_eq]
    rw [List.length_map] at hz
    exact hz
  exact ⟨.ref _, upd H (s.heap.objs.size + 1) (.lst ((out.map SrtO.iv).map V.int)), I.laid (t' := s.toks) (fun _ _ => PyProof.Rows.sortedAll_old) (Nat.le_succ _) ⟨hlen, out, ep, vals_of_ints k1, he'⟩, rfl, q _ _ k2 k3 (I.hok.fresh (Nat.le_succ _))⟩
theorem sortTI {X : Cx} (K : PySem.W.Frag) (h : X.K = K := by rfl) : CallR X (.builtin "sorted") (rSortTI K) := by subst h; exact cr_sortTI

/-! ### a list of small data -/
/-- at a an own list of at most m data, all small -/
def SmL (K : PySem.W.Frag) (av : List Addr) (H : Hp) (a : Addr) (W D m : Nat) : Prop := a ∉ av ∧ ∃ (xs : List V) (ds : List PyData), H a = some (.lst xs) ∧ DqAll K (wos av H) xs ds ∧ (∀ d ∈ ds, Sm W D d) ∧ ds.length ≤ m
theorem SmL.same {K : PySem.W.Frag} {av : List Addr} {H H' : Hp} {a p : Addr} {W D m : Nat} (hp : p ∈ av) (h : SmL K av H a W D m) (s : Same (wo p H) (wo p H')) : SmL K av H' a W D m := by
  obtain ⟨n, xs, ds, e, hx, hs, hl⟩ := h
  have hap : a ≠ p := fun z => n (by rw [z]; exact hp)
  exact ⟨n, xs, ds, (wo_some (s _ _ ((wo_ne hap).trans e))).2, DqAll.same (My.Same.wos_of hp s) hx, hs, hl⟩
theorem SmL.get {K : PySem.W.Frag} {av : List Addr} {H : Hp} {a : Addr} {W D m : Nat} (h : SmL K av H a W D m) : ∃ xs : List V, H a = some (.lst xs) ∧ xs.length ≤ m ∧ ∀ (i : Nat) (x : V), xs[i]? = some x → ∃ d, Dq K (wos av H) x d ∧ Sm W D d := by
  obtain ⟨n, xs, ds, e, hx, hs, hl⟩ := h
  refine ⟨xs, e, by rw [hx.len]; exact hl, fun i x ex => ?_⟩
  obtain ⟨d, hd, hq⟩ := hx.mem ex
  exact ⟨d, hq, hs d hd⟩
theorem SmL.cat {K : PySem.W.Frag} {av : List Addr} {H : Hp} {a b : Addr} {W D m k : Nat} {Q : VK} (hav : Avs av H) (h1 : SmL K av H a W D m) (h2 : SmL K av H b W D k) (hl : m + k ≤ 10000) (q : ∀ z H', Same H H' → SmL K av H' z W D (m + k) → Q (.ref z) H') : rCat (.ref a) (.ref b) H Q := by
  obtain ⟨n1, xs, ds, e1, hx, hs, l1⟩ := h1
  obtain ⟨n2, ys, es, e2, hy, ht, l2⟩ := h2
  refine ⟨a, b, xs, ys, rfl, rfl, e1, e2, by rw [hx.len, hy.len]; exact smallN (by omega), fun z hz => ?_⟩
  have s := My.Same.new (o := HO.lst (xs ++ ys)) hz
  refine q z _ s ⟨hav.fresh hz, xs ++ ys, ds ++ es, upd_same, DqAll.append (DqAll.same (My.Same.wos s) hx) (DqAll.same (My.Same.wos s) hy), fun d hd => ?_, by rw [List.length_append]; omega⟩
  rcases List.mem_append.mp hd with hd | hd
  · exact hs d hd
  · exact ht d hd
/-- [.. for _ in range(n)], each item told by a call that takes from the pen -/
theorem lc_pen {K : PySem.W.Frag} {p c : Addr} {av : List Addr} {te : TE} {σ : L2.St} {H : Hp} {Q : VK} {i n0 n st W D : Nat} (hpav : p ∈ av) (hav : Avs av H) (pen : Pen H p c n0) (hn : n ≤ 100)
    (hs : ∀ (k : Nat) (_ : k < n) (av' : List Addr) (H1 : Hp) (n1 : Nat), (∀ b ∈ av, b ∈ av') → Avs av' H1 → Same (wos av H) (wos av' H1) → Pen H1 p c n1 → n1 ≤ n0 + n * st → ∀ R : VK, (∀ x d H', Dq K (wos av' H') x d → Sm W D d → Pen H' p c (n1 + st) → Same (wo p H1) (wo p H') → R x H') → te ((wipe σ [i]).set i (some (.int k))) H1 R)
    (hw : ∀ k : Nat, wipe ((wipe σ [i]).set i (some (.int k))) [i] = wipe σ [i])
    (q : ∀ a H', SmL K av H' a W D n → Pen H' p c (n0 + n * st) → Same (wo p H) (wo p H') → Q (.ref a) H') : tLc (iRng1 (tCons (tC (V.int n)) tNil)) (gName i) tYes te [i] σ H Q := by
  refine ⟨n, rfl, by omega, by omega, fun D0 hD => ?_⟩
  rw [Int.toNat_natCast]
  have nD := hav.fresh hD
  have npc := Pen.ne pen hD
  have hDw : wo p H D0 = none := wo_none hD
  refine lc_range (fun k H3 => Pen H3 p c (n0 + k * st) ∧ Same (wo p H) (wo p H3) ∧ ∃ (us : List V) (ds : List PyData), H3 D0 = some (.lst us) ∧ DqAll K (wos (D0 :: av) H3) us ds ∧ (∀ d ∈ ds, Sm W D d) ∧ ds.length = k) ?_ ?_ ?_
  · refine ⟨(Pen.upd pen npc).mono (by omega), My.Same.wo (My.Same.new hD), [], [], upd_same, .nil, (fun d hd => nomatch hd), rfl⟩
  · rintro k H3 hk ⟨pen3, s3, us, ds, eD, hus, hds, hl⟩
    have hav3 : Avs (D0 :: av) H3 := fun b hb => by
      rcases List.mem_cons.mp hb with rfl | hb
      · exact ⟨_, eD⟩
      · exact hav.of s3 (Pen.at pen3) b hb
    have hmul : (k + 1) * st = k * st + st := Nat.succ_mul k st
    have hmul2 : k * st ≤ n * st := Nat.mul_le_mul_right st (by omega)
    rw [Int.zero_add]
    refine ⟨hw k, ?_⟩
    show te ((wipe σ [i]).set i (some (.int k))) H3 _
    refine hs k (by omega) (D0 :: av) H3 (n0 + k * st) (fun b hb => List.mem_cons_of_mem _ hb) hav3 (wos_more hpav hDw s3) pen3 (by omega) _ (fun y d H4 hy hd pen4 s4 => ?_)
    have k3 : Same (wos (D0 :: av) H4) (wos (D0 :: av) (upd H4 D0 (.lst (us ++ [y])))) := fun b o e => by
      obtain ⟨n, e⟩ := wos_some e
      rw [wos_in n, upd_ne (fun z => n (by rw [z]; exact List.mem_cons_self))]
      exact e
    refine ⟨us, (wo_some (s4 _ _ ((wo_ne npc.1).trans eD))).2, ?_, (Pen.upd pen4 npc).mono (by omega), wo_updD (s3.trans s4) hDw, us ++ [y], ds ++ [d], upd_same, ?_, fun e he => ?_, by rw [List.length_append, hl]; rfl⟩
    · rw [hus.len, sizeLine_eq]
      omega
    · exact DqAll.append (DqAll.same ((My.Same.wos_of (List.mem_cons_of_mem _ hpav) s4).trans k3) hus) (.cons (Dq.same k3 hy) .nil)
    · rcases List.mem_append.mp he with he | he
      · exact hds e he
      · rw [List.mem_singleton.mp he]
        exact hd
  · rintro H3 ⟨pen3, s3, us, ds, eD, hus, hds, hl⟩
    refine q D0 H3 ⟨nD, us, ds, eD, DqAll.same (fun b o e => ?_) hus, hds, by omega⟩ pen3 s3
    obtain ⟨n, e⟩ := wos_some e
    rw [List.mem_cons, not_or] at n
    rw [wos_in n.2]
    exact e
/-- [.. for _ in range(lo, hi)], each item told by a call that takes from the pen -/
theorem lc_pen2 {K : PySem.W.Frag} {p c : Addr} {av : List Addr} {te : TE} {σ : L2.St} {H : Hp} {Q : VK} {i n0 n st W D : Nat} {lo hi : Int} {ta : TA} (hta : ∀ (H : Hp) (Q : List V → Hp → Prop), Q [.int lo, .int hi] H → ta σ H Q) (hb : 0 ≤ lo ∧ lo ≤ hi ∧ hi ≤ 100) (hn0 : (hi - lo).toNat = n) (hpav : p ∈ av) (hav : Avs av H) (pen : Pen H p c n0) (hn : n ≤ 100)
    (hs : ∀ (k : Nat) (_ : k < n) (av' : List Addr) (H1 : Hp) (n1 : Nat), (∀ b ∈ av, b ∈ av') → Avs av' H1 → Same (wos av H) (wos av' H1) → Pen H1 p c n1 → n1 ≤ n0 + n * st → ∀ R : VK, (∀ x d H', Dq K (wos av' H') x d → Sm W D d → Pen H' p c (n1 + st) → Same (wo p H1) (wo p H') → R x H') → te ((wipe σ [i]).set i (some (.int (lo + k)))) H1 R)
    (hw : ∀ k : Nat, wipe ((wipe σ [i]).set i (some (.int (lo + k)))) [i] = wipe σ [i])
    (q : ∀ a H', SmL K av H' a W D n → Pen H' p c (n0 + n * st) → Same (wo p H) (wo p H') → Q (.ref a) H') : tLc (iRng2 ta) (gName i) tYes te [i] σ H Q := by
  refine hta H _ ⟨lo, hi, rfl, ⟨by omega, by omega, by omega, by omega⟩, fun D0 hD => ?_⟩
  rw [hn0]
  have nD := hav.fresh hD
  have npc := Pen.ne pen hD
  have hDw : wo p H D0 = none := wo_none hD
  refine lc_range (fun k H3 => Pen H3 p c (n0 + k * st) ∧ Same (wo p H) (wo p H3) ∧ ∃ (us : List V) (ds : List PyData), H3 D0 = some (.lst us) ∧ DqAll K (wos (D0 :: av) H3) us ds ∧ (∀ d ∈ ds, Sm W D d) ∧ ds.length = k) ?_ ?_ ?_
  · refine ⟨(Pen.upd pen npc).mono (by omega), My.Same.wo (My.Same.new hD), [], [], upd_same, .nil, (fun d hd => nomatch hd), rfl⟩
  · rintro k H3 hk ⟨pen3, s3, us, ds, eD, hus, hds, hl⟩
    have hav3 : Avs (D0 :: av) H3 := fun b hb => by
      rcases List.mem_cons.mp hb with rfl | hb
      · exact ⟨_, eD⟩
      · exact hav.of s3 (Pen.at pen3) b hb
    have hmul : (k + 1) * st = k * st + st := Nat.succ_mul k st
    have hmul2 : k * st ≤ n * st := Nat.mul_le_mul_right st (by omega)
    refine ⟨hw k, ?_⟩
    show te ((wipe σ [i]).set i (some (.int (lo + k)))) H3 _
    refine hs k (by omega) (D0 :: av) H3 (n0 + k * st) (fun b hb => List.mem_cons_of_mem _ hb) hav3 (wos_more hpav hDw s3) pen3 (by omega) _ (fun y d H4 hy hd pen4 s4 => ?_)
    have k3 : Same (wos (D0 :: av) H4) (wos (D0 :: av) (upd H4 D0 (.lst (us ++ [y])))) := fun b o e => by
      obtain ⟨n, e⟩ := wos_some e
      rw [wos_in n, upd_ne (fun z => n (by rw [z]; exact List.mem_cons_self))]
      exact e
    refine ⟨us, (wo_some (s4 _ _ ((wo_ne npc.1).trans eD))).2, ?_, (Pen.upd pen4 npc).mono (by omega), wo_updD (s3.trans s4) hDw, us ++ [y], ds ++ [d], upd_same, ?_, fun e he => ?_, by rw [List.length_append, hl]; rfl⟩
    · rw [hus.len, sizeLine_eq]
      omega
    · exact DqAll.append (DqAll.same ((My.Same.wos_of (List.mem_cons_of_mem _ hpav) s4).trans k3) hus) (.cons (Dq.same k3 hy) .nil)
    · rcases List.mem_append.mp he with he | he
      · exact hds e he
      · rw [List.mem_singleton.mp he]
        exact hd
  · rintro H3 ⟨pen3, s3, us, ds, eD, hus, hds, hl⟩
    refine q D0 H3 ⟨nD, us, ds, eD, DqAll.same (fun b o e => ?_) hus, hds, by omega⟩ pen3 s3
    obtain ⟨n, e⟩ := wos_some e
    rw [List.mem_cons, not_or] at n
    rw [wos_in n.2]
    exact e
end My

set_option Elab.async false
set_option linter.all false
set_option maxRecDepth 100000
set_option maxHeartbeats 4000000
namespace My
open PySem PySem.Spec PyProof.Rows L2

/-! ### displays in which calls take from the pen -/
def EvAP (K : PySem.W.Frag) (p c : Addr) (av : List Addr) (n0 : Nat) (H0 : Hp) (σ : L2.St) (ta : TA) (W D m st : Nat) : Prop :=
  ∀ H n, Pen H p c n → n ≤ n0 → Avs av H → Same (wo p H0) (wo p H) → ∀ Q : List V → Hp → Prop, (∀ xs ds H', DqAll K (wos av H') xs ds → (∀ d ∈ ds, Sm W D d) → ds.length = m → Pen H' p c (n + st) → Same (wo p H) (wo p H') → Q xs H') → ta σ H Q
section
variable {K : PySem.W.Frag} {p c : Addr} {av : List Addr} {n0 : Nat} {H0 : Hp} {σ : L2.St} {ta : TA} {t : TE} {W D m st : Nat}
theorem EvAP.nil : EvAP K p c av n0 H0 σ tNil W D 0 0 := fun H n pen hn hav s Q q => q [] [] H .nil (fun d hd => nomatch hd) rfl pen (fun _ _ e => e)
theorem EvAP.pure {d : PyData} (hpav : p ∈ av) (h : ∀ H, Same (wo p H0) (wo p H) → Avs av H → EvQ K av H σ t d) (hd : Sm W D d) (r : EvAP K p c av n0 H0 σ ta W D m st) : EvAP K p c av n0 H0 σ (tCons t ta) W D (m + 1) st := fun H n pen hn hav s Q q => by
  refine h H s hav H (fun _ _ e => e) _ fun x H1 s1 hx => ?_
  refine r H1 n (Pen.same s1 pen) hn (hav.same s1) (s.trans (My.Same.wo s1)) _ fun xs ds H2 hxs hds hl pen2 s2 => ?_
  refine q (x :: xs) (d :: ds) H2 (.cons (Dq.same (My.Same.wos_of hpav s2) hx) hxs) (fun e he => ?_) (by rw [List.length_cons, hl]) pen2 ((My.Same.wo s1).trans s2)
  rcases List.mem_cons.mp he with rfl | he
  · exact hd
  · exact hds e he
theorem EvAP.call {st1 : Nat} (h : ∀ H n, Pen H p c n → n ≤ n0 → Avs av H → Same (wo p H0) (wo p H) → ∀ R : VK, (∀ x d H', Dq K (wos av H') x d → Sm W D d → Pen H' p c (n + st1) → Same (wo p H) (wo p H') → R x H') → t σ H R) : EvAP K p c av n0 H0 σ (tCons t tNil) W D 1 st1 := fun H n pen hn hav s Q q =>
  h H n pen hn hav s _ fun x d H' hx hd pen' s' => q [x] [d] H' (.cons hx .nil) (fun e he => by rw [List.mem_singleton.mp he]; exact hd) rfl pen' s'
theorem EvAP.lst {n : Nat} (hpav : p ∈ av) (h : EvAP K p c av n0 H0 σ ta W D m st) (pen : Pen H0 p c n) (hn : n ≤ n0) (hav : Avs av H0) (hm : m ≤ 1000) {Q : VK} (q : ∀ a H', SmL K av H' a W D m → Pen H' p c (n + st) → Same (wo p H0) (wo p H') → Q (.ref a) H') : tLst ta σ H0 Q := by
  refine h H0 n pen hn hav (fun _ _ e => e) _ fun xs ds H1 hxs hds hl pen1 s1 => ?_
  refine ⟨by rw [hxs.len]; exact smallN (by omega), fun a ha => ?_⟩
  have s := My.Same.new (o := HO.lst xs) ha
  have n1 := (hav.of s1 (Pen.at pen1)).fresh ha
  exact q a _ ⟨n1, xs, ds, upd_same, DqAll.same (My.Same.wos s) hxs, hds, by omega⟩ (Pen.same s pen1) (s1.trans (My.Same.wo s))
end
theorem ups_len_le : ∀ (L : List Int) (lo hi : Int), L.Pairwise (· < ·) → (∀ x ∈ L, lo ≤ x ∧ x < hi) → lo ≤ hi → (L.length : Int) ≤ hi - lo
  | [], lo, hi, _, _, h => by simp; omega
  | x :: L, lo, hi, h, hb, hl => by
    rw [List.pairwise_cons] at h
    have hx := hb x List.mem_cons_self
    have := ups_len_le L (x + 1) hi h.2 (fun y hy => ⟨by have := h.1 y hy; omega, (hb y (List.mem_cons_of_mem _ hy)).2⟩) (by omega)
    rw [List.length_cons]
    omega
theorem WebOk.len {k : Nat} {T : List (Int × Int)} (h : WebOk k T) (hk : k ≤ 12) : T.length ≤ 144 := by
  have h1 : (T.map fun t => 12 * t.1 + t.2).Pairwise (· < ·) := by
    rw [List.pairwise_map]
    refine List.Pairwise.imp_of_mem (fun {s t} hs ht hlt => ?_) h.1
    have b1 := h.2 s hs
    have b2 := h.2 t ht
    rcases hlt with hlt | ⟨e, hlt⟩ <;> omega
  have := ups_len_le _ 0 144 h1 (fun x hx => by
    obtain ⟨t, ht, rfl⟩ := List.mem_map.mp hx
    have b := h.2 t ht
    omega) (by omega)
  rw [List.length_map] at this
  omega
theorem WebOk.bd {k : Nat} {T : List (Int × Int)} (h : WebOk k T) (hk : k ≤ 12) : ∀ t ∈ T, (0 ≤ t.1 ∧ t.1 < 12) ∧ 0 ≤ t.2 ∧ t.2 < 12 := fun t ht => by
  have b := h.2 t ht
  omega
theorem WebOk.sm {k : Nat} {T : List (Int × Int)} (h : WebOk k T) (hk : k ≤ 12) : Sm 434 3 (webD k T) := by
  have h1 := (smPairs T (h.bd hk)).mono (W' := 432) (by have := h.len hk; omega) (Nat.le_refl 1)
  have i0 : Sm 0 0 (.int (k : Int)) := Sm.int (by omega)
  exact SmAll.tuple (SmAll.cons (i0.mono (Nat.le_refl _) (Nat.zero_le _)) (SmAll.cons (SmAll.tuple h1) SmAll.nil))
theorem WebOk.ti {k : Nat} {T : List (Int × Int)} (h : WebOk k T) (hk : k ≤ 12) : Ti 3 (webD k T) := by
  refine .inr ⟨_, rfl, fun x hx => ?_⟩
  simp only [List.mem_cons, List.not_mem_nil, or_false] at hx
  rcases hx with rfl | rfl
  · exact .inl ⟨_, rfl, by omega⟩
  · refine .inr ⟨_, rfl, fun y hy => ?_⟩
    obtain ⟨t, ht, rfl⟩ := List.mem_map.mp hy
    have b := h.bd hk t ht
    refine .inr ⟨_, rfl, fun z hz => ?_⟩
    have hz : z = .int t.1 ∨ z = .int t.2 := by simpa [prI] using hz
    rcases hz with rfl | rfl
    · exact ⟨_, rfl, by omega⟩
    · exact ⟨_, rfl, by omega⟩
theorem SmAll.of {W D : Nat} : ∀ {ds : List PyData} {m : Nat}, (∀ d ∈ ds, Sm W D d) → ds.length ≤ m → SmAll (m * (W + 1)) D ds
  | [], m, _, _ => SmAll.nil.mono (Nat.zero_le _) (Nat.le_refl _)
  | d :: ds, 0, _, h => by
    rw [List.length_cons] at h
    omega
  | d :: ds, m + 1, hs, h => by
    have := SmAll.of (m := m) (fun e he => hs e (List.mem_cons_of_mem _ he)) (by rw [List.length_cons] at h; omega)
    exact (SmAll.cons (hs d List.mem_cons_self) this).mono (by rw [Nat.succ_mul]; omega) (Nat.le_refl _)
theorem wo_wos {p : Addr} {H : Hp} : Same (wo p H) (wos [p] H) := fun b o h => by
  obtain ⟨n, e⟩ := wo_some h
  exact (wos_in (fun z => n (List.mem_singleton.mp z))).trans e
theorem SmL.mono {K : PySem.W.Frag} {av : List Addr} {H : Hp} {a : Addr} {W W' D D' m : Nat} (h : SmL K av H a W D m) (hw : W ≤ W') (hd : D ≤ D') : SmL K av H a W' D' m := by
  obtain ⟨n, xs, ds, e, hx, hs, hl⟩ := h
  exact ⟨n, xs, ds, e, hx, fun d hd' => (hs d hd').mono hw hd, hl⟩
/-- is it 1 -/
def oneD : PyData → PyData
  | .int i => .bool (decide (V.int i = V.int 1))
  | d => d
theorem DqAll.ints {K : PySem.W.Frag} {H : Hp} : ∀ ns : List Int, DqAll K H (ns.map V.int) (ns.map PyData.int)
  | [] => .nil
  | n :: ns => .cons (.int n) (DqAll.ints ns)
theorem smInts : ∀ ns : List Int, (∀ x ∈ ns, x.natAbs ≤ 1000000) → SmAll ns.length 0 (ns.map PyData.int)
  | [], _ => SmAll.nil
  | n :: ns, h => by
    have h1 := h n List.mem_cons_self
    exact (SmAll.cons (Sm.int (i := n) (by omega)) (smInts ns fun x hx => h x (List.mem_cons_of_mem _ hx))).mono (by rw [List.length_cons]; omega) (Nat.le_refl _)
end My

set_option Elab.async false
set_option linter.all false
set_option maxRecDepth 100000
set_option maxHeartbeats 4000000
namespace My
open PySem PySem.Spec PyProof.Rows L2 PySem.SeqAt

/-! ### how many unlike whole numbers -/
theorem len_sub : ∀ {L ns : List Int}, L.Nodup → (∀ k ∈ L, k ∈ ns) → L.length ≤ ns.length
  | [], _, _, _ => Nat.zero_le _
  | x :: L, ns, nd, hs => by
    rw [List.nodup_cons] at nd
    have hx := hs x List.mem_cons_self
    have := len_sub (L := L) (ns := ns.erase x) nd.2 (fun k hk => (List.mem_erase_of_ne (fun z => nd.1 (by rw [← z]; exact hk))).mpr (hs k (List.mem_cons_of_mem _ hk)))
    rw [List.length_erase_of_mem hx] at this
    have h0 := List.length_pos_of_mem hx
    rw [List.length_cons]
    omega
theorem nodup_sub : ∀ {L ns : List Int}, L.Nodup → (∀ k ∈ L, k ∈ ns) → ns.length ≤ L.length → ns.Nodup
  | [], ns, _, _, h => by
    have : ns = [] := List.length_eq_zero_iff.mp (Nat.le_zero.mp h)
    rw [this]
    exact .nil
  | x :: L, ns, nd, hs, h => by
    have nd' := nd
    rw [List.nodup_cons] at nd'
    have hx := hs x List.mem_cons_self
    have h0 := List.length_pos_of_mem hx
    have hl := List.length_erase_of_mem hx
    rw [List.length_cons] at h
    have hsub : ∀ k ∈ L, k ∈ ns.erase x := fun k hk => (List.mem_erase_of_ne (fun z => nd'.1 (by rw [← z]; exact hk))).mpr (hs k (List.mem_cons_of_mem _ hk))
    have n1 := nodup_sub nd'.2 hsub (by omega)
    refine (List.perm_cons_erase hx).symm.nodup (List.nodup_cons.mpr ⟨fun z => ?_, n1⟩)
    have := len_sub nd (ns := ns.erase x) (fun k hk => by
      rcases List.mem_cons.mp hk with rfl | hk
      · exact z
      · exact hsub k hk)
    rw [List.length_cons] at this
    omega
def tLenSetT (K : PySem.W.Frag) (ta : TA) : TE := fun σ H Q => ta σ H fun vs H1 => ∃ (p : Addr) (ns : List Int), vs = [.ref p] ∧ SqT K H1 p (ns.map V.int) ∧ ns.length ≤ 4000 ∧ ∀ c : Nat, (c = ns.length ↔ ns.Nodup) → Q (.int c) H1
theorem pe_lenSetT {X : Cx} (K : PySem.W.Frag) {e : Expr} {ta : TA} {p p2 q pos : Pos} (hg : Gl X "len") (hm : X.mg "len" = none) (hg2 : Gl X "set") (hm2 : X.mg "set" = none) (ha : PA X [e] ta) (hK : X.K = K := by rfl) (hc : X.calm = true := by rfl)
    (na : starEach [e] X.env = [(false, eval e X.env)] := by rfl) : PE X (.Call (.Name "len" p) [.Call (.Name "set" p2) [e] [] q] [] pos) (tLenSetT K ta) := by
  subst hK
  refine ⟨fun pins s σ H Q I h => ?_⟩
  refine Call_ (ld_blt I hg hm boot_len ?_)
  refine PyProof.Rows.callWith_builtin1 (PyProof.Rows.args_cons ?_ rfl) rfl rfl
  refine Call_ (ld_blt I hg2 hm2 PyProof.Rows.boot_set (PyProof.Rows.callWith_type1 (thn (ha.run q pins s σ H _ I h) fun us s1 ⟨vs, H1, I1, r1, q1⟩ => ?_) na rfl))
  obtain ⟨p0, ns, e1, hq, hl, q⟩ := q1
  subst e1
  cases r1 with
  | cons r rr =>
    cases rr
    cases r
    obtain ⟨its, rv, pt, hz⟩ := I1.tuple hq
    have hi : IntsAre its.toArray.toList ns := ints_of_vals rv
    have hd := I1.ok.hd hc
    refine call_set_tupI ns hd (show s1.heap.IsTuple p0 its.toArray from pt) hi (by unfold scanBound; omega) fun h' tk c R1 hcn k => ?_
    obtain ⟨o, es, ep, t, ho, hex, hdt, g, nd, hm2, hb, hf, hn, hr, hl2⟩ := R1
    refine PyProof.Rows.args_nil ?_
    have I2 : Inv X pins σ H1 { s1 with heap := h', toks := tk } := I1.kept fun b o e => k b o e
    refine call_len_set ho hex hdt hf (by unfold scanBound at hb; omega) ⟨.int c, H1, I2.tok _, ⟨_, by rw [hn]⟩, q c ?_⟩
    have hmem : ∀ k, k ∈ es.toList.map keyOf ↔ k ∈ ns := fun k => by rw [← hm2 k, decide_eq_true_eq]
    have hlen : (es.toList.map keyOf).length = c := by rw [List.length_map, Array.length_toList, hn]
    constructor
    · intro z
      exact nodup_sub nd (fun k hk => (hmem k).mp hk) (by omega)
    · intro z
      have h1 := len_sub nd (ns := ns) (fun k hk => (hmem k).mp hk)
      have h2 := len_sub z (ns := es.toList.map keyOf) (fun k hk => (hmem k).mpr hk)
      omega

/-! ### a tuple, compared with the empty one -/
def rEqT0 (K : PySem.W.Frag) : R2 := fun x y H Q => ∃ (a b : Addr) (xs : List V), x = .ref a ∧ y = .ref b ∧ SqT K H a xs ∧ SqT K H b [] ∧ Q (.bl (decide (xs.length = 0))) H
theorem op_eqT0 {X : Cx} (hu : X.A.units + 64 < cLine) : OpR X (compareOp .Eq) (rEqT0 X.K) := by
  intro pins s σ H x y v u Q I rx ry h
  obtain ⟨a, b, xs, rfl, rfl, hx, hy, q⟩ := h
  cases rx
  cases ry
  obtain ⟨its, rv, hl, _⟩ := I.tuple hx
  obtain ⟨its2, rv2, hl2, _⟩ := I.tuple hy
  cases rv2
  have e : ((List.range (min its.toArray.size (([] : List Value).toArray).size)).all (fun _ => true) && its.toArray.size == (([] : List Value).toArray).size) = decide (xs.length = 0) := by
    have hl0 := rv.length
    cases its with
    | nil =>
      rw [show xs.length = 0 from hl0]
      rfl
    | cons i its =>
      rw [decide_eq_false (show ¬ xs.length = 0 by rw [hl0, List.length_cons]; omega)]
      simp
  refine RcAt.tuples (e := fun _ => true) hl hl2 (by omega) (fun j h1 h2 => absurd h2 (by simp)) _ _ _ _ ?_
  rw [e]
  exact ⟨.bl _, H, I, rfl, q⟩
theorem eqT0 {X : Cx} (K : PySem.W.Frag) (hu : X.A.units + 64 < cLine) (h : X.K = K := by rfl) : OpR X (compareOp .Eq) (rEqT0 K) := by subst h; exact op_eqT0 hu
end My
namespace My
open PySem PySem.Spec PyProof.Rows L2

/-! ### deals -/
theorem cut_take {xs : List V} {k : Nat} : cutV xs none (some (k : Int)) = xs.take k := by
  unfold cutV
  rw [HT.sIx_none, show HT.sIx xs.length xs.length (some (k : Int)) = min k xs.length from HT.sIx_nat _ _ k, List.drop_zero, Nat.sub_zero]
  by_cases h : k ≤ xs.length
  · rw [Nat.min_eq_left h]
  · rw [Nat.min_eq_right (by omega), List.take_length, List.take_of_length_le (by omega)]
theorem ups_nodup (k : Nat) : (ups k).Nodup := by
  unfold ups
  refine List.Pairwise.map _ (fun a b h => ?_) (List.nodup_range (n := k))
  intro z
  exact h (by omega)
theorem sum_set1 : ∀ {L : List Int} {i : Nat} {x : Int}, L[i]? = some x → (L.set i (x + 1)).sum = L.sum + 1
  | [], _, _, h => by simp at h
  | a :: L, 0, x, h => by
    have e : a = x := Option.some.inj h
    subst e
    simp only [List.set, List.sum_cons]
    omega
  | a :: L, i + 1, x, h => by
    have := sum_set1 (L := L) (i := i) (x := x) h
    simp only [List.set, List.sum_cons, this]
    omega
theorem sum_ones (k : Nat) : (List.replicate k (1 : Int)).sum = k := by
  induction k with
  | zero => rfl
  | succ k ih =>
    rw [List.replicate_succ, List.sum_cons, ih]
    omega
theorem rep_one {α : Type} (k : Nat) (x : α) : (List.replicate k [x]).flatten = List.replicate k x := by
  induction k with
  | zero => rfl
  | succ k ih => rw [List.replicate_succ, List.flatten_cons, ih]; rfl
/-- a drawn deal's roots -/
def spDrawRoots (K : PySem.W.Frag) : Sp := fun vs H Q _ => ∃ (p c : Addr) (n0 n k : Nat), vs = [.ref p, .int n, .int k] ∧ Pen H p c n0 ∧ n0 ≤ 800000 ∧ n ≤ 100 ∧ k ≤ n ∧
  ∀ (q : Addr) (r : List Int) H', r.Nodup → (∀ x ∈ r, 0 ≤ x ∧ x < n) → r.length = k → Pen H' p c (n0 + n) → Same (wo p H) (wo p H') → SqT K (wo p H') q (r.map V.int) → Q (.ref q) H'
def spDrawSizes (K : PySem.W.Frag) : Sp := fun vs H Q _ => ∃ (p c : Addr) (n0 n k : Nat), vs = [.ref p, .int n, .int k] ∧ Pen H p c n0 ∧ n0 ≤ 800000 ∧ n ≤ 100 ∧ k ≤ n ∧ 1 ≤ k ∧
  ∀ (q : Addr) (r : List Int) H', (∀ x ∈ r, 1 ≤ x ∧ x ≤ n) → r.sum = n → r.length = k → Pen H' p c (n0 + n) → Same (wo p H) (wo p H') → SqT K (wo p H') q (r.map V.int) → Q (.ref q) H'
/-- a deal of n places -/
def DealOk (n : Nat) (rs ss : List Int) : Prop := rs.Nodup ∧ (∀ x ∈ rs, 0 ≤ x ∧ x < n) ∧ 1 ≤ rs.length ∧ ss.length = rs.length ∧ (∀ x ∈ ss, 1 ≤ x ∧ x ≤ n) ∧ ss.sum = n
def spDrawDeal (K : PySem.W.Frag) : Sp := fun vs H Q _ => ∃ (p c : Addr) (n0 n m : Nat) (v : V) (e : PyData), vs = [.ref p, v, .int m] ∧ Pen H p c n0 ∧ n0 ≤ 700000 ∧ Dq K (wo p H) v (.tuple [.int n, e]) ∧ 1 ≤ n ∧ n ≤ 100 ∧ 1 ≤ m ∧ m ≤ 100 ∧
  ∀ (q : Addr) (rs ss : List Int) H', DealOk n rs ss → rs.length ≤ m → Pen H' p c (n0 + 1 + n + n) → Same (wo p H) (wo p H') → Dq K (wo p H') (.ref q) (.tuple [tI rs, tI ss]) → Q (.ref q) H'
theorem Dq.ofTI {K : PySem.W.Frag} {H : Hp} {a : Addr} {ns : List Int} (h : SqT K H a (ns.map V.int)) : Dq K H (.ref a) (My.tI ns) := .tup h (DqAll.ints ns)
/-- at least two items, the first read by its place -/
theorem Dq.first {K : PySem.W.Frag} {H : Hp} {v : V} {n : Int} {e : PyData} (h : Dq K H v (.tuple [.int n, e])) : ∃ a x, v = .ref a ∧ SqT K H a [.int n, x] ∧ Dq K H x e := by
  obtain ⟨a, xs, rfl, hT, hxs⟩ := h.un_tup
  cases hxs with
  | cons h1 hxs =>
  cases hxs with
  | cons h2 hxs =>
  cases hxs
  cases h1
  exact ⟨a, _, rfl, hT, h2⟩
end My

set_option Elab.async false
set_option linter.all false
set_option maxRecDepth 100000
set_option maxHeartbeats 4000000
namespace My
open PySem PySem.Spec PyProof.Rows L2

/-! ### what deals are -/
def posD : PyData → Bool
  | .int i => decide (1 ≤ i)
  | _ => false
def intsOf : List PyData → List Int
  | [] => []
  | .int i :: ds => i :: intsOf ds
  | _ :: ds => intsOf ds
def rootsD (n : Int) : PyData → Bool
  | .tuple rs => decide (rs.length ≠ 0) && (rs.all (placeD n) && decide (intsOf rs).Nodup)
  | _ => false
def sizesD (n k : Int) : PyData → Bool
  | .tuple ss => decide ((ss.length : Int) = k) && (ss.all posD && decide ((intsOf ss).sum = n))
  | _ => false
def dealD (n : Int) : PyData → Bool
  | .tuple [.tuple rs, s] => rootsD n (.tuple rs) && sizesD n rs.length s
  | _ => false
theorem posD_ints {ds : List PyData} (h : ds.all posD = true) : IntsD ds := fun d hd => by
  have := List.all_eq_true.mp h d hd
  cases d with
  | int i => exact ⟨i, rfl⟩
  | _ => cases this
theorem posD_whole {d : PyData} (h : wholeD d = false) : posD d = false := by
  cases d with
  | int i => cases h
  | _ => rfl
theorem DqAll.intsOf {K : PySem.W.Frag} {H : Hp} : ∀ {ds : List PyData} {xs : List V}, DqAll K H xs ds → IntsD ds → xs = (My.intsOf ds).map V.int
  | [], _, .nil, _ => rfl
  | d :: ds, _, .cons h t, hi => by
    obtain ⟨i, rfl⟩ := hi d List.mem_cons_self
    cases h
    rw [DqAll.intsOf t (fun e he => hi e (List.mem_cons_of_mem _ he))]
    rfl
theorem intsOf_len {ds : List PyData} (hi : IntsD ds) : (intsOf ds).length = ds.length := by
  induction ds with
  | nil => rfl
  | cons d ds ih =>
    obtain ⟨i, rfl⟩ := hi d List.mem_cons_self
    have := ih (fun e he => hi e (List.mem_cons_of_mem _ he))
    show (intsOf ds).length + 1 = _
    rw [this]
    rfl
theorem Sm.lenW {W D : Nat} {ds : List PyData} (sm : Sm W D (.tuple ds)) : ds.length ≤ W := by
  obtain ⟨_, _, h3, _⟩ := sm
  have : PyData.bulkAll ds ≤ W := by simpa only [PyData.bulk] using h3
  have l2 : ∀ ds : List PyData, ds.length ≤ PyData.bulkAll ds := fun ds => by
    induction ds with
    | nil => exact Nat.zero_le _
    | cons d ds ih =>
      simp only [PyData.bulkAll, List.length_cons]
      omega
  have := l2 ds
  omega
theorem intsOf_map : ∀ ns : List Int, intsOf (ns.map PyData.int) = ns
  | [] => rfl
  | n :: ns => congrArg (n :: ·) (intsOf_map ns)
theorem intsD_map (ns : List Int) : IntsD (ns.map PyData.int) := fun d hd => by
  obtain ⟨y, _, rfl⟩ := List.mem_map.mp hd
  exact ⟨y, rfl⟩
def spRoots (K : PySem.W.Frag) : Sp := fun vs H Q _ => ∃ (n : Int) (v : V) (d : PyData) (W D : Nat), vs = [.int n, v] ∧ Dq K H v d ∧ Sm W D d ∧ W ≤ 4000 ∧ ∀ H', Same H H' → Q (.bl (rootsD n d)) H'
def spSizes (K : PySem.W.Frag) : Sp := fun vs H Q _ => ∃ (n k : Int) (v : V) (d : PyData) (W D : Nat), vs = [.int n, .int k, v] ∧ Dq K H v d ∧ Sm W D d ∧ W ≤ 4000 ∧ ∀ H', Same H H' → Q (.bl (sizesD n k d)) H'
def spIsDeal (K : PySem.W.Frag) : Sp := fun vs H Q _ => ∃ (u v : V) (n : Int) (e d : PyData) (W D : Nat), vs = [u, v] ∧ Dq K H u (.tuple [.int n, e]) ∧ Dq K H v d ∧ Sm W D d ∧ W ≤ 4000 ∧ ∀ H', Same H H' → Q (.bl (dealD n d)) H'
theorem dInt_iff {a b : Int} {p : Prop} [Decidable p] (h : a = b ↔ p) : decide (V.int a = V.int b) = decide p := by
  rw [decide_eq_decide]
  constructor
  · intro z
    exact h.mp (V.int.inj z)
  · intro z
    rw [h.mpr z]
end My

set_option Elab.async false
set_option linter.all false
set_option maxRecDepth 100000
set_option maxHeartbeats 4000000
namespace My
open PySem PySem.Spec PyProof.Rows L2

/-! ### enumerate(t), t a tuple -/
theorem meets_enumerate_newT (l : Addr) (items : Array Value) (n : Nat) (dct : Option Addr) (sl : Array (Option Value)) :
    Meets (Builtin.«enumerate.__new__» ⟨[.type "enumerate", .ref l], []⟩) (fun _ R s => s.heap.get? l = some { cls := .type "tuple", dict := dct, data := .seq items n, slots := sl } ∧
      R (.ok (.ret (.ref (s.heap.push { cls := .type "tuple_iterator", data := .fields #[.ref l, .int 0 0] }).objs.size)))
        { s with heap := (s.heap.push { cls := .type "tuple_iterator", data := .fields #[.ref l, .int 0 0] }).push { cls := .type "enumerate", data := .fields #[.none, .bool false, .ref s.heap.objs.size, rawInt 0, .none, .none] } }) :=
  .of_wp fun prog w A R s h => by
    obtain ⟨hp, g, d, tk, os⟩ := s; obtain ⟨hl, h⟩ := h
    have hsub := sub_enumerate
    have hL : Heap.IsTuple (Shared.heap ⟨hp, g, d, tk, os⟩) l items := ⟨_, hl, rfl, n, rfl⟩
    wp_walk using wpAny_loadPart' hl
    refine wpAny_stack_any fun st => wpAny_pure ?_
    split
    · rename_i c _ _ _ _ _
      cases (c == Value.type "enumerate")
      · wp_walk using wpAny_loadPart' hl, wpAny_pyIter_tuple hL
        exact ⟨_, rfl, h⟩
      · wp_walk using wpAny_loadPart' hl, wpAny_pyIter_tuple hL
        exact ⟨_, rfl, h⟩
    · wp_walk using wpAny_loadPart' hl, wpAny_pyIter_tuple hL
      exact ⟨_, rfl, h⟩
theorem call_enumT {prog : Program} {w : World} {A : Around} {E : Value → Shared → Prop} {s : Shared} {l : Addr} {items : Array Value} {Q : Value → Shared → Prop} (hL : s.heap.IsTuple l items)
    (h : ∀ h', IsEnum h' (s.heap.objs.size + 1) s.heap.objs.size 0 .none → h'.IsTupleIter s.heap.objs.size l 0 → h'.objs.size = s.heap.objs.size + 2 →
      (∀ b o, s.heap.get? b = some o → h'.get? b = some o) → Q (.ref (s.heap.objs.size + 1)) { s with heap := h' }) :
    wpAny (model prog w) A (call (.type "enumerate") [.ref l]) Q E s := by
  obtain ⟨⟨c, dct, dt, sl⟩, hl, hc, n, hd⟩ := hL
  replace hc : c = .type "tuple" := hc
  replace hd : dt = .seq items n := hd
  subst hc hd
  refine callType_new F.called_enumerate (by decide) (F.typeCall_enumerate_1 _) (F.newCall_enumerate_1 _) (fun obj => F.args_object_init_2 obj _) F.entry_enumerate_new
    (meets_enumerate_newT l items n dct sl) ⟨hl, ?_⟩
  have hz : (s.heap.push { cls := .type "tuple_iterator", data := .fields #[.ref l, .int 0 0] }).objs.size = s.heap.objs.size + 1 := Heap.size_push ..
  show _ ∧ _
  rw [hz]
  have he : IsEnum ((s.heap.push { cls := .type "tuple_iterator", data := .fields #[.ref l, .int 0 0] }).push
      { cls := .type "enumerate", data := .fields #[.none, .bool false, .ref s.heap.objs.size, rawInt 0, .none, .none] }) (s.heap.objs.size + 1) s.heap.objs.size 0 .none := by
    have := Heap.get?_push_size (s.heap.push { cls := .type "tuple_iterator", data := .fields #[.ref l, .int 0 0] })
      (o := { cls := .type "enumerate", data := .fields #[.none, .bool false, .ref s.heap.objs.size, rawInt 0, .none, .none] }) rfl
    rw [hz] at this; exact this
  refine ⟨⟨_, he, rfl⟩, h _ he ⟨_, Heap.get?_push_of_some _ (Heap.get?_push_size _ rfl), rfl, rfl⟩ (by rw [Heap.size_push, hz]) fun b o x => Heap.get?_push_of_some _ (Heap.get?_push_of_some _ x)⟩
/-- the tuple at a, each item in a new pair -/
def IteT (K : PySem.W.Frag) (a : Addr) : It :=
  ⟨fun i H => ∃ (xs : List V) (x : V), SqT K H a xs ∧ xs[i]? = some x, fun i H v H' => ∃ T x, v = .ref T ∧ H T = none ∧ H' = upd H T (.tup [.int (i : Nat), x]) ∧ ∀ xs, SqT K H a xs → xs[i]? = some x, fun i H => ∃ xs : List V, SqT K H a xs ∧ xs.length = i⟩
theorem turn_enumT {P : Program} {w : World} {K : PySem.W.Frag} {elts : List Expr} {kk : Nat} {tpos : Pos} (a e it : Addr) :
    Turn P w K (.Tuple elts kk tpos) (IteT K a) [e, it] e (fun i h => (∃ old, IsEnum h e it ((i : Nat) : Int) old) ∧ h.IsTupleIter it a i ∧ e ≠ it ∧ a ≠ it ∧ e ≠ a) where
  mem := by simp
  obj := fun i h st b hb => by
    obtain ⟨⟨old, he⟩, ⟨o, ho, hc, hd⟩, _⟩ := st
    have e' : b = e ∨ b = it := by simpa using hb
    rcases e' with z | z
    · rw [z]; exact ⟨_, he, fun v q => nomatch q⟩
    · rw [z]; exact ⟨o, ho, fun v q => by rw [hd] at q; cases q⟩
  keep := fun i h h' st k => let ⟨⟨old, he⟩, hi, hne⟩ := st; ⟨⟨old, k e (by simp) _ he⟩, hi.at fun o q => k it (by simp) o q, hne⟩
  item := by
    intro X hP hw hK hc i pins s σ H E I hf st hg
    subst hP hw hK
    obtain ⟨⟨old, he⟩, hit, hne, hai, hea⟩ := st
    obtain ⟨xs, x, hq, hx⟩ := hg
    obtain ⟨its, rv, p, hz⟩ := I.tuple hq
    obtain ⟨u, hu, ru⟩ := rv.get hx
    have hel : e < s.heap.objs.size := Heap.lt_size he
    have hil : it < s.heap.objs.size := by obtain ⟨_, q, _⟩ := hit; exact Heap.lt_size q
    have hlt : i < its.toArray.size := by
      have := (List.getElem?_eq_some_iff.mp hu).1
      rw [List.size_toArray]
      exact this
    have hd := I.ok.hd hc
    have D := Draws.tuple (prog := X.prog) (w := X.w) (A := X.A.in1) (by simp [hd]) it a hai its.toArray
    refine wpAny_pyNext_enum_itemD D he ⟨hit, p⟩ hlt hne (by simp; exact ⟨hne, hea⟩) fun y h' tk hP ho hs' hT hsz hk => ?_
    have ey : y = u := by
      have h1 : its.toArray[i]? = some y := hP
      rw [List.getElem?_toArray, hu] at h1
      exact (Option.some.inj h1).symm
    subst ey
    refine ⟨_, rfl, wpAny_letOwnedTupleGo_enum (s := { s with heap := h', toks := tk + 1 }) ho fun h'' he' sb => ?_⟩
    have hT2 : h''.get? s.heap.objs.size = some { cls := .type "tuple", data := .seq #[.int i tk, y] } := (sb.2 _ (Nat.ne_of_gt hel)).trans hT
    have new : ObjOk X.prog X.w (upd H s.heap.objs.size (.tup [.int (i : Nat), x])) h'' s.heap.objs.size (.tup [.int (i : Nat), x]) :=
      ⟨by show 2 ≤ sizeLine; decide, [.int i tk, y], .cons ⟨_, rfl⟩ (.cons ru .nil), ⟨_, hT2, rfl, _, rfl⟩⟩
    have I1 : Inv X pins σ (upd H s.heap.objs.size (.tup [.int (i : Nat), x])) { s with heap := h'', toks := tk + 1 } :=
      I.turnedNew (ch := [e, it]) (fun b ob hb q => (sb.2 b (fun z => hb (by simp [z]))).trans (hk b ob (fun z => hb (by simp [z])) (fun z => hb (by simp [z])) q)) hf (Nat.le_refl _) new
    refine ⟨.ref s.heap.objs.size, _, I1, rfl, ⟨_, x, rfl, I.hok.fresh (Nat.le_refl _), rfl, fun ys hy => by rw [I.tuple_inj hy hq]; exact hx⟩, ⟨⟨y, ?_⟩, hs'.1.at fun o q => (sb.2 it (Ne.symm hne)).trans q, hne, hai, hea⟩, fun b hb => ?_⟩
    · have e1 : ((i + 1 : Nat) : Int) = (i : Int) + 1 := by omega
      rw [e1]; exact he'
    · have hb' : b < s.heap.objs.size := by
        have e' : b = e ∨ b = it := by simpa using hb
        rcases e' with z | z
        · rw [z]; exact hel
        · rw [z]; exact hil
      rw [upd_ne (Nat.ne_of_lt hb')]
      exact (hf b hb).1
  done := by
    intro X hP hw hK hc i pins s σ H E I hf st hg
    subst hP hw hK
    obtain ⟨⟨old, he⟩, hit, hne, hai, hea⟩ := st
    obtain ⟨xs, hq, hx⟩ := hg
    obtain ⟨its, rv, p, hz⟩ := I.tuple hq
    obtain ⟨f0, f1, f2, f3, f4, f5⟩ := hf it (by simp)
    have hl := rv.length
    have hd := I.ok.hd hc
    have D := Draws.tuple (prog := X.prog) (w := X.w) (A := X.A.in1) (by simp [hd]) it a hai its.toArray
    have ei : its.toArray.size = i := by rw [List.size_toArray]; omega
    refine wpAny_pyNext_enum_endD D he ⟨by rw [ei]; exact hit, p⟩ fun h' eb => ⟨rfl, I.turned (t' := s.toks) (fun b o hb q => eb b o hb q) f0 f1 f3 f4 f5⟩
  self := fun A i s Q E st h => let ⟨⟨_, he⟩, _⟩ := st; wpAny_pyIter_enum he h
def iEnumT (K : PySem.W.Frag) (ta : TA) : TI := fun σ H R => ta σ H fun vs H1 => ∃ a xs, vs = [.ref a] ∧ SqT K H1 a xs ∧ R (IteT K a) H1
theorem pi_enumT {X : Cx} {e : Expr} {ta : TA} {p pos tpos : Pos} {elts : List Expr} {kk : Nat} (hg : Gl X "enumerate") (hm : X.mg "enumerate" = none) (ha : PA X [e] ta) (hs : starEach [e] X.env = [(false, eval e X.env)] := by rfl) :
    PI X (.Tuple elts kk tpos) (.Call (.Name "enumerate" p) [e] [] pos) (iEnumT X.K ta) := by
  refine ⟨fun pins s σ H R I h => ?_⟩
  refine Call_ (ld_blt I hg hm boot_enumerate (PyProof.Rows.callWith_type1 (thn (ha.run pos pins s σ H _ I h) fun us s1 ⟨vs, H1, I1, r1, q1⟩ => ?_) hs rfl))
  obtain ⟨a, xs, ex, hq, q⟩ := q1
  subst ex
  cases r1 with
  | cons r rr =>
    cases rr
    cases r
    obtain ⟨its, rv, p', hz⟩ := I1.tuple hq
    have hal : a < s1.heap.objs.size := by obtain ⟨_, ho, _⟩ := id p'; exact Heap.lt_size ho
    refine call_enumT (show s1.heap.IsTuple a its.toArray from p') fun h' he hit hsz hk => wpAny_pyIter_enum he ?_
    have I2 : Inv X pins σ H1 { s1 with heap := h' } := I1.kept (t' := s1.toks) hk
    refine ⟨s1.heap.objs.size + 1, [s1.heap.objs.size + 1, s1.heap.objs.size], _, _, H1, rfl, I2, turn_enumT a (s1.heap.objs.size + 1) s1.heap.objs.size, ⟨⟨.none, he⟩, hit, Nat.succ_ne_self _, Nat.ne_of_lt hal, Nat.ne_of_gt (Nat.lt_succ_of_lt hal)⟩, fun b hb => ?_, q⟩
    have e' : b = s1.heap.objs.size + 1 ∨ b = s1.heap.objs.size := by simpa using hb
    have hle : s1.heap.objs.size ≤ b := by
      rcases e' with z | z
      · rw [z]; exact Nat.le_add_right _ _
      · rw [z]; exact Nat.le_refl _
    exact I1.fpOk hle (I1.hok.fresh hle)
theorem pi_enumTK {X : Cx} (K : PySem.W.Frag) {e : Expr} {ta : TA} {p pos tpos : Pos} {elts : List Expr} {kk : Nat} (hg : Gl X "enumerate") (hm : X.mg "enumerate" = none) (ha : PA X [e] ta) (h : X.K = K := by rfl) (hs : starEach [e] X.env = [(false, eval e X.env)] := by rfl) :
    PI X (.Tuple elts kk tpos) (.Call (.Name "enumerate" p) [e] [] pos) (iEnumT K ta) := by subst h; exact pi_enumT hg hm ha hs
theorem lc_enumT {K : PySem.W.Frag} {a : Addr} {xs : List V} {g : TG} {tt : TT} {te : TE} {vs : List Nat} {σ : L2.St} {H1 : Hp} {D : Addr} {Qd : Hp → Prop} (Pv : Nat → Hp → Prop) (h0 : Pv 0 (upd H1 D (.lst [])))
    (hq : ∀ i H, Pv i H → SqT K H a xs)
    (hs : ∀ (i : Nat) (x : V) (T : Addr) (H : Hp), xs[i]? = some x → Pv i H → H T = none → g (.ref T) (wipe σ vs) (upd H T (.tup [.int (i : Nat), x])) fun σ2 H2 => wipe σ2 vs = wipe σ vs ∧ tt σ2 H2 fun b H3 =>
      if b = true then te σ2 H3 fun z H4 => ∃ acc, H4 D = some (.lst acc) ∧ acc.length < sizeLine ∧ Pv (i + 1) (upd H4 D (.lst (acc ++ [z]))) else Pv (i + 1) H3) (hd : ∀ H, Pv xs.length H → Qd H) :
    ∃ W : Nat → Nat → Hp → Prop, (∃ m, W 0 m (upd H1 D (.lst []))) ∧ ∀ i m H, W i m H →
      ((IteT K a).stop i H ∧ Qd H) ∨ ((IteT K a).go i H ∧ ∃ Nx : Hp → Prop, (∀ H', Nx H' → ∃ m', m' < m ∧ W (i + 1) m' H') ∧ ∀ x H', (IteT K a).yld i H x H' → g x (wipe σ vs) H' fun σ2 H2 => wipe σ2 vs = wipe σ vs ∧ tt σ2 H2 fun b H3 =>
        if b = true then te σ2 H3 fun y H4 => ∃ acc, H4 D = some (.lst acc) ∧ acc.length < sizeLine ∧ Nx (upd H4 D (.lst (acc ++ [y]))) else Nx H3) := by
  refine ⟨fun i m H => m = xs.length - i ∧ i ≤ xs.length ∧ Pv i H, ⟨xs.length, rfl, Nat.zero_le _, h0⟩, ?_⟩
  rintro i m H ⟨rfl, hi, p⟩
  have qx := hq i H p
  by_cases hlt : i < xs.length
  · have hx : xs[i]? = some xs[i] := List.getElem?_eq_getElem hlt
    refine .inr ⟨⟨xs, _, qx, hx⟩, Pv (i + 1), fun H' p' => ⟨xs.length - (i + 1), by omega, rfl, hlt, p'⟩, fun v H' y => ?_⟩
    obtain ⟨T, x', rfl, hT, rfl, f1⟩ := y
    exact hs i x' T H (f1 xs qx) p hT
  · have e : i = xs.length := by omega
    subst e
    exact .inl ⟨⟨xs, qx, rfl⟩, hd H p⟩
/-! ### tuple * int, 1 too -/
theorem tuple_mul1 (l : Addr) (items : Array Value) (n : Nat) (dd : Option Addr) (sl : Array (Option Value)) (u : Tok) :
    Meets (Builtin.«tuple.__mul__» ⟨[.ref l, .int 1 u], []⟩) (fun _ R s => s.heap.get? l = some { cls := .type "tuple", dict := dd, data := .seq items n, slots := sl } ∧ R (.ok (.ret (Value.ref l))) s) :=
  .of_wp fun prog w A R s h => by
    obtain ⟨hp, g, d, tk, os⟩ := s
    obtain ⟨hl, h⟩ := h
    have f1 := AutoSeq1.idx_int
    have c1 : (items.isEmpty || (1 : Int) == 1) = true := by simp
    wp_walk using wpAny_loadPart' hl
    repeat (first
      | (refine wpAny_ite_false (decide_eq_false (by decide)) ?_; wp_walk using wpAny_loadPart' hl)
      | (refine wpAny_ite_true (decide_eq_true (by rw [c1])) ?_; wp_walk using wpAny_loadPart' hl))
    exact ⟨_, rfl, h⟩
def rRepT1 (K : PySem.W.Frag) : R2 := fun x y H Q => rRepT K x y H Q ∨ ∃ l xs, x = .ref l ∧ y = .int 1 ∧ SqT K H l xs ∧ Q (.ref l) H
theorem op_repT1 {X : Cx} : OpR X (binaryOp .Mult) (rRepT1 X.K) := by
  intro pins s σ H x y v u Q I rx ry h
  rcases h with h | ⟨l, xs, rfl, rfl, hT, q⟩
  · exact op_repT pins s σ H x y v u Q I rx ry h
  cases rx
  obtain ⟨t, rfl⟩ := ry
  obtain ⟨its, r, ⟨⟨cls, dd, data, sl⟩, ho, hc, n, hd⟩, hs⟩ := I.tuple hT
  simp only at hc hd
  subst hc hd
  exact wpAny_binaryOp_repeat_ref (T := "tuple") (U := "int") (by decide) ⟨_, ho, rfl⟩ (fun s' => typeIs_int s' 1 t) noFill_tuple_mul F.fills_int_mul F.slot_int_rmul repeat_tuple F.slot_int_index.lookup
    (call_meets F.slot_int_rmul (typeIs_int s 1 t) F.entry_int_rmul (F.args_int_rmul_2 _ _) (int_rmul_tuple 1 t l its.toArray n dd sl)
      ⟨ho, rfl, ⟨_, ho, rfl⟩, call_meets F.slot_tuple_mul ⟨_, ho, rfl⟩ F.entry_tuple_mul (F.args_tuple_mul_2 _ _) (tuple_mul1 l its.toArray n dd sl t) ⟨ho, .ref l, H, I, rfl, q⟩⟩)
theorem repT1 {X : Cx} (K : PySem.W.Frag) (h : X.K = K := by rfl) : OpR X (binaryOp .Mult) (rRepT1 K) := by subst h; exact op_repT1
end My

set_option Elab.async false
set_option linter.all false
set_option maxRecDepth 100000
set_option maxHeartbeats 4000000
namespace My
open PySem PySem.Spec PyProof.Rows L2

/-! ### more of displays: repeated tuples, lengths, ranges -/
section
variable {K : PySem.W.Frag} {av : List Addr} {H0 : Hp} {σ : L2.St} {t t1 t2 : TE} {ta : TA} {d : PyData} {ds es : List PyData}
theorem DqAll.rep {H : Hp} {vs : List V} (h : DqAll K H vs ds) : ∀ k : Nat, DqAll K H (List.replicate k vs).flatten (List.replicate k ds).flatten
  | 0 => .nil
  | k + 1 => by
    rw [List.replicate_succ, List.replicate_succ, List.flatten_cons, List.flatten_cons]
    exact DqAll.append h (DqAll.rep h k)
theorem EvQ.repT {k : Nat} (hp : Avs av H0) (h1 : EvQ K av H0 σ t1 (.tuple ds)) (h2 : EvQ K av H0 σ t2 (.int (k : Int))) (hl : ds.length ≤ 1000) (h0 : ds ≠ []) (k1 : 1 ≤ k) (k2 : k ≤ 1000) :
    EvQ K av H0 σ (tOp (rRepT1 K) t1 t2) (.tuple (List.replicate k ds).flatten) := fun H s Q q => by
  refine h1 H s _ fun x H1 s1 hx => h2 H1 (s.trans s1) _ fun y H2 s2 hy => ?_
  cases hy
  obtain ⟨a, xs, rfl, hT, hxs⟩ := (Dq.same (My.Same.wos s2) hx).un_tup
  by_cases e : k = 1
  · subst e
    refine .inr ⟨a, xs, rfl, rfl, My.Same.sqt wos_le hT, q _ _ (s1.trans s2) ?_⟩
    rw [show (List.replicate 1 ds).flatten = ds by simp]
    exact .tup hT hxs
  · refine .inl ⟨a, (k : Int), xs, rfl, rfl, My.Same.sqt wos_le hT, fun z => ?_, by omega, by omega, by rw [hxs.len]; exact hl, fun b hb => ?_⟩
    · subst z
      cases hxs
      exact h0 rfl
    · have t3 := My.Same.new (o := HO.tup (List.replicate (k : Int).toNat xs).flatten) hb
      have n3 := (hp.same (s.trans (s1.trans s2))).fresh hb
      rw [Int.toNat_natCast] at t3 ⊢
      exact q _ _ (s1.trans (s2.trans t3)) (.tup (SqT.of ((wos_in n3).trans upd_same)) (DqAll.same (My.Same.wos t3) (DqAll.rep hxs k)))
theorem EvQ.lenT (h : EvQ K av H0 σ t (.tuple ds)) : EvQ K av H0 σ (tCB (rLenQ K) (tCons t tNil)) (.int (ds.length : Int)) := fun H s Q q => by
  refine h H s _ fun x H1 s1 hx => ?_
  obtain ⟨a, xs, rfl, hT, hxs⟩ := hx.un_tup
  refine ⟨a, xs, rfl, .inr (My.Same.sqt wos_le hT), ?_⟩
  rw [hxs.len]
  exact q _ _ s1 (.int _)
theorem EvQ.tupRg {k : Nat} (hp : Avs av H0) (h : EvQ K av H0 σ t (.int (k : Int))) (hk : k ≤ 1000) : EvQ K av H0 σ (tTupRg (tRg1 t)) (.tuple ((ups k).map PyData.int)) := fun H s Q q => by
  refine h H s _ fun x H1 s1 hx => ?_
  cases hx
  refine ⟨_, rfl, RgOk.of_le (Int.le_refl 0) (by omega) (by decide) (by omega), fun b hb => ?_⟩
  have hrg : rgV 0 (k : Int) = (ups k).map V.int := by
    unfold rgV ups
    rw [List.map_map, show ((k : Int) - 0).toNat = k by omega]
    refine List.map_congr_left fun i _ => ?_
    show V.int (0 + (i : Int)) = V.int (i : Int)
    rw [Int.zero_add]
  rw [hrg]
  have t3 := My.Same.new (o := HO.tup ((ups k).map V.int)) hb
  have n3 := (hp.same (s.trans s1)).fresh hb
  exact q _ _ (s1.trans t3) (.tup (SqT.of ((wos_in n3).trans upd_same)) (DqAll.ints _))
end
theorem SmAll.rep {W D : Nat} {ds : List PyData} (h : SmAll W D ds) : ∀ k : Nat, SmAll (k * W) D (List.replicate k ds).flatten
  | 0 => by
    rw [Nat.zero_mul]
    exact SmAll.nil.mono (Nat.le_refl _) (Nat.zero_le _)
  | k + 1 => by
    rw [List.replicate_succ, List.flatten_cons]
    exact (SmAll.append h (SmAll.rep h k)).mono (by rw [Nat.succ_mul]; omega) (Nat.le_refl _)
theorem cutD_take {ds : List PyData} {k : Nat} : cutD ds none (some (k : Int)) = ds.take k := by
  unfold cutD
  rw [HT.sIx_none, show HT.sIx ds.length ds.length (some (k : Int)) = min k ds.length from HT.sIx_nat _ _ k, List.drop_zero, Nat.sub_zero]
  by_cases h : k ≤ ds.length
  · rw [Nat.min_eq_left h]
  · rw [Nat.min_eq_right (by omega), List.take_length, List.take_of_length_le (by omega)]
theorem cutD_len {ds : List PyData} {lo hi : Option Int} : (cutD ds lo hi).length ≤ ds.length := by
  unfold cutD
  rw [List.length_take, List.length_drop]
  omega
theorem tiInts {ns : List Int} (h : ∀ x ∈ ns, x.natAbs ≤ 1000000) : Ti 1 (.tuple (ns.map PyData.int)) := .inr ⟨_, rfl, fun x hx => by
  obtain ⟨y, hy, rfl⟩ := List.mem_map.mp hx
  exact ⟨y, rfl, h y hy⟩⟩
/-- as SmL, and the list is nowhere in its data -/
def SmO (K : PySem.W.Frag) (av : List Addr) (H : Hp) (a : Addr) (W D m : Nat) : Prop := a ∉ av ∧ ∃ (xs : List V) (ds : List PyData), H a = some (.lst xs) ∧ DqAll K (wos (a :: av) H) xs ds ∧ (∀ d ∈ ds, Sm W D d) ∧ ds.length ≤ m
theorem wos_fresh {av : List Addr} {z : Addr} {H H' : Hp} (hz : H z = none) (s : Same H H') : Same (wos av H) (wos (z :: av) H') := fun b o e => by
  obtain ⟨n, e⟩ := wos_some e
  have nb : b ≠ z := fun y => by
    rw [y, hz] at e
    cases e
  rw [wos_in (by rw [List.mem_cons, not_or]; exact ⟨nb, n⟩)]
  exact s _ _ e
theorem wos_less {av : List Addr} {z : Addr} {H : Hp} : Same (wos (z :: av) H) (wos av H) := fun b o e => by
  obtain ⟨n, e⟩ := wos_some e
  rw [List.mem_cons, not_or] at n
  rw [wos_in n.2]
  exact e
theorem wos_put {av : List Addr} {z : Addr} {H : Hp} {o : HO} : Same (wos (z :: av) H) (wos (z :: av) (upd H z o)) := fun b o e => by
  obtain ⟨n, e⟩ := wos_some e
  rw [wos_in n, upd_ne (fun y => n (by rw [y]; exact List.mem_cons_self))]
  exact e
theorem SmL.catO {K : PySem.W.Frag} {av : List Addr} {H : Hp} {a b : Addr} {W D m k : Nat} {Q : VK} (hav : Avs av H) (h1 : SmL K av H a W D m) (h2 : SmL K av H b W D k) (hl : m + k ≤ 10000) (q : ∀ z H', H z = none → Same H H' → SmO K av H' z W D (m + k) → Q (.ref z) H') : rCat (.ref a) (.ref b) H Q := by
  obtain ⟨n1, xs, ds, e1, hx, hs, l1⟩ := h1
  obtain ⟨n2, ys, es, e2, hy, ht, l2⟩ := h2
  refine ⟨a, b, xs, ys, rfl, rfl, e1, e2, by rw [hx.len, hy.len]; exact smallN (by omega), fun z hz => ?_⟩
  have s := My.Same.new (o := HO.lst (xs ++ ys)) hz
  have sf := wos_fresh (av := av) hz s
  refine q z _ hz s ⟨hav.fresh hz, xs ++ ys, ds ++ es, upd_same, DqAll.append (DqAll.same sf hx) (DqAll.same sf hy), fun d hd => ?_, by rw [List.length_append]; omega⟩
  rcases List.mem_append.mp hd with hd | hd
  · exact hs d hd
  · exact ht d hd
/-- what is above 0 stays, else: is it 1 -/
def posOneD : PyData → PyData
  | .int i => if 0 < i then .int i else .bool (decide (V.int i = V.int 1))
  | d => d
theorem iteB {p : Prop} [Decidable p] : ∃ b : Int, (if decide p = true then (1 : Int) else 0) = b ∧ 0 ≤ b ∧ b ≤ 1 := by
  by_cases z : p
  · rw [decide_eq_true z]
    exact ⟨1, rfl, by decide, by decide⟩
  · rw [decide_eq_false z]
    exact ⟨0, rfl, by decide, by decide⟩
end My

set_option Elab.async false
set_option linter.all false
set_option maxRecDepth 100000
set_option maxHeartbeats 4000000
namespace K03
open PySem PySem.Spec PyProof.Rows L2 My
def topS (i : Nat) : Stmt := PySem.Challenge.pw_rootparts_k03_deals_recognized.main.body.getD i (.Pass ⟨0, 0, 0, 0⟩)
abbrev s_law_spread : Stmt := topS 9
theorem sc_law_spread : FnScope ["cell", "at", "primes", "one", "two", "three"] ["cell", "at"] (defScope s_law_spread) := ⟨rfl, rfl, rfl, by decide +kernel, rfl, by decide +kernel, by decide +kernel⟩
abbrev s_law_take : Stmt := topS 10
theorem sc_law_take : FnScope ["pen", "amount", "at", "cell", "found"] ["pen", "amount"] (defScope s_law_take) := ⟨rfl, rfl, rfl, by decide +kernel, rfl, by decide +kernel, by decide +kernel⟩
abbrev s_law_open : Stmt := topS 8
theorem sc_law_open : FnScope ["script", "cells", "k", "cell"] ["script"] (defScope s_law_open) := ⟨rfl, rfl, rfl, by decide +kernel, rfl, by decide +kernel, by decide +kernel⟩
section
variable {P : Program} {w : World} {K : PySem.W.Frag} {mg : Str → Option Value} {base : Heap}
theorem ok_spread {f : Addr} {fd : FuncData} {k : Nat} (F : Fun K "_law_spread" "_law_spread" s_law_spread f fd) (B : Bn mg) : FnOk P w K mg base CX0 (k + 1) f fd ["cell", "at"] spSpread := by
  refine F.ok sc_law_spread (fun vs H Q E h => ?_) (fun cdv A outer s H vs Q E hr h => ?_)
  · obtain ⟨a, ns, rfl, _⟩ := h
    rfl
  · obtain ⟨cell, i, rfl, i0, i1, q⟩ := h
    refine ⟨_, (pss_cons (ps_if (pt_cmpR op_ge (pv 0) (pe_op op_pow pe_int pe_int) (nomark _)) (pss_one (ps_ret (pv 0))) pss_nil)
      (pss_cons (ps_set (i := 2) sc_law_spread.nd rfl (.inl rfl) (pe_lst (pa_cons pe_int (pa_cons pe_int (pa_cons pe_int (pa_cons pe_int (pa_cons pe_int (pa_cons pe_int (pa_cons pe_int (pa_cons pe_int pa_nil))))))))))
      (pss_cons (ps_set (i := 2) sc_law_spread.nd rfl (.inl rfl) (pe_op op_cat (pv 2) (pe_lst (pa_cons pe_int (pa_cons pe_int (pa_cons pe_int (pa_cons pe_int (pa_cons pe_int pa_nil))))))))
      (pss_cons (ps_set (i := 3) sc_law_spread.nd rfl (.inl rfl) (pe_op op_add (pe_op op_add (pe_op op_mul (pe_op op_mod (pe_callTy call_int1 (by rfl) B.int_ (by decide +kernel) (pa_cons (pv 0) pa_nil)) pe_int) (pe_op op_add (pe_op op_mul pe_int (pv 1)) pe_int)) (pe_op op_mul (pv 1) pe_int)) pe_int))
      (pss_cons (ps_set (i := 3) sc_law_spread.nd rfl (.inl rfl) (pe_op op_mod (pe_callTy call_int1 (by rfl) B.int_ (by decide +kernel) (pa_cons (pe_op op_pow (pv 3) pe_int) pa_nil)) (pe_ix (ixL K) (pv 2) (pe_op op_mod (pe_callTy call_int1 (by rfl) B.int_ (by decide +kernel) (pa_cons (pv 1) pa_nil)) pe_int) (fun _ _ => rfl))))
      (pss_cons (ps_set (i := 4) sc_law_spread.nd rfl (.inl rfl) (pe_op op_mod (pe_callTy call_int1 (by rfl) B.int_ (by decide +kernel) (pa_cons (pe_op op_pow (pe_op op_add (pe_op op_add (pe_op op_mul (pv 3) (pe_op op_add (pv 1) pe_int)) (pe_op op_mod (pe_callTy call_int1 (by rfl) B.int_ (by decide +kernel) (pa_cons (pv 0) pa_nil)) pe_int)) pe_int) pe_int) pa_nil)) (pe_ix (ixL K) (pv 2) (pe_op op_mod (pe_callTy call_int1 (by rfl) B.int_ (by decide +kernel) (pa_cons (pe_op op_add (pv 1) pe_int) pa_nil)) pe_int) (fun _ _ => rfl))))
      (pss_cons (ps_set (i := 5) sc_law_spread.nd rfl (.inl rfl) (pe_op op_mod (pe_callTy call_int1 (by rfl) B.int_ (by decide +kernel) (pa_cons (pe_op op_pow (pe_op op_add (pe_op op_add (pv 4) (pe_op op_mod (pe_callTy call_int1 (by rfl) B.int_ (by decide +kernel) (pa_cons (pv 3) pa_nil)) pe_int)) (pv 1)) pe_int) pa_nil)) (pe_ix (ixL K) (pv 2) (pe_op op_mod (pe_callTy call_int1 (by rfl) B.int_ (by decide +kernel) (pa_cons (pe_op op_add (pv 1) pe_int) pa_nil)) pe_int) (fun _ _ => rfl))))
      (pss_one (ps_ret (pe_op op_add (pe_op op_mul (pe_op op_add (pe_op op_mul (pv 3) pe_int) (pv 4)) pe_int) (pv 5))))))))))), ?_⟩
    refine ⟨_, rfl, 10, 18, rfl, rfl, ⟨by decide, by decide, by decide⟩, cell, _, rfl, rfl, _, rfl, ite2 (fun e => ?_) (fun e => ?_)⟩
    · have hc : (0 : Int) ≤ cell := Int.le_trans (by decide : (0 : Int) ≤ 10 ^ (18 : Int).toNat) (dT e)
      exact ⟨_, rfl, q H cell (Same.refl H) hc⟩
    -- primes
    refine ⟨by show 8 ≤ sizeLine; decide, fun l hl => ?_⟩
    refine ⟨_, rfl, by show 5 ≤ sizeLine; decide, fun l2 hl2 => ?_⟩
    have hne : l ≠ l2 := fun z => by
      rw [← z, upd_same] at hl2
      cases hl2
    refine ⟨l, l2, _, _, rfl, rfl, (upd_ne hne).trans upd_same, upd_same, by show 13 ≤ sizeLine; decide, fun l3 hl3 => ?_⟩
    -- one
    generalize hH : upd (upd (upd H l _) l2 _) l3 _ = H3
    have s3 : Same H H3 := by
      rw [← hH]
      exact (Same.new hl).trans ((Same.new hl2).trans (Same.new hl3))
    have hp : H3 l3 = some (.lst (primes.map V.int)) := by
      rw [← hH]
      exact upd_same
    clear hH hl hl2 hl3 hne
    have a0 : 0 ≤ cell % 1000000007 := Int.emod_nonneg _ (by decide)
    have a1 : cell % 1000000007 < 1000000007 := Int.emod_lt_of_pos _ (by decide)
    have b0 : 0 ≤ cell % 65537 := Int.emod_nonneg _ (by decide)
    have b1 : cell % 65537 < 65537 := Int.emod_lt_of_pos _ (by decide)
    obtain ⟨m0, m1⟩ := mul_bd (B := 2069069) a0 (Int.le_of_lt a1) (show 0 ≤ 2 * i + 69069 by omega) (by omega)
    refine ⟨_, rfl, .inl ⟨cell, rfl, ?_⟩⟩
    refine ⟨_, 1000000007, rfl, rfl, by show (0 : Int) < _; decide, ?_⟩
    refine ⟨_, rfl, 2, i, rfl, rfl, .inl ⟨by decide, by decide⟩, ?_⟩
    refine ⟨2 * i, 69069, rfl, rfl, ?_⟩
    refine ⟨_, _, rfl, rfl, .inl ⟨by omega, by omega⟩, ?_⟩
    refine ⟨_, rfl, i, 40503, rfl, rfl, .inr ⟨by decide, by decide⟩, ?_⟩
    refine ⟨_, _, rfl, rfl, _, 977, rfl, rfl, ?_⟩
    dsimp only
    generalize ho : cell % 1000000007 * (2 * i + 69069) + i * 40503 + 977 = one
    have o0 : 0 ≤ one := by omega
    have o1 : one < 18446744073709551616 := by omega
    -- one = int(one ** 3) % primes[at % 13]
    refine ⟨_, rfl, one, 3, rfl, rfl, ⟨by decide, by decide, by omega⟩, .inl ⟨_, rfl, ?_⟩⟩
    obtain ⟨p1, e1, e10, e11⟩ := prime_at (Int.emod_nonneg i (by decide : (13 : Int) ≠ 0)) (Int.emod_lt_of_pos i (by decide))
    refine ⟨_, rfl, _, rfl, .inl ⟨i, rfl, _, 13, rfl, rfl, by show (0 : Int) < _; decide, l3, _, _, _, rfl, rfl, SqL.of hp, e1, ?_⟩⟩
    refine ⟨_, _, rfl, rfl, e10, ?_⟩
    dsimp only
    generalize ho1 : one ^ (3 : Int).toNat % p1 = one1
    have c0 : 0 ≤ one1 := ho1 ▸ Int.emod_nonneg _ (by omega)
    have c1 : one1 < p1 := ho1 ▸ Int.emod_lt_of_pos _ e10
    -- two
    obtain ⟨n0, n1⟩ := mul_bd (B := 1000003) c0 (show one1 ≤ 2147483648 by omega) (show 0 ≤ i + 3 by omega) (by omega)
    refine ⟨_, rfl, _, rfl, i, 3, rfl, rfl, _, _, rfl, rfl, .inl ⟨by omega, by omega⟩, ?_⟩
    refine ⟨_, rfl, .inl ⟨cell, rfl, _, 65537, rfl, rfl, by show (0 : Int) < _; decide, _, _, rfl, rfl, _, 5, rfl, rfl, ?_⟩⟩
    refine ⟨_, 5, rfl, rfl, ⟨by decide, by decide, by omega⟩, .inl ⟨_, rfl, ?_⟩⟩
    obtain ⟨p2, e2, e20, e21⟩ := prime_at (Int.emod_nonneg (i + 5) (by decide : (13 : Int) ≠ 0)) (Int.emod_lt_of_pos (i + 5) (by decide))
    refine ⟨_, rfl, _, rfl, i, 5, rfl, rfl, .inl ⟨i + 5, rfl, _, 13, rfl, rfl, by show (0 : Int) < _; decide, l3, _, _, _, rfl, rfl, SqL.of hp, e2, ?_⟩⟩
    refine ⟨_, _, rfl, rfl, e20, ?_⟩
    dsimp only
    generalize ho2 : (one1 * (i + 3) + cell % 65537 + 5) ^ (5 : Int).toNat % p2 = two
    have d0 : 0 ≤ two := ho2 ▸ Int.emod_nonneg _ (by omega)
    have d1 : two < p2 := ho2 ▸ Int.emod_lt_of_pos _ e20
    -- three
    have f0 : 0 ≤ one1 % 1009 := Int.emod_nonneg _ (by decide)
    have f1 : one1 % 1009 < 1009 := Int.emod_lt_of_pos _ (by decide)
    refine ⟨_, rfl, _, rfl, .inl ⟨one1, rfl, _, 1009, rfl, rfl, by show (0 : Int) < _; decide, _, _, rfl, rfl, _, rfl, _, i, rfl, rfl, ?_⟩⟩
    refine ⟨_, 3, rfl, rfl, ⟨by decide, by decide, by omega⟩, .inl ⟨_, rfl, ?_⟩⟩
    obtain ⟨p3, e3, e30, e31⟩ := prime_at (Int.emod_nonneg (i + 7) (by decide : (13 : Int) ≠ 0)) (Int.emod_lt_of_pos (i + 7) (by decide))
    refine ⟨_, rfl, _, rfl, i, 7, rfl, rfl, .inl ⟨i + 7, rfl, _, 13, rfl, rfl, by show (0 : Int) < _; decide, l3, _, _, _, rfl, rfl, SqL.of hp, e3, ?_⟩⟩
    refine ⟨_, _, rfl, rfl, e30, ?_⟩
    dsimp only
    generalize ho3 : (two + one1 % 1009 + i) ^ (3 : Int).toNat % p3 = three
    have g0 : 0 ≤ three := ho3 ▸ Int.emod_nonneg _ (by omega)
    -- return
    refine ⟨_, rfl, one1, 2147483647, rfl, rfl, .inr ⟨by decide, by decide⟩, ?_⟩
    refine ⟨_, rfl, one1 * 2147483647, two, rfl, rfl, ?_⟩
    refine ⟨_, 2147483647, rfl, rfl, .inr ⟨by decide, by decide⟩, ?_⟩
    refine ⟨_, rfl, _, three, rfl, rfl, ?_⟩
    exact q _ _ s3 (by omega)
theorem ok_take {f : Addr} {fd : FuncData} {k : Nat} (F : Fun K "_law_take" "_law_take" s_law_take f fd) (B : Bn mg) (D_law_spread : Own P w K mg base "_law_spread" k ["cell", "at"] spSpread) : FnOk P w K mg base CX0 (k + 1) f fd ["pen", "amount"] spTake := by
  refine F.ok sc_law_take (fun vs H Q E h => ?_) (fun cdv A outer s H vs Q E hr h => ?_)
  · obtain ⟨p, c, m, n, rfl, _⟩ := h
    rfl
  · obtain ⟨p, c, m, n, rfl, pen, hn, m0, m1, q⟩ := h
    refine ⟨_, (C8.pss_cut (ps_if (pt_cmpR op_lt (pe_ix (ixL K) (pv 0) pe_int (fun _ _ => rfl)) (pv 1) (nomark _)) (pss_cons (ps_set (i := 2) sc_law_take.nd rfl (.inl rfl) (pe_ix (ixL K) (pv 0) pe_int (fun _ _ => rfl)))
      (pss_cons (ps_set (i := 3) sc_law_take.nd rfl (.inl rfl) pe_int)
      (C8.pss_cut (ps_if (pt_cmpR op_lt (pv 2) (pe_callB (lenQ K) (by rfl) B.len (by decide +kernel) (pa_cons (pe_ix (ixL K) (pv 0) pe_int (fun _ _ => rfl)) pa_nil)) (nomark _)) (pss_one (ps_set (i := 3) sc_law_take.nd rfl (.inl rfl) (pe_ix (ixL K) (pe_ix (ixL K) (pv 0) pe_int (fun _ _ => rfl)) (pv 2) (fun _ _ => rfl)))) (pss_one (ps_if (pt_cmpR op_gt (pe_callB (lenQ K) (by rfl) B.len (by decide +kernel) (pa_cons (pe_ix (ixL K) (pv 0) pe_int (fun _ _ => rfl)) pa_nil)) pe_int (nomark _)) (pss_one (ps_set (i := 3) sc_law_take.nd rfl (.inl rfl) (pe_op op_mod (pe_callTy call_int1 (by rfl) B.int_ (by decide +kernel) (pa_cons (pe_ix (ixL K) (pe_ix (ixL K) (pv 0) pe_int (fun _ _ => rfl)) (pe_op op_mod (pe_callTy call_int1 (by rfl) B.int_ (by decide +kernel) (pa_cons (pe_op op_add (pe_op op_mul (pv 2) pe_int) pe_int) pa_nil)) (pe_callB (lenQ K) (by rfl) B.len (by decide +kernel) (pa_cons (pe_ix (ixL K) (pv 0) pe_int (fun _ _ => rfl)) pa_nil))) (fun _ _ => rfl)) pa_nil)) (pe_op op_add (pe_op op_pow pe_int pe_int) (pv 2))))) pss_nil)))
      (pss_cons (ps_asg (pe_op op_add (pv 2) pe_int) (pg_sub (pv 0) pe_int set_list))
      (pss_one (ps_asg (pe_own D_law_spread hr (by rfl) (pa_cons (pv 3) (pa_cons (pv 2) pa_nil))) (pg_sub (pv 0) pe_int set_list))))))) pss_nil)
      (pss_cons (ps_set (i := 4) sc_law_take.nd rfl (.inl rfl) (pe_op op_mod (pe_callTy call_int1 (by rfl) B.int_ (by decide +kernel) (pa_cons (pe_ix (ixL K) (pv 0) pe_int (fun _ _ => rfl)) pa_nil)) (pv 1)))
      (pss_cons (ps_asg (pe_op op_fdiv (pe_ix (ixL K) (pv 0) pe_int (fun _ _ => rfl)) (pv 1)) (pg_sub (pv 0) pe_int set_list))
      (pss_one (ps_ret (pv 4)))))), ?_⟩
    obtain ⟨cs, i, left, hp, hc, hcs, i0, i1, l0⟩ := pen
    have hpc : c ≠ p := ne_of hc hp (by
      intro z
      injection z with z
      cases cs with
      | nil => cases z
      | cons a r => cases z)
    -- what the rest asks: the pen with some number left
    refine ⟨fun σ H1 => ∃ (x2 x3 x4 : Option V) (j l : Int), σ = [some (.ref p), some (.int m), x2, x3, x4] ∧ H1 p = some (.lst [.ref c, .int j, .int l]) ∧ H1 c = some (.lst (cs.map V.int)) ∧ 0 ≤ j ∧ j ≤ n + 1 ∧ 0 ≤ l ∧ Same (wo p H) (wo p H1), ?_, ?_⟩
    · -- if pen[2] < amount
      refine ⟨_, rfl, p, _, 2, _, rfl, rfl, SqL.of hp, rfl, ?_⟩
      refine ⟨_, rfl, left, m, rfl, rfl, _, rfl, ite2 (fun e => ?_) (fun e => ?_)⟩
      · -- at = pen[1]; cell = 0
        refine ⟨_, rfl, p, _, 1, _, rfl, rfl, SqL.of hp, rfl, ?_⟩
        show (∃ Mid, _)
        refine ⟨fun σ H1 => ∃ (cell : Int), σ = [some (.ref p), some (.int m), some (.int i), some (.int cell), none] ∧ H1 = H, ?_, ?_⟩
        · -- if at < len(pen[0])
          refine ⟨_, rfl, _, rfl, p, _, 0, _, rfl, rfl, SqL.of hp, rfl, c, _, rfl, .inl (SqL.of hc), ?_⟩
          refine ⟨i, _, rfl, rfl, _, rfl, ite2 (fun e2 => ?_) (fun e2 => ?_)⟩
          · have h1 : i < ((cs.map V.int).length : Nat) := dT e2
            rw [List.length_map] at h1
            obtain ⟨z, _, hz⟩ := at_int i0 h1
            exact ⟨_, rfl, p, _, 0, _, rfl, rfl, SqL.of hp, rfl, _, rfl, c, _, i, .int z, rfl, rfl, SqL.of hc, hz, _, rfl, rfl⟩
          · refine ⟨_, rfl, p, _, 0, _, rfl, rfl, SqL.of hp, rfl, c, _, rfl, .inl (SqL.of hc), ?_⟩
            refine ⟨_, 0, rfl, rfl, _, rfl, ite2 (fun e3 => ?_) (fun e3 => ?_)⟩
            · have h3 : (0 : Int) < ((cs.map V.int).length : Nat) := dT e3
              rw [List.length_map] at h3
              have k0 : 0 ≤ (i * 5 + 3) % (cs.length : Int) := Int.emod_nonneg _ (by omega)
              have k1 : (i * 5 + 3) % (cs.length : Int) < cs.length := Int.emod_lt_of_pos _ h3
              -- cell = int(pen[0][int(at * 5 + 3) % len(pen[0])]) % (10 ** 17 + at)
              refine ⟨_, rfl, p, _, 0, _, rfl, rfl, SqL.of hp, rfl, ?_⟩
              refine ⟨_, rfl, i, 5, rfl, rfl, .inr ⟨by decide, by decide⟩, _, 3, rfl, rfl, .inl ⟨_, rfl, ?_⟩⟩
              refine ⟨_, rfl, p, _, 0, _, rfl, rfl, SqL.of hp, rfl, c, _, rfl, .inl (SqL.of hc), ?_⟩
              refine ⟨_, _, rfl, rfl, (by rw [List.length_map]; exact h3), ?_⟩
              dsimp only
              rw [List.length_map]
              obtain ⟨z, _, hz⟩ := at_int k0 k1
              refine ⟨c, _, _, .int z, rfl, rfl, SqL.of hc, hz, .inl ⟨_, rfl, ?_⟩⟩
              · refine ⟨10, 17, rfl, rfl, ⟨by decide, by decide, by decide⟩, _, rfl, _, i, rfl, rfl, _, _, rfl, rfl, ?_, _, rfl, rfl⟩
                have : (0 : Int) < 10 ^ (17 : Int).toNat := by decide
                show (0 : Int) < 10 ^ (17 : Int).toNat + i
                omega
            · exact ⟨0, rfl, rfl⟩
        · rintro σ1 H1 ⟨cell, rfl, rfl⟩
          -- pen[1] = at + 1
          refine ⟨_, rfl, i, 1, rfl, rfl, _, rfl, p, _, 1, 1, rfl, rfl, hp, rfl, ?_⟩
          -- pen[2] = _law_spread(cell, at)
          refine ⟨_, rfl, _, rfl, cell, i, rfl, i0, by omega, fun H2 r s2 r0 => ?_⟩
          have hp2 := s2 _ _ (upd_same (H := H1) (a := p) (o := .lst [.ref c, .int (i + 1), .int left]))
          refine ⟨_, rfl, p, _, 2, 2, rfl, rfl, hp2, rfl, ?_⟩
          refine ⟨_, _, _, i + 1, r, rfl, upd_same, ?_, by omega, by omega, r0, ?_⟩
          · rw [upd_ne hpc]
            exact s2 _ _ ((upd_ne hpc).trans hc)
          · exact (My.Same.put).trans ((My.Same.wo s2).trans My.Same.put)
      · exact ⟨_, _, _, i, left, rfl, hp, hc, i0, by omega, l0, Same.refl _⟩
    · rintro σ1 H1 ⟨x2, x3, x4, j, l, rfl, hp1, hc1, j0, j1, l0', sm⟩
      -- found = int(pen[2]) % amount
      refine ⟨_, rfl, p, _, 2, _, rfl, rfl, SqL.of hp1, rfl, .inl ⟨_, rfl, _, rfl, l, m, rfl, rfl, by show (0 : Int) < m; omega, ?_⟩⟩
      -- pen[2] = pen[2] // amount
      refine ⟨_, rfl, p, _, 2, _, rfl, rfl, SqL.of hp1, rfl, _, rfl, l, m, rfl, rfl, ⟨by show (0 : Int) < m; omega, by show m < 1073741824; omega⟩, ?_⟩
      refine ⟨_, rfl, p, _, 2, 2, rfl, rfl, hp1, rfl, ?_⟩
      refine ⟨_, rfl, q _ _ (Int.emod_nonneg _ (by omega)) (Int.emod_lt_of_pos _ (by omega)) ?_ (sm.trans My.Same.put)⟩
      refine ⟨cs, j, l / m, upd_same, (upd_ne hpc).trans hc1, hcs, j0, by omega, Int.ediv_nonneg l0' (by omega)⟩
theorem ok_open {f : Addr} {fd : FuncData} {k : Nat} (F : Fun K "_law_open" "_law_open" s_law_open f fd) (B : Bn mg) : FnOk P w K mg base CX0 (k + 1) f fd ["script"] (spOpen K) := by
  refine F.ok sc_law_open (fun vs H Q E h => ?_) (fun cdv A outer s H vs Q E hr h => ?_)
  · obtain ⟨p, m, rfl, _⟩ := h
    rfl
  · obtain ⟨a, ns, rfl, hS, hn, q⟩ := h
    refine ⟨_, (pss_cons (ps_set (i := 1) sc_law_open.nd rfl (.inl rfl) (pe_callTy (listOf K) (by rfl) B.list_ (by decide +kernel) (pa_cons (pe_slice (slL K) (pv 0) po_none (po_some pe_int)) pa_nil)))
      (pss_cons (ps_for PassesOwn.never rfl (pi_enumK K (by rfl) B.enumerate (pa_cons (pe_slice (slL K) (pv 0) (po_some pe_int) (po_some pe_int)) pa_nil)) (pg_tupK K 2 (by rfl) (pgs_cons (pg_name (i := 2) sc_law_open.nd rfl (.inl rfl)) (pgs_cons (pg_name (i := 3) sc_law_open.nd rfl (.inl rfl)) pgs_nil))) (pss_one (ps_asg (pe_op op_add (pe_ix (ixL K) (pv 1) (pe_op op_mod (pe_callTy call_int1 (by rfl) B.int_ (by decide +kernel) (pa_cons (pv 2) pa_nil)) pe_int) (fun _ _ => rfl)) (pv 3)) (pg_sub (pv 1) (pe_op op_mod (pe_callTy call_int1 (by rfl) B.int_ (by decide +kernel) (pa_cons (pv 2) pa_nil)) pe_int) set_list))))
      (pss_one (ps_ret (pe_lst (pa_cons (pv 1) (pa_cons pe_int (pa_cons pe_int pa_nil)))))))), ?_⟩
    -- cells = list(script[:12])
    refine ⟨_, rfl, 12, rfl, a, _, rfl, hS, fun c1 n1 => ?_⟩
    refine ⟨c1, _, rfl, .inl (SqL.of upd_same), fun c n2 => ?_⟩
    -- enumerate(script[12:63])
    have s1 : Same H (upd (upd H c1 (.lst (cutV (ns.map V.int) none (some 12)))) c (.lst (cutV (ns.map V.int) none (some 12)))) := (My.Same.new n1).trans (My.Same.new n2)
    refine ⟨_, rfl, 12, rfl, 63, rfl, a, _, rfl, s1.seq hS, fun d n3 => ?_⟩
    have hcut : ∀ lo hi, ∃ cs : List Int, cutV (ns.map V.int) lo hi = cs.map V.int := fun lo hi => by
      unfold cutV
      exact ⟨(ns.drop _).take _, by rw [List.map_take, List.map_drop]⟩
    obtain ⟨cs, ecs⟩ := hcut none (some 12)
    have hlen : cs.length = min 12 ns.length := by
      have := congrArg List.length ecs
      rw [List.length_map] at this
      rw [← this]
      unfold cutV
      rw [List.length_take, List.length_drop, List.length_map, HT.sIx_none]
      rw [show HT.sIx ns.length ns.length (some 12) = min 12 ns.length from HT.sIx_nat ns.length ns.length 12]
      omega
    have hdl : (cutV (ns.map V.int) (some 12) (some 63)).length = ns.length - 12 := by
      unfold cutV
      rw [List.length_take, List.length_drop, List.length_map]
      rw [show HT.sIx ns.length ns.length (some 63) = min 63 ns.length from HT.sIx_nat ns.length ns.length 63, show HT.sIx ns.length 0 (some 12) = min 12 ns.length from HT.sIx_nat ns.length 0 12]
      omega
    obtain ⟨ds, eds⟩ := hcut (some 12) (some 63)
    rw [eds] at hdl
    rw [List.length_map] at hdl
    have n3' := n3
    rw [ecs] at n3'
    have hcd : c ≠ d := fun z => by
      rw [← z, upd_same] at n3
      cases n3
    refine ⟨d, ds.map V.int, rfl, SqL.of (by rw [upd_same, eds]), ?_⟩
    refine for_enumL (xs := ds.map V.int) (fun i σ H1 => ∃ (x2 x3 : Option V) (zs : List Int), σ = [some (.ref a), some (.ref c), x2, x3] ∧ H1 c = some (.lst (zs.map V.int)) ∧ zs.length = cs.length ∧ H1 d = some (.lst (ds.map V.int)) ∧ Same H H1) ?_ ?_ ?_ ?_
    · refine ⟨none, none, cs, rfl, ?_, rfl, by rw [upd_same, eds], s1.trans (My.Same.new n3)⟩
      rw [upd_ne hcd, upd_same, ecs]
    · rintro i σ H1 hi ⟨x2, x3, zs, _, _, _, hd, _⟩
      exact SqL.of hd
    · rintro i x T σ H1 hx ⟨x2, x3, zs, rfl, hc, hz, hd, sm⟩ hT
      have hi : i < ds.length := by
        have := (List.getElem?_eq_some_iff.mp hx).1
        rwa [List.length_map] at this
      have h12 : cs.length = 12 := by omega
      obtain ⟨y, hy⟩ : ∃ y, x = .int y := by
        rw [List.getElem?_map] at hx
        cases e : ds[i]? with
        | none => rw [e] at hx; cases hx
        | some y => rw [e] at hx; exact ⟨y, (Option.some.inj hx).symm⟩
      subst hy
      have sT : Same H1 (upd H1 T (.tup [.int (i : Nat), .int y])) := My.Same.new hT
      have hc2 := sT _ _ hc
      have k0 : 0 ≤ ((i : Nat) : Int) % 12 := Int.emod_nonneg _ (by decide)
      have k1 : ((i : Nat) : Int) % 12 < 12 := Int.emod_lt_of_pos _ (by decide)
      obtain ⟨z, hz1, hz2⟩ := at_int (cs := zs) k0 (by omega)
      refine ⟨T, _, rfl, SqT.of upd_same, rfl, _, _, rfl, _, _, rfl, rfl, ?_⟩
      -- cells[int(k) % 12] + cell
      refine ⟨_, rfl, _, rfl, .inl ⟨_, rfl, _, 12, rfl, rfl, by show (0 : Int) < _; decide, c, _, _, _, rfl, rfl, SqL.of hc2, hz2, ?_⟩⟩
      refine ⟨_, rfl, z, y, rfl, rfl, ?_⟩
      refine ⟨_, rfl, _, rfl, .inl ⟨_, rfl, _, 12, rfl, rfl, by show (0 : Int) < _; decide, c, _, _, (((i : Nat) : Int) % 12).toNat, rfl, rfl, hc2, ?_, ?_⟩⟩
      · unfold ixN
        rw [List.length_map, if_pos k0, if_pos (by omega)]
      · refine ⟨_, _, zs.set (((i : Nat) : Int) % 12).toNat (z + y), rfl, ?_, ?_, ?_, ?_⟩
        · rw [upd_same, set_mapI]
        · rw [List.length_set, hz]
        · rw [upd_ne hcd.symm]
          exact sT _ _ hd
        · intro b o e
          have hb : b ≠ c := ne_of_none e ((My.Same.new n1).free n2)
          rw [upd_ne hb]
          exact sT _ _ (sm _ _ e)
    · rintro σ H1 ⟨x2, x3, zs, rfl, hc, hz, hd, sm⟩
      refine ⟨_, rfl, by show 3 ≤ sizeLine; decide, fun p hp => ?_⟩
      refine q _ p c (sm.trans (My.Same.new hp)) (sm.free hp) ⟨zs, 0, 0, upd_same, ?_, by omega, Int.le_refl 0, Int.le_refl 0, Int.le_refl 0⟩
      rw [upd_ne (ne_of_none hc hp)]
      exact hc
end
end K03

set_option Elab.async false
set_option linter.all false
set_option maxRecDepth 100000
set_option maxHeartbeats 4000000
namespace K03
open PySem PySem.Spec PyProof.Rows L2 My
abbrev s_is_whole : Stmt := topS 1
theorem sc_is_whole : FnScope ["value"] ["value"] (defScope s_is_whole) := ⟨rfl, rfl, rfl, by decide +kernel, rfl, by decide +kernel, by decide +kernel⟩
abbrev s_is_place : Stmt := topS 2
theorem sc_is_place : FnScope ["n", "value"] ["n", "value"] (defScope s_is_place) := ⟨rfl, rfl, rfl, by decide +kernel, rfl, by decide +kernel, by decide +kernel⟩
section
variable {P : Program} {w : World} {K : PySem.W.Frag} {mg : Str → Option Value} {base : Heap}
theorem ok_is_whole {f : Addr} {fd : FuncData} {m : Nat} (F : Fun K "is_whole" "is_whole" s_is_whole f fd) (B : Bn mg) : FnOk P w K mg base CX0 (m + 1) f fd ["value"] (spWhole K) := by
  refine F.ok sc_is_whole (fun vs H Q E h => ?_) (fun cdv A outer s H vs Q E hr h => ?_)
  · obtain ⟨v, d, rfl, _⟩ := h
    rfl
  · obtain ⟨v, d, rfl, hd, q⟩ := h
    refine ⟨_, (pss_one (ps_ret (pe_and (pe_callB (isi K) (by rfl) B.isinstance (by decide +kernel) (pa_cons (pv 0) (pa_cons (pe_bltn (v := .ty "int") (by rfl) B.int_ (by decide +kernel) rfl) pa_nil))) (pe_one (pe_not (pe_callB (isi K) (by rfl) B.isinstance (by decide +kernel) (pa_cons (pv 0) (pa_cons (pe_bltn (v := .ty "bool") (by rfl) B.bool_ (by decide +kernel) rfl) pa_nil)))))))), ?_⟩
    rw [wholeD_kd] at q
    refine isiV .int rfl hd.knd ⟨_, rfl, ?_⟩
    cases h1 : (kd d).is .int with
    | false =>
      rw [h1] at q
      exact iteF (q H (Same.refl H))
    | true =>
      rw [h1] at q
      refine iteT ?_
      refine isiV .bl rfl hd.knd ⟨_, rfl, q H (Same.refl H)⟩
theorem ok_is_place {f : Addr} {fd : FuncData} {m : Nat} (F : Fun K "is_place" "is_place" s_is_place f fd) (B : Bn mg) (D_is_whole : Own P w K mg base "is_whole" m ["value"] (spWhole K)) : FnOk P w K mg base CX0 (m + 1) f fd ["n", "value"] (spPlace K) := by
  refine F.ok sc_is_place (fun vs H Q E h => ?_) (fun cdv A outer s H vs Q E hr h => ?_)
  · obtain ⟨n, v, d, rfl, _⟩ := h
    rfl
  · obtain ⟨n, v, d, rfl, hd, q⟩ := h
    refine ⟨_, (pss_one (ps_ret (pe_and (pe_own D_is_whole hr (by rfl) (pa_cons (pv 1) pa_nil)) (pe_one (pe_chain op_le op_lt pe_int (pv 1) (pv 0)))))), ?_⟩
    refine ⟨_, rfl, v, d, rfl, hd, fun H1 s1 => ⟨_, rfl, ?_⟩⟩
    cases hw : wholeD d with
    | false =>
      rw [placeD_whole hw] at q
      exact iteF (q H1 s1)
    | true =>
      obtain ⟨i, rfl⟩ := wholeD_int hw
      cases hd
      refine iteT ⟨_, rfl, 0, i, rfl, rfl, _, rfl, ?_⟩
      by_cases h0 : (0 : Int) ≤ i
      · rw [if_pos (decide_eq_true h0)]
        refine ⟨_, rfl, i, n, rfl, rfl, ?_⟩
        have q' := q H1 s1
        simp only [placeD, decide_eq_true h0, Bool.true_and] at q'
        exact q'
      · rw [if_neg (fun z => h0 (of_decide_eq_true z))]
        have q' := q H1 s1
        simp only [placeD, decide_eq_false h0, Bool.false_and] at q'
        exact q'
end
end K03

set_option Elab.async false
set_option linter.all false
set_option maxRecDepth 100000
set_option maxHeartbeats 4000000
namespace K03
open PySem PySem.Spec PyProof.Rows L2 My
abbrev s_are_roots : Stmt := topS 5
theorem sc_are_roots : FnScope ["n", "value", "root"] ["n", "value"] (defScope s_are_roots) := ⟨rfl, rfl, rfl, by decide +kernel, rfl, by decide +kernel, by decide +kernel⟩
abbrev s_are_sizes : Stmt := topS 6
theorem sc_are_sizes : FnScope ["n", "k", "value", "size"] ["n", "k", "value"] (defScope s_are_sizes) := ⟨rfl, rfl, rfl, by decide +kernel, rfl, by decide +kernel, by decide +kernel⟩
abbrev s_is_deal : Stmt := topS 4
theorem sc_is_deal : FnScope ["web", "value", "roots", "sizes"] ["web", "value"] (defScope s_is_deal) := ⟨rfl, rfl, rfl, by decide +kernel, rfl, by decide +kernel, by decide +kernel⟩
section
variable {P : Program} {w : World} {K : PySem.W.Frag} {mg : Str → Option Value} {base : Heap}
theorem ok_are_roots {f : Addr} {fd : FuncData} {m : Nat} (F : Fun K "_are_roots" "_are_roots" s_are_roots f fd) (B : Bn mg) (D_is_place : Own P w K mg base "is_place" m ["n", "value"] (spPlace K)) : FnOk P w K mg base CX0 (m + 1) f fd ["n", "value"] (spRoots K) := by
  refine F.ok sc_are_roots (fun vs H Q E h => ?_) (fun cdv A outer s H vs Q E hr h => ?_)
  · obtain ⟨n, v, d, W, D, rfl, _⟩ := h
    rfl
  · obtain ⟨n, v, d, W, D, rfl, hd, sm, hW, q⟩ := h
    refine ⟨_, (pss_cons (ps_if ((pw_or (pt_not (pt_val (pe_callB (isi K) (by rfl) B.isinstance (by decide +kernel) (pa_cons (pv 1) (pa_cons (pe_bltn (v := .ty "tuple") (by rfl) B.tuple_ (by decide +kernel) rfl) pa_nil))))) (pw_or1 (pt_cmpR op_eq (pe_callB (lenQ K) (by rfl) B.len (by decide +kernel) (pa_cons (pv 1) pa_nil)) pe_int (nomark _))))).pt (pss_one (ps_ret pe_bl)) pss_nil)
      (pss_one (ps_ret (pe_and (pe_callB (allL K rfl) (by rfl) B.all (by decide +kernel) (pa_cons (pe_lc (own := [("root", 2)]) (by rfl) sc_are_roots.nd (pi_tupK K (pv 1)) (blkOk_by (own := [("root", 2)]) (N := ["n", "value", "root"]) (sc := (defScope s_are_roots)) (by decide +kernel)) (fun _ _ _ _ _ => (pg_name (i := 2) sc_are_roots.nd rfl (.inl rfl))) (fun _ _ _ _ _ => pts_nil) (fun _ _ _ _ _ => (pe_own D_is_place hr (by rfl) (pa_cons (pv 0) (pa_cons (pv 2) pa_nil))))) pa_nil)) (pe_one (pe_cmpR op_eq (pe_lenSetT K (by rfl) B.len (by rfl) B.set (pa_cons (pv 1) pa_nil)) (pe_callB (lenQ K) (by rfl) B.len (by decide +kernel) (pa_cons (pv 1) pa_nil)) (nomark _))))))), ?_⟩
    by_cases hk : ∃ ds, d = .tuple ds
    · obtain ⟨ds, rfl⟩ := hk
      obtain ⟨t, xs, rfl, hT, hxs⟩ := hd.un_tup
      have hl := Nat.le_trans sm.lenW hW
      have hlen := hxs.len
      refine isiV .tup rfl (sqt_knd hT) ⟨_, rfl, iteF ?_⟩
      refine ⟨_, rfl, t, xs, rfl, .inr hT, rfl, _, rfl, ?_⟩
      rw [hlen]
      by_cases h0 : ds.length = 0
      · rw [decide_eq_true (show V.int (ds.length : Int) = V.int 0 by rw [h0]; rfl)]
        have q' := q H (Same.refl H)
        simp only [rootsD, h0, ne_eq, not_true_eq_false, decide_false, Bool.false_and] at q'
        exact iteT q'
      · rw [decide_eq_false (show ¬ V.int (ds.length : Int) = V.int 0 from fun z => h0 (by have := V.int.inj z; omega))]
        simp only [rootsD, h0, ne_eq, not_false_eq_true, decide_true, Bool.true_and] at q
        refine iteF ?_
        refine ⟨_, rfl, t, rfl, ⟨xs, hT⟩, fun D hD => ?_⟩
        refine lc_tup (xs := xs) (BsAt H D (ds.map (placeD n))) (BsAt.start hD) (fun i H3 _ h => My.Same.sqt h.1 hT) ?_ ?_
        · rintro i x H3 ex hB
          obtain ⟨d, e1, p1⟩ := hxs.get ex
          refine ⟨rfl, ?_⟩
          refine ⟨_, rfl, _, rfl, n, x, d, rfl, Dq.same hB.1 p1, fun H4 s4 => ?_⟩
          exact hB.next hD s4 (map_get e1) (by rw [List.length_map]; omega)
        · rintro H3 hB
          refine ⟨D, ds.map (placeD n), rfl, SqL.of (hB.all (by rw [List.length_map]; omega)), _, rfl, ?_⟩
          rw [all_map]
          cases c : ds.all (placeD n) with
          | false =>
            simp only [c, Bool.false_and] at q
            exact iteF (q H3 hB.1)
          | true =>
            simp only [c, Bool.true_and] at q
            have hi := placeD_ints c
            have ex := hxs.intsOf hi
            have hT3 := My.Same.sqt hB.1 hT
            rw [ex] at hT3
            refine iteT ?_
            refine ⟨_, rfl, t, _, rfl, hT3, by rw [intsOf_len hi]; exact hl, fun cc hcc => ?_⟩
            refine ⟨_, rfl, t, _, rfl, .inr hT3, rfl, ?_⟩
            show Q (.bl (decide (V.int (cc : Int) = V.int (((intsOf ds).map V.int).length : Int)))) H3
            rw [dInt_iff (p := (intsOf ds).Nodup) (by rw [List.length_map, ← hcc]; omega)]
            exact q H3 hB.1
    · refine isiV .tup rfl hd.knd ⟨_, rfl, ?_⟩
      cases d with
      | tuple ds => exact absurd ⟨ds, rfl⟩ hk
      | _ => exact iteT (q H (Same.refl H))
theorem ok_are_sizes {f : Addr} {fd : FuncData} {m : Nat} (F : Fun K "_are_sizes" "_are_sizes" s_are_sizes f fd) (B : Bn mg) (D_is_whole : Own P w K mg base "is_whole" m ["value"] (spWhole K)) : FnOk P w K mg base CX0 (m + 1) f fd ["n", "k", "value"] (spSizes K) := by
  refine F.ok sc_are_sizes (fun vs H Q E h => ?_) (fun cdv A outer s H vs Q E hr h => ?_)
  · obtain ⟨n, k, v, d, W, D, rfl, _⟩ := h
    rfl
  · obtain ⟨n, k, v, d, W, D, rfl, hd, sm, hW, q⟩ := h
    refine ⟨_, (pss_cons (ps_if ((pw_or (pt_not (pt_val (pe_callB (isi K) (by rfl) B.isinstance (by decide +kernel) (pa_cons (pv 2) (pa_cons (pe_bltn (v := .ty "tuple") (by rfl) B.tuple_ (by decide +kernel) rfl) pa_nil))))) (pw_or1 (pt_cmpR op_ne (pe_callB (lenQ K) (by rfl) B.len (by decide +kernel) (pa_cons (pv 2) pa_nil)) (pv 1) (nomark _))))).pt (pss_one (ps_ret pe_bl)) pss_nil)
      (pss_one (ps_ret (pe_and (pe_callB (allL K rfl) (by rfl) B.all (by decide +kernel) (pa_cons (pe_lc (own := [("size", 3)]) (by rfl) sc_are_sizes.nd (pi_tupK K (pv 2)) (blkOk_by (own := [("size", 3)]) (N := ["n", "k", "value", "size"]) (sc := (defScope s_are_sizes)) (by decide +kernel)) (fun _ _ _ _ _ => (pg_name (i := 3) sc_are_sizes.nd rfl (.inl rfl))) (fun _ _ _ _ _ => pts_nil) (fun _ _ _ _ _ => (pe_and (pe_own D_is_whole hr (by rfl) (pa_cons (pv 3) pa_nil)) (pe_one (pe_cmpR op_ge (pv 3) pe_int (nomark _)))))) pa_nil)) (pe_one (pe_cmpR op_eq (pe_callB (sumT K rfl) (by rfl) B.sum (by decide +kernel) (pa_cons (pv 2) pa_nil)) (pv 0) (nomark _))))))), ?_⟩
    by_cases hk : ∃ ds, d = .tuple ds
    · obtain ⟨ds, rfl⟩ := hk
      obtain ⟨t, xs, rfl, hT, hxs⟩ := hd.un_tup
      have hl := Nat.le_trans sm.lenW hW
      have hlen := hxs.len
      refine isiV .tup rfl (sqt_knd hT) ⟨_, rfl, iteF ?_⟩
      refine ⟨_, rfl, t, xs, rfl, .inr hT, _, rfl, rfl, _, rfl, ?_⟩
      rw [hlen]
      by_cases h0 : (ds.length : Int) = k
      · rw [decide_eq_true (show V.int (ds.length : Int) = V.int k by rw [h0])]
        simp only [sizesD, h0, decide_true, Bool.true_and] at q
        refine iteF ?_
        refine ⟨_, rfl, t, rfl, ⟨xs, hT⟩, fun D hD => ?_⟩
        refine lc_tup (xs := xs) (BsAt H D (ds.map posD)) (BsAt.start hD) (fun i H3 _ h => My.Same.sqt h.1 hT) ?_ ?_
        · rintro i x H3 ex hB
          obtain ⟨d, e1, p1⟩ := hxs.get ex
          have nx := fun (b : Bool) (hb : posD d = b) (H4 : Hp) (s4 : Same H3 H4) => hB.next (b := b) hD s4 (by rw [← hb]; exact map_get e1) (by rw [List.length_map]; omega)
          refine ⟨rfl, ?_⟩
          refine ⟨_, rfl, x, d, rfl, Dq.same hB.1 p1, fun H4 s4 => ⟨_, rfl, ?_⟩⟩
          cases hw : wholeD d with
          | false => exact iteF (nx false (posD_whole hw) H4 s4)
          | true =>
            obtain ⟨z, rfl⟩ := wholeD_int hw
            cases p1
            exact iteT ⟨_, rfl, z, 1, rfl, rfl, nx _ rfl H4 s4⟩
        · rintro H3 hB
          refine ⟨D, ds.map posD, rfl, SqL.of (hB.all (by rw [List.length_map]; omega)), _, rfl, ?_⟩
          rw [all_map]
          cases c : ds.all posD with
          | false =>
            simp only [c, Bool.false_and] at q
            exact iteF (q H3 hB.1)
          | true =>
            simp only [c, Bool.true_and] at q
            have hi := posD_ints c
            have ex := hxs.intsOf hi
            have hT3 := My.Same.sqt hB.1 hT
            rw [ex] at hT3
            refine iteT ?_
            refine ⟨_, rfl, t, _, rfl, hT3, _, rfl, rfl, ?_⟩
            show Q (.bl (decide (V.int (intsOf ds).sum = V.int n))) H3
            rw [dInt_iff (p := (intsOf ds).sum = n) Iff.rfl]
            exact q H3 hB.1
      · rw [decide_eq_false (show ¬ V.int (ds.length : Int) = V.int k from fun z => h0 (V.int.inj z))]
        have q' := q H (Same.refl H)
        simp only [sizesD, h0, decide_false, Bool.false_and] at q'
        exact iteT q'
    · refine isiV .tup rfl hd.knd ⟨_, rfl, ?_⟩
      cases d with
      | tuple ds => exact absurd ⟨ds, rfl⟩ hk
      | _ => exact iteT (q H (Same.refl H))
theorem ok_is_deal {f : Addr} {fd : FuncData} {m : Nat} (F : Fun K "is_deal" "is_deal" s_is_deal f fd) (B : Bn mg) (D_are_roots : Own P w K mg base "_are_roots" m ["n", "value"] (spRoots K)) (D_are_sizes : Own P w K mg base "_are_sizes" m ["n", "k", "value"] (spSizes K)) : FnOk P w K mg base CX0 (m + 1) f fd ["web", "value"] (spIsDeal K) := by
  refine F.ok sc_is_deal (fun vs H Q E h => ?_) (fun cdv A outer s H vs Q E hr h => ?_)
  · obtain ⟨u, v, n, e, d, W, D, rfl, _⟩ := h
    rfl
  · obtain ⟨u, v, n, e, d, W, D, rfl, hu, hd, sm, hW, q⟩ := h
    obtain ⟨wa, wx, rfl, hwT, hwx⟩ := hu.first
    refine ⟨_, (pss_cons (ps_if ((pw_or (pt_not (pt_val (pe_callB (isi K) (by rfl) B.isinstance (by decide +kernel) (pa_cons (pv 1) (pa_cons (pe_bltn (v := .ty "tuple") (by rfl) B.tuple_ (by decide +kernel) rfl) pa_nil))))) (pw_or1 (pt_cmpR op_ne (pe_callB (lenQ K) (by rfl) B.len (by decide +kernel) (pa_cons (pv 1) pa_nil)) pe_int (nomark _))))).pt (pss_one (ps_ret pe_bl)) pss_nil)
      (pss_cons (ps_asg (pv 1) (pg_tupK K 2 (by rfl) (pgs_cons (pg_name (i := 2) sc_is_deal.nd rfl (.inl rfl)) (pgs_cons (pg_name (i := 3) sc_is_deal.nd rfl (.inl rfl)) pgs_nil))))
      (pss_one (ps_ret (pe_and (pe_own D_are_roots hr (by rfl) (pa_cons (pe_ix (ixT K) (pv 0) pe_int (fun _ _ => rfl)) (pa_cons (pv 2) pa_nil))) (pe_one (pe_own D_are_sizes hr (by rfl) (pa_cons (pe_ix (ixT K) (pv 0) pe_int (fun _ _ => rfl)) (pa_cons (pe_callB (lenQ K) (by rfl) B.len (by decide +kernel) (pa_cons (pv 2) pa_nil)) (pa_cons (pv 3) pa_nil)))))))))), ?_⟩
    by_cases hk : ∃ d1 d2, d = .tuple [d1, d2]
    · obtain ⟨d1, d2, rfl⟩ := hk
      obtain ⟨t, xs, rfl, hT, hxs⟩ := hd.un_tup
      cases hxs with
      | cons h1 hxs =>
      cases hxs with
      | cons h2 hxs =>
      cases hxs
      refine isiV .tup rfl (sqt_knd hT) ⟨_, rfl, ?_⟩
      refine iteF ?_
      refine ⟨_, rfl, t, _, rfl, .inr hT, rfl, _, rfl, ?_⟩
      refine iteF ?_
      refine ⟨_, rfl, t, _, rfl, hT, rfl, _, _, rfl, _, _, rfl, rfl, ?_⟩
      refine ⟨_, rfl, wa, _, 0, _, rfl, rfl, hwT, rfl, _, rfl, n, _, d1, W, D, rfl, h1, sm.item (by simp), hW, fun H1 s1 => ⟨_, rfl, ?_⟩⟩
      have q := fun H2 (s2 : Same H1 H2) => q H2 (s1.trans s2)
      cases c : rootsD n d1 with
      | false =>
        have e : dealD n (.tuple [d1, d2]) = false := by
          cases d1 with
          | tuple rs => simp only [dealD, c, Bool.false_and]
          | _ => rfl
        rw [e] at q
        exact iteF (q H1 (Same.refl H1))
      | true =>
        cases d1 with
        | tuple rs =>
          obtain ⟨tr, ys, rfl, hT2, hys⟩ := (Dq.same s1 h1).un_tup
          simp only [dealD, c, Bool.true_and] at q
          refine iteT ?_
          refine ⟨_, rfl, wa, _, 0, _, rfl, rfl, My.Same.sqt s1 hwT, rfl, _, rfl, tr, ys, rfl, .inr hT2, _, rfl, n, (ys.length : Int), _, d2, W, D, rfl, Dq.same s1 h2, sm.item (by simp), hW, fun H2 s2 => ?_⟩
          rw [hys.len]
          exact q H2 s2
        | _ => cases c
    · have e : dealD n d = false := by
        cases d with
        | tuple ds =>
          match ds, hk with
          | [], _ => rfl
          | [d0], _ => cases d0 <;> rfl
          | [d1, d2], hk => exact absurd ⟨d1, d2, rfl⟩ hk
          | d0 :: d1 :: d2 :: ds, _ => cases d0 <;> rfl
        | _ => rfl
      have q' := fun H1 s1 => q H1 s1
      rw [e] at q'
      refine isiV .tup rfl hd.knd ⟨_, rfl, ?_⟩
      cases d with
      | tuple ds =>
        obtain ⟨t, xs, rfl, hT, hxs⟩ := hd.un_tup
        refine iteF ?_
        refine ⟨_, rfl, t, xs, rfl, .inr hT, rfl, _, rfl, ?_⟩
        have hne : ¬ decide (V.int (xs.length : Int) = V.int 2) = true := fun z => by
          have z := dInt z
          rw [hxs.len] at z
          refine hk ?_
          match ds, z with
          | [d1, d2], _ => exact ⟨d1, d2, rfl⟩
        rw [Bool.eq_false_iff.mpr hne]
        exact iteT (q' H (Same.refl H))
      | _ => exact iteT (q' H (Same.refl H))
end
end K03

set_option Elab.async false
set_option linter.all false
set_option maxRecDepth 100000
set_option maxHeartbeats 4000000
namespace K03
open PySem PySem.Spec PyProof.Rows L2 My
abbrev s_law_is_whole : Stmt := topS 15
theorem sc_law_is_whole : FnScope ["value"] ["value"] (defScope s_law_is_whole) := ⟨rfl, rfl, rfl, by decide +kernel, rfl, by decide +kernel, by decide +kernel⟩
abbrev s_law_is_deal : Stmt := topS 22
theorem sc_law_is_deal : FnScope ["web", "value", "roots", "sizes", "part", "place", "size"] ["web", "value"] (defScope s_law_is_deal) := ⟨rfl, rfl, rfl, by decide +kernel, rfl, by decide +kernel, by decide +kernel⟩
section
variable {P : Program} {w : World} {K : PySem.W.Frag} {mg : Str → Option Value} {base : Heap}
theorem ok_law_is_whole {f : Addr} {fd : FuncData} {m : Nat} (F : Fun K "_law_is_whole" "_law_is_whole" s_law_is_whole f fd) (B : Bn mg) : FnOk P w K mg base CX0 (m + 1) f fd ["value"] (spWhole K) := by
  refine F.ok sc_law_is_whole (fun vs H Q E h => ?_) (fun cdv A outer s H vs Q E hr h => ?_)
  · obtain ⟨v, d, rfl, _⟩ := h
    rfl
  · obtain ⟨v, d, rfl, hd, q⟩ := h
    refine ⟨_, (pss_one (ps_ret (pe_and (pe_callB (isi K) (by rfl) B.isinstance (by decide +kernel) (pa_cons (pv 0) (pa_cons (pe_bltn (v := .ty "int") (by rfl) B.int_ (by decide +kernel) rfl) pa_nil))) (pe_one (pe_not (pe_callB (isi K) (by rfl) B.isinstance (by decide +kernel) (pa_cons (pv 0) (pa_cons (pe_bltn (v := .ty "bool") (by rfl) B.bool_ (by decide +kernel) rfl) pa_nil)))))))), ?_⟩
    rw [wholeD_kd] at q
    refine isiV .int rfl hd.knd ⟨_, rfl, ?_⟩
    cases h1 : (kd d).is .int with
    | false =>
      rw [h1] at q
      exact iteF (q H (Same.refl H))
    | true =>
      rw [h1] at q
      refine iteT ?_
      refine isiV .bl rfl hd.knd ⟨_, rfl, q H (Same.refl H)⟩
def tupD : PyData → Bool
  | .tuple _ => true
  | _ => false
theorem tupD_kd {d : PyData} : (kd d).is .tup = tupD d := by cases d <;> rfl
theorem ok_law_is_deal {f : Addr} {fd : FuncData} {m : Nat} (F : Fun K "_law_is_deal" "_law_is_deal" s_law_is_deal f fd) (B : Bn mg) (D_law_is_whole : Own P w K mg base "_law_is_whole" m ["value"] (spWhole K)) : FnOk P w K mg base CX0 (m + 1) f fd ["web", "value"] (spIsDeal K) := by
  refine F.ok sc_law_is_deal (fun vs H Q E h => ?_) (fun cdv A outer s H vs Q E hr h => ?_)
  · obtain ⟨u, v, n, e, d, W, D, rfl, _⟩ := h
    rfl
  · obtain ⟨u, v, n, e, d, W, D, rfl, hu, hd, sm, hW, q⟩ := h
    obtain ⟨wa, wx, rfl, hwT, hwx⟩ := hu.first
    refine ⟨_, (pss_cons (ps_if ((pw_or (pt_not (pt_val (pe_callB (isi K) (by rfl) B.isinstance (by decide +kernel) (pa_cons (pv 1) (pa_cons (pe_bltn (v := .ty "tuple") (by rfl) B.tuple_ (by decide +kernel) rfl) pa_nil))))) (pw_or (pt_cmpR op_ne (pe_callB (lenQ K) (by rfl) B.len (by decide +kernel) (pa_cons (pv 1) pa_nil)) pe_int (nomark _)) (pw_or1 (pt_cmpR (inQ K) pe_bl (pe_lc (own := [("part", 4)]) (by rfl) sc_law_is_deal.nd (pi_tupK K (pv 1)) (blkOk_by (own := [("part", 4)]) (N := ["web", "value", "roots", "sizes", "part", "place", "size"]) (sc := (defScope s_law_is_deal)) (by decide +kernel)) (fun _ _ _ _ _ => (pg_name (i := 4) sc_law_is_deal.nd rfl (.inl rfl))) (fun _ _ _ _ _ => pts_nil) (fun _ _ _ _ _ => (pe_callB (isi K) (by rfl) B.isinstance (by decide +kernel) (pa_cons (pv 4) (pa_cons (pe_bltn (v := .ty "tuple") (by rfl) B.tuple_ (by decide +kernel) rfl) pa_nil))))) (by rfl)))))).pt (pss_one (ps_ret pe_bl)) pss_nil)
      (pss_cons (ps_asg (pv 1) (pg_tupK K 2 (by rfl) (pgs_cons (pg_name (i := 2) sc_law_is_deal.nd rfl (.inl rfl)) (pgs_cons (pg_name (i := 3) sc_law_is_deal.nd rfl (.inl rfl)) pgs_nil))))
      (pss_cons (ps_if ((pw_or (pt_cmpR (eqT0 K hr.units) (pv 2) (pe_tup pa_nil) (nomark _)) (pw_or1 (pt_cmpR op_ne (pe_callB (lenQ K) (by rfl) B.len (by decide +kernel) (pa_cons (pv 2) pa_nil)) (pe_callB (lenQ K) (by rfl) B.len (by decide +kernel) (pa_cons (pv 3) pa_nil)) (nomark _))))).pt (pss_one (ps_ret pe_bl)) pss_nil)
      (pss_cons (ps_if (pt_cmpR (inQ K) pe_bl (pe_lc (own := [("place", 5)]) (by rfl) sc_law_is_deal.nd (pi_tupK K (pv 2)) (blkOk_by (own := [("place", 5)]) (N := ["web", "value", "roots", "sizes", "part", "place", "size"]) (sc := (defScope s_law_is_deal)) (by decide +kernel)) (fun _ _ _ _ _ => (pg_name (i := 5) sc_law_is_deal.nd rfl (.inl rfl))) (fun _ _ _ _ _ => pts_nil) (fun _ _ _ _ _ => (pe_and (pe_own D_law_is_whole hr (by rfl) (pa_cons (pv 5) pa_nil)) (pe_one (pe_chain op_le op_lt pe_int (pv 5) (pe_ix (ixT K) (pv 0) pe_int (fun _ _ => rfl))))))) (by rfl)) (pss_one (ps_ret pe_bl)) pss_nil)
      (pss_cons (ps_if ((pw_or (pt_cmpR (inQ K) pe_bl (pe_lc (own := [("size", 6)]) (by rfl) sc_law_is_deal.nd (pi_tupK K (pv 3)) (blkOk_by (own := [("size", 6)]) (N := ["web", "value", "roots", "sizes", "part", "place", "size"]) (sc := (defScope s_law_is_deal)) (by decide +kernel)) (fun _ _ _ _ _ => (pg_name (i := 6) sc_law_is_deal.nd rfl (.inl rfl))) (fun _ _ _ _ _ => pts_nil) (fun _ _ _ _ _ => (pe_and (pe_own D_law_is_whole hr (by rfl) (pa_cons (pv 6) pa_nil)) (pe_one (pe_cmpR op_gt (pv 6) pe_int (nomark _)))))) (by rfl)) (pw_or1 (pt_cmpR op_ne (pe_callB (sumT K rfl) (by rfl) B.sum (by decide +kernel) (pa_cons (pv 3) pa_nil)) (pe_ix (ixT K) (pv 0) pe_int (fun _ _ => rfl)) (nomark _))))).pt (pss_one (ps_ret pe_bl)) pss_nil)
      (pss_one (ps_ret (pe_cmpR op_eq (pe_lenSetT K (by rfl) B.len (by rfl) B.set (pa_cons (pv 2) pa_nil)) (pe_callB (lenQ K) (by rfl) B.len (by decide +kernel) (pa_cons (pv 2) pa_nil)) (nomark _))))))))), ?_⟩
    by_cases hk : ∃ d1 d2, d = .tuple [d1, d2]
    · obtain ⟨d1, d2, rfl⟩ := hk
      obtain ⟨t, xs, rfl, hT, hxs⟩ := hd.un_tup
      have hxs' := hxs
      cases hxs' with
      | cons h1 hxs' =>
      cases hxs' with
      | cons h2 hxs' =>
      cases hxs'
      refine isiV .tup rfl (sqt_knd hT) ⟨_, rfl, ?_⟩
      refine iteF ?_
      refine ⟨_, rfl, t, _, rfl, .inr hT, rfl, _, rfl, ?_⟩
      refine iteF ?_
      -- False in [isinstance(part, tuple) for part in value]
      refine ⟨_, rfl, t, rfl, ⟨_, hT⟩, fun D hD => ?_⟩
      refine lc_tup (BsAt H D ([d1, d2].map tupD)) (BsAt.start hD) (fun i H3 _ h => My.Same.sqt h.1 hT) ?_ ?_
      · rintro i x H3 ex hB
        obtain ⟨d, e1, p1⟩ := hxs.get ex
        refine ⟨rfl, ?_⟩
        refine isiV .tup rfl (Dq.same hB.1 p1).knd ?_
        rw [tupD_kd]
        exact hB.next hD (Same.refl H3) (map_get e1) (by simp)
      · rintro H3 hB
        obtain ⟨v1, v2⟩ := inV_false ([d1, d2].map tupD)
        rw [all_map] at v1
        refine ⟨D, _, rfl, .inl (SqL.of (hB.all (by simp))), rfl, v2, _, rfl, ?_⟩
        show if inV (.bl false) (([d1, d2].map tupD).map V.bl) = true then _ else _
        rw [v1]
        by_cases hk2 : ∃ rs ss, d1 = .tuple rs ∧ d2 = .tuple ss
        · obtain ⟨rs, ss, rfl, rfl⟩ := hk2
          refine iteF ?_
          have h1 := Dq.same hB.1 h1
          have h2 := Dq.same hB.1 h2
          have hT := My.Same.sqt hB.1 hT
          have hwT := My.Same.sqt hB.1 hwT
          have q := fun H2 (s2 : Same H3 H2) => q H2 (hB.1.trans s2)
          have sm1 : Sm W _ (.tuple rs) := sm.item (by simp)
          have sm2 : Sm W _ (.tuple ss) := sm.item (by simp)
          have l1 := Nat.le_trans sm1.lenW hW
          have l2 := Nat.le_trans sm2.lenW hW
          clear hB hxs hD hu hd
          obtain ⟨t1, xr, rfl, hT1, hxr⟩ := h1.un_tup
          obtain ⟨t2, xz, rfl, hT2, hxz⟩ := h2.un_tup
          have lr := hxr.len
          have lz := hxz.len
          refine ⟨_, rfl, t, _, rfl, hT, rfl, _, _, rfl, _, _, rfl, rfl, ?_⟩
          -- roots == ()
          refine ⟨_, rfl, by show 0 ≤ sizeLine; decide, fun te hte => ?_⟩
          have sE := My.Same.new (o := HO.tup []) hte
          refine ⟨t1, te, xr, rfl, rfl, My.Same.sqt sE hT1, SqT.of upd_same, _, rfl, ?_⟩
          have q := fun H2 (s2 : Same _ H2) => q H2 (sE.trans s2)
          have hT1 := My.Same.sqt sE hT1
          have hT2 := My.Same.sqt sE hT2
          have hwT := My.Same.sqt sE hwT
          have hxr := DqAll.same sE hxr
          have hxz := DqAll.same sE hxz
          generalize upd H3 te (HO.tup []) = H4 at q hT1 hT2 hwT hxr hxz ⊢
          by_cases h0 : rs.length = 0
          · rw [decide_eq_true (show xr.length = 0 by omega)]
            have q' := q H4 (Same.refl H4)
            simp only [dealD, rootsD, h0, ne_eq, not_true_eq_false, decide_false, Bool.false_and] at q'
            exact iteT q'
          rw [decide_eq_false (show ¬ xr.length = 0 by omega)]
          simp only [dealD, rootsD, h0, ne_eq, not_false_eq_true, decide_true, Bool.true_and] at q
          refine iteF ?_
          -- len(roots) != len(sizes)
          refine ⟨_, rfl, t1, xr, rfl, .inr hT1, _, rfl, t2, xz, rfl, .inr hT2, rfl, _, rfl, ?_⟩
          by_cases h3 : ss.length = rs.length
          · have e3 : (!decide (V.int (xr.length : Int) = V.int (xz.length : Int))) = false := by
              rw [decide_eq_true (show V.int (xr.length : Int) = V.int (xz.length : Int) by rw [lr, lz, h3])]
              rfl
            refine iteFF e3 ?_
            simp only [sizesD, h3, decide_true, Bool.true_and] at q
            -- False in [.. for place in roots]
            refine ⟨_, rfl, t1, rfl, ⟨_, hT1⟩, fun D hD => ?_⟩
            refine lc_tup (BsAt H4 D (rs.map (placeD n))) (BsAt.start hD) (fun i H3 _ h => My.Same.sqt h.1 hT1) ?_ ?_
            · rintro i x H3 ex hB
              obtain ⟨d, e1, p1⟩ := hxr.get ex
              have nx := fun (b : Bool) (hb : placeD n d = b) (H4 : Hp) (s4 : Same H3 H4) => hB.next (b := b) hD s4 (by rw [← hb]; exact map_get e1) (by rw [List.length_map]; omega)
              refine ⟨rfl, ?_⟩
              refine ⟨_, rfl, x, d, rfl, Dq.same hB.1 p1, fun H4 s4 => ⟨_, rfl, ?_⟩⟩
              cases hw : wholeD d with
              | false => exact iteF (nx false (placeD_whole hw) H4 s4)
              | true =>
                obtain ⟨z, rfl⟩ := wholeD_int hw
                cases p1
                refine iteT ⟨_, rfl, 0, z, rfl, rfl, _, rfl, ?_⟩
                by_cases h0 : (0 : Int) ≤ z
                · rw [if_pos (decide_eq_true h0)]
                  refine ⟨_, rfl, wa, _, 0, _, rfl, rfl, My.Same.sqt (hB.1.trans s4) hwT, rfl, z, n, rfl, rfl, ?_⟩
                  exact nx _ (by simp only [placeD, decide_eq_true h0, Bool.true_and]) H4 s4
                · rw [if_neg (fun z => h0 (of_decide_eq_true z))]
                  exact nx false (by simp only [placeD, decide_eq_false h0, Bool.false_and]) H4 s4
            · rintro H5 hB
              obtain ⟨v1, v2⟩ := inV_false (rs.map (placeD n))
              rw [all_map] at v1
              refine ⟨D, _, rfl, .inl (SqL.of (hB.all (by rw [List.length_map]; omega))), rfl, v2, _, rfl, ?_⟩
              show if inV (.bl false) ((rs.map (placeD n)).map V.bl) = true then _ else _
              rw [v1]
              cases c : rs.all (placeD n) with
              | false =>
                simp only [c, Bool.false_and] at q
                exact iteT (q H5 hB.1)
              | true =>
                simp only [c, Bool.true_and] at q
                have hi := placeD_ints c
                have ex1 := hxr.intsOf hi
                have hT1 := My.Same.sqt hB.1 hT1
                have hT2 := My.Same.sqt hB.1 hT2
                have hwT := My.Same.sqt hB.1 hwT
                have hxz := DqAll.same hB.1 hxz
                have q := fun H2 (s2 : Same H5 H2) => q H2 (hB.1.trans s2)
                clear hB v1 v2
                refine iteF ?_
                -- False in [.. for size in sizes]
                refine ⟨_, rfl, t2, rfl, ⟨_, hT2⟩, fun D hD => ?_⟩
                refine lc_tup (BsAt H5 D (ss.map posD)) (BsAt.start hD) (fun i H3 _ h => My.Same.sqt h.1 hT2) ?_ ?_
                · rintro i x H3 ex hB
                  obtain ⟨d, e1, p1⟩ := hxz.get ex
                  have nx := fun (b : Bool) (hb : posD d = b) (H4 : Hp) (s4 : Same H3 H4) => hB.next (b := b) hD s4 (by rw [← hb]; exact map_get e1) (by rw [List.length_map]; omega)
                  refine ⟨rfl, ?_⟩
                  refine ⟨_, rfl, x, d, rfl, Dq.same hB.1 p1, fun H4 s4 => ⟨_, rfl, ?_⟩⟩
                  cases hw : wholeD d with
                  | false => exact iteF (nx false (posD_whole hw) H4 s4)
                  | true =>
                    obtain ⟨z, rfl⟩ := wholeD_int hw
                    cases p1
                    refine iteT ⟨_, rfl, z, 0, rfl, rfl, nx _ ?_ H4 s4⟩
                    show decide (1 ≤ z) = decide (z > 0)
                    rw [decide_eq_decide]
                    omega
                · rintro H6 hB
                  obtain ⟨v1, v2⟩ := inV_false (ss.map posD)
                  rw [all_map] at v1
                  refine ⟨D, _, rfl, .inl (SqL.of (hB.all (by rw [List.length_map]; omega))), rfl, v2, _, rfl, ?_⟩
                  show if inV (.bl false) ((ss.map posD).map V.bl) = true then _ else _
                  rw [v1]
                  cases c2 : ss.all posD with
                  | false =>
                    simp only [c2, Bool.false_and, Bool.and_false] at q
                    exact iteT (q H6 hB.1)
                  | true =>
                    simp only [c2, Bool.true_and] at q
                    have hi2 := posD_ints c2
                    have ex2 := hxz.intsOf hi2
                    have hT1 := My.Same.sqt hB.1 hT1
                    have hT2 := My.Same.sqt hB.1 hT2
                    rw [ex1] at hT1
                    rw [ex2] at hT2
                    refine iteF ?_
                    refine ⟨_, rfl, t2, _, rfl, hT2, _, rfl, wa, _, 0, _, rfl, rfl, My.Same.sqt hB.1 hwT, rfl, rfl, _, rfl, ?_⟩
                    by_cases h5 : (intsOf ss).sum = n
                    · have e5 : (!decide (V.int (intsOf ss).sum = V.int n)) = false := by
                        rw [decide_eq_true (show V.int (intsOf ss).sum = V.int n by rw [h5])]
                        rfl
                      refine iteFF e5 ?_
                      simp only [h5, decide_true, Bool.and_true] at q
                      refine ⟨_, rfl, t1, _, rfl, hT1, by rw [intsOf_len hi]; exact l1, fun cc hcc => ?_⟩
                      refine ⟨_, rfl, t1, _, rfl, .inr hT1, rfl, ?_⟩
                      show Q (.bl (decide (V.int (cc : Int) = V.int (((intsOf rs).map V.int).length : Int)))) H6
                      rw [dInt_iff (p := (intsOf rs).Nodup) (by rw [List.length_map, ← hcc]; omega)]
                      exact q H6 hB.1
                    · have e5 : (!decide (V.int (intsOf ss).sum = V.int n)) = true := by
                        rw [decide_eq_false (show ¬ V.int (intsOf ss).sum = V.int n from fun z => h5 (V.int.inj z))]
                        rfl
                      refine iteTT e5 ?_
                      simp only [h5, decide_false, Bool.and_false] at q
                      exact q H6 hB.1
          · have e3 : (!decide (V.int (xr.length : Int) = V.int (xz.length : Int))) = true := by
              rw [decide_eq_false (show ¬ V.int (xr.length : Int) = V.int (xz.length : Int) from fun z => h3 (by have := V.int.inj z; omega))]
              rfl
            refine iteTT e3 ?_
            have h3' : ¬ ((ss.length : Int) = rs.length) := fun z => h3 (by omega)
            have q' := q H4 (Same.refl H4)
            simp only [sizesD, h3', decide_false, Bool.false_and, Bool.and_false] at q'
            exact q'
        · have e2 : (!([d1, d2].all tupD)) = true := by
            cases d1 <;> cases d2 <;> first | rfl | exact absurd ⟨_, _, rfl, rfl⟩ hk2
          have e : dealD n (.tuple [d1, d2]) = false := by
            cases d1 with
            | tuple rs =>
              cases d2 with
              | tuple ss => exact absurd ⟨_, _, rfl, rfl⟩ hk2
              | _ => simp only [dealD, sizesD, Bool.and_false]
            | _ => rfl
          rw [e] at q
          exact iteTT e2 (q H3 hB.1)
    · have e : dealD n d = false := by
        cases d with
        | tuple ds =>
          match ds, hk with
          | [], _ => rfl
          | [d0], _ => cases d0 <;> rfl
          | [d1, d2], hk => exact absurd ⟨d1, d2, rfl⟩ hk
          | d0 :: d1 :: d2 :: ds, _ => cases d0 <;> rfl
        | _ => rfl
      have q' := fun H1 s1 => q H1 s1
      rw [e] at q'
      refine isiV .tup rfl hd.knd ⟨_, rfl, ?_⟩
      cases d with
      | tuple ds =>
        obtain ⟨t, xs, rfl, hT, hxs⟩ := hd.un_tup
        refine iteF ?_
        refine ⟨_, rfl, t, xs, rfl, .inr hT, rfl, _, rfl, ?_⟩
        have hne : ¬ decide (V.int (xs.length : Int) = V.int 2) = true := fun z => by
          have z := dInt z
          rw [hxs.len] at z
          refine hk ?_
          match ds, z with
          | [d1, d2], _ => exact ⟨d1, d2, rfl⟩
        rw [Bool.eq_false_iff.mpr hne]
        exact iteT (q' H (Same.refl H))
      | _ => exact iteT (q' H (Same.refl H))
end
end K03

set_option Elab.async false
set_option linter.all false
set_option maxRecDepth 100000
set_option maxHeartbeats 4000000
namespace K03
open PySem PySem.Spec PyProof.Rows L2 My
abbrev s_law_one_of : Stmt := topS 12
theorem sc_law_one_of : FnScope ["pen", "some"] ["pen", "some"] (defScope s_law_one_of) := ⟨rfl, rfl, rfl, by decide +kernel, rfl, by decide +kernel, by decide +kernel⟩
abbrev s_law_draw_order : Stmt := topS 16
theorem sc_law_draw_order : FnScope ["pen", "n", "left", "found", "turn"] ["pen", "n"] (defScope s_law_draw_order) := ⟨rfl, rfl, rfl, by decide +kernel, rfl, by decide +kernel, by decide +kernel⟩
abbrev s_law_web : Stmt := topS 17
theorem sc_law_web : FnScope ["n", "pairs", "a", "b"] ["n", "pairs"] (defScope s_law_web) := ⟨rfl, rfl, rfl, by decide +kernel, rfl, by decide +kernel, by decide +kernel⟩
section
variable {P : Program} {w : World} {K : PySem.W.Frag} {mg : Str → Option Value} {base : Heap}
theorem ok_one_of {f : Addr} {fd : FuncData} {m : Nat} (F : Fun K "_law_one_of" "_law_one_of" s_law_one_of f fd) (B : Bn mg) (D_law_take : Own P w K mg base "_law_take" m ["pen", "amount"] spTake) : FnOk P w K mg base CX0 (m + 1) f fd ["pen", "some"] (spOneOf K) := by
  refine F.ok sc_law_one_of (fun vs H Q E h => ?_) (fun cdv A outer s H vs Q E hr h => ?_)
  · obtain ⟨p, c, n, l, xs, rfl, _⟩ := h
    rfl
  · obtain ⟨p, c, n, l, xs, rfl, pen, hn, hl, h1, h2, q⟩ := h
    refine ⟨_, (pss_one (ps_ret (pe_ix (ixL K) (pv 1) (pe_own D_law_take hr (by rfl) (pa_cons (pv 0) (pa_cons (pe_callB (lenQ K) (by rfl) B.len (by decide +kernel) (pa_cons (pv 1) pa_nil)) pa_nil))) (fun _ _ => rfl)))), ?_⟩
    refine ⟨_, rfl, _, rfl, _, rfl, l, xs, rfl, .inl (wo_le.seq hl), p, c, _, n, rfl, pen, hn, by omega, by omega, fun r H' r0 r1 pen' sm => ?_⟩
    obtain ⟨x, e, hx⟩ := at_get (xs := xs) r0 r1
    exact ⟨l, xs, r, x, rfl, rfl, wo_le.seq (sm.seq hl), hx, q _ x H' e pen' sm⟩
theorem ok_draw_order {f : Addr} {fd : FuncData} {m : Nat} (F : Fun K "_law_draw_order" "_law_draw_order" s_law_draw_order f fd) (B : Bn mg) (D_law_take : Own P w K mg base "_law_take" m ["pen", "amount"] spTake) : FnOk P w K mg base CX0 (m + 1) f fd ["pen", "n"] (spOrder K) := by
  refine F.ok sc_law_draw_order (fun vs H Q E h => ?_) (fun cdv A outer s H vs Q E hr h => ?_)
  · obtain ⟨p, c, n, k, rfl, _⟩ := h
    rfl
  · obtain ⟨p, c, n, k, rfl, pen, hn, hk, q⟩ := h
    refine ⟨_, (pss_cons (ps_par (i := 2) (j := 3) (by rfl) sc_law_draw_order.nd rfl rfl (by decide) rfl rfl (pa_cons (pe_listRg (by rfl) (by rfl) B.list_ (prg_1 (by rfl) B.range (pv 1))) (pa_cons (pe_lst pa_nil) pa_nil)) (by rfl))
      (pss_cons (ps_for PassesOwn.never rfl (pi_range1 (by rfl) B.range (pa_cons (pv 1) pa_nil)) (pg_name (i := 4) sc_law_draw_order.nd rfl (.inl rfl)) (pss_one (ps_expr (pe_bmK K PySem.F.plainAttrs_list PySem.F.slot_list_append PySem.F.type_list_append mt_append (pv 3) (pa_cons (pe_bmK K PySem.F.plainAttrs_list PySem.F.slot_list_pop PySem.F.type_list_pop mt_popAt (pv 2) (pa_cons (pe_own D_law_take hr (by rfl) (pa_cons (pv 0) (pa_cons (pe_callB (lenQ K) (by rfl) B.len (by decide +kernel) (pa_cons (pv 2) pa_nil)) pa_nil))) pa_nil)) pa_nil)))))
      (pss_one (ps_ret (pe_callTy (tupleOf K) (by rfl) B.tuple_ (by decide +kernel) (pa_cons (pv 3) pa_nil)))))), ?_⟩
    -- left, found = list(range(n)), []
    refine ⟨_, rfl, k, rfl, RgOk.of_le (Int.le_refl 0) (by omega) (by decide) (by omega), fun la hla => ?_⟩
    refine ⟨by show 0 ≤ sizeLine; decide, fun fa hfa => ⟨_, _, rfl, ?_⟩⟩
    have hrg : rgV 0 (k : Int) = (ups k).map V.int := by
      unfold rgV ups
      rw [List.map_map, show ((k : Int) - 0).toNat = k by omega]
      refine List.map_congr_left fun i _ => ?_
      show V.int (0 + (i : Int)) = V.int (i : Int)
      rw [Int.zero_add]
    rw [hrg] at hfa ⊢
    have s1 := (My.Same.new (o := HO.lst ((ups k).map V.int)) hla).trans (My.Same.new (o := HO.lst []) hfa)
    have hfla : fa ≠ la := fun z => by
      rw [z, upd_same] at hfa
      cases hfa
    have pen1 := Pen.same s1 pen
    have ela : upd (upd H la (.lst ((ups k).map V.int))) fa (.lst []) la = some (.lst ((ups k).map V.int)) := (upd_ne hfla.symm).trans upd_same
    have efa : upd (upd H la (.lst ((ups k).map V.int))) fa (.lst []) fa = some (.lst []) := upd_same
    have nla := Pen.ne pen hla
    have nfa := Pen.ne (Pen.same (My.Same.new (o := HO.lst ((ups k).map V.int)) hla) pen) hfa
    have hfa0 := (My.Same.new (o := HO.lst ((ups k).map V.int)) hla).free hfa
    generalize upd (upd H la (.lst ((ups k).map V.int))) fa (.lst []) = H1 at s1 pen1 ela efa ⊢
    -- for turn in range(n)
    refine ⟨_, rfl, _, rfl, by omega, by omega, ?_⟩
    refine for_range (fun i σ H2 => ∃ (x4 : Option V) (ls fs : List Int), σ = [some (.ref p), some (.int k), some (.ref la), some (.ref fa), x4] ∧ Pen H2 p c (n + i) ∧ Same (wo p H) (wo p H2) ∧ H2 la = some (.lst (ls.map V.int)) ∧ H2 fa = some (.lst (fs.map V.int)) ∧ ls.length + i = k ∧ (fs ++ ls).Perm (ups k)) ?_ ?_ ?_
    · exact ⟨none, ups k, [], rfl, pen1, My.Same.wo s1, ela, efa, by rw [ups_len]; rfl, .refl _⟩
    · rintro i σ H2 hi ⟨x4, ls, fs, rfl, pen2, s2, el, ef, hlen, hperm⟩
      have hik : i < k := by omega
      have el' : wo p H2 la = some (.lst (ls.map V.int)) := (wo_ne nla.1).trans el
      have ef' : wo p H2 fa = some (.lst (fs.map V.int)) := (wo_ne nfa.1).trans ef
      -- found.append(left.pop(_law_take(pen, len(left))))
      refine ⟨_, rfl, .inl ⟨rfl, _, SqL.of ef⟩, ?_⟩
      refine ⟨_, rfl, .inl ⟨rfl, _, SqL.of el⟩, ?_⟩
      refine ⟨_, rfl, _, rfl, la, _, rfl, .inl (SqL.of el), p, c, _, n + i, rfl, pen2, by omega, by rw [List.length_map]; omega, by rw [List.length_map]; omega, fun r H3 r0 r1 pen3 s3 => ?_⟩
      rw [List.length_map] at r1
      have el3 : H3 la = some (.lst (ls.map V.int)) := (wo_some (s3 _ _ el')).2
      have ef3 : H3 fa = some (.lst (fs.map V.int)) := (wo_some (s3 _ _ ef')).2
      obtain ⟨z, hz⟩ : ∃ z, ls[r.toNat]? = some z := ⟨_, List.getElem?_eq_getElem (by omega)⟩
      refine ⟨la, _, r, r.toNat, .int z, rfl, rfl, el3, by omega, by omega, ?_, by rw [List.getElem?_map, hz]; rfl, ?_⟩
      · rw [List.length_map]
        have h1 := (ixN_seq (n := ls.length) (i := r) (j := r.toNat) (by unfold ixN; rw [if_pos r0, if_pos r1])).1
        exact h1
      have hge : ∀ i, (ls.map V.int).eraseIdx i = (ls.eraseIdx i).map V.int := fun i => map_erase _ _ _
      rw [hge]
      have ef4 : upd H3 la (.lst ((ls.eraseIdx r.toNat).map V.int)) fa = some (.lst (fs.map V.int)) := (upd_ne hfla).trans ef3
      refine ⟨fa, _, _, rfl, rfl, ef4, ?_, ?_⟩
      · rw [List.length_map]
        have := hperm.length_eq
        rw [List.length_append, ups_len] at this
        exact smallT (by omega)
      · refine ⟨_, ls.eraseIdx r.toNat, fs ++ [z], rfl, ?_, ?_, ?_, ?_, ?_, ?_⟩
        · exact Pen.upd (Pen.upd pen3 nla) nfa
        · rw [wo_upd nfa.1, wo_upd nla.1]
          exact My.Same.updD (My.Same.updD (s2.trans s3) (wo_none hla)) (wo_none hfa0)
        · exact (upd_ne hfla.symm).trans upd_same
        · rw [upd_same, List.map_append]
          rfl
        · rw [List.length_eraseIdx_of_lt (by omega)]
          omega
        · rw [List.append_assoc]
          exact (List.Perm.append_left fs (erase_perm hz)).trans hperm
    · rintro σ H2 ⟨x4, ls, fs, rfl, pen2, s2, el, ef, hlen, hperm⟩
      have hls : ls = [] := List.length_eq_zero_iff.mp (by omega)
      subst hls
      rw [List.append_nil] at hperm
      refine ⟨_, rfl, fa, _, rfl, .inl ⟨SqL.of ef, fun l hl => ?_⟩⟩
      have nl := Pen.ne pen2 hl
      refine q l fs _ hperm (Pen.upd (by rw [Int.toNat_natCast] at pen2; exact pen2) nl) (s2.trans (My.Same.wo (Same.new hl))) ?_ ?_
      · exact s2.free (wo_none hl)
      · exact SqT.of ((wo_ne nl.1).trans upd_same)
theorem ok_web {f : Addr} {fd : FuncData} {m : Nat} (F : Fun K "_law_web" "_law_web" s_law_web f fd) (B : Bn mg) : FnOk P w K mg base CX0 (m + 1) f fd ["n", "pairs"] (spWeb K) := by
  refine F.ok sc_law_web (fun vs H Q E h => ?_) (fun cdv A outer s H vs Q E hr h => ?_)
  · obtain ⟨n, l, us, ps, rfl, _⟩ := h
    rfl
  · obtain ⟨n, l, us, ps, rfl, hl, hus, h64, hb, q⟩ := h
    refine ⟨_, (pss_one (ps_ret (pe_tup (pa_cons (pv 0) (pa_cons (pe_callTy (tupleOf K) (by rfl) B.tuple_ (by decide +kernel) (pa_cons (pe_callB (sortedT K P w rfl) (by rfl) B.sorted (by decide +kernel) (pa_cons (pe_callTy (setOfT K P w rfl hr.units) (by rfl) B.set (by decide +kernel) (pa_cons (pe_lc (own := [("a", 2), ("b", 3)]) (by rfl) sc_law_web.nd (pi_seqK K (pv 1)) (blkOk_by (own := [("a", 2), ("b", 3)]) (N := ["n", "pairs", "a", "b"]) (sc := (defScope s_law_web)) (by decide +kernel)) (fun _ _ _ _ _ => (pg_tupK K 2 (by rfl) (pgs_cons (pg_name (i := 2) sc_law_web.nd rfl (.inl rfl)) (pgs_cons (pg_name (i := 3) sc_law_web.nd rfl (.inl rfl)) pgs_nil)))) (fun _ _ _ _ _ => (pts_one (pt_cmpR op_ne (pv 2) (pv 3) (nomark _)))) (fun _ _ _ _ _ => (pe_tup (pa_cons (pe_callB (call_min2 rfl) (by rfl) B.min (by decide +kernel) (pa_cons (pv 2) (pa_cons (pv 3) pa_nil))) (pa_cons (pe_callB (call_max2 rfl) (by rfl) B.max (by decide +kernel) (pa_cons (pv 2) (pa_cons (pv 3) pa_nil))) pa_nil))))) pa_nil)) pa_nil)) pa_nil)) pa_nil))))), ?_⟩
    refine ⟨_, rfl, ?_⟩
    have lus : us.length = ps.length := by rw [My.DpAll.len hus, List.length_map, List.length_map]
    -- [(min(a, b), max(a, b)) for a, b in pairs if a != b]
    let ft : List (Int × Int) → List (List Int) := fun l => ((l.filter fun s => !decide (s.1 = s.2)).map lowP).map prI
    refine in_seq (l := l) (us := us) (fun R h => ⟨_, rfl, h⟩) hl (fun D i H3 => Same H H3 ∧ ∃ ws, H3 D = some (.lst ws) ∧ DpAll K (wo D H3) ws ((ft (ps.take i)).map tI)) (fun D i H' _ h => h.1) (fun D hD => ⟨My.Same.new hD, [], upd_same, .nil⟩) ?_ ?_
    · rintro D i x H3 hD ex ⟨s3, ws, eD, hws⟩
      obtain ⟨ab, t, es, rfl, qt⟩ := tI_get (DpAll.same s3 hus) ex
      rw [List.getElem?_map] at es
      obtain ⟨s, e1, rfl⟩ : ∃ s, ps[i]? = some s ∧ ab = prI s := by
        cases e : ps[i]? with
        | none => rw [e] at es; cases es
        | some s => rw [e] at es; exact ⟨s, rfl, (Option.some.inj es).symm⟩
      have hnext : ft (ps.take (i + 1)) = ft (ps.take i) ++ if s.1 = s.2 then [] else [prI (lowP s)] := by
        show List.map prI (List.map lowP (List.filter _ (ps.take (i + 1)))) = _
        rw [List.take_add_one, e1, List.filter_append, List.map_append, List.map_append]
        congr 1
        show List.map prI (List.map lowP (List.filter _ [s])) = _
        rw [List.filter_cons]
        by_cases e : s.1 = s.2
        · rw [decide_eq_true e, if_pos e]
          rfl
        · rw [decide_eq_false e, if_neg e]
          rfl
      refine ⟨t, _, rfl, qt, rfl, _, _, rfl, _, _, rfl, rfl, rfl, ?_⟩
      refine ⟨_, rfl, _, rfl, rfl, _, rfl, ite2 (fun e => ?_) (fun e => ?_)⟩
      · have hne : ¬ s.1 = s.2 := fun z => by
          rw [z, decide_eq_true rfl] at e
          cases e
        refine ⟨_, rfl, _, rfl, s.1, s.2, rfl, _, rfl, _, rfl, s.1, s.2, rfl, by show 2 ≤ sizeLine; decide, fun t2 ht2 => ?_⟩
        have ht2D : t2 ≠ D := (ne_of_none eD ht2).symm
        have sT := My.Same.new (o := HO.tup [V.int (if s.2 < s.1 then s.2 else s.1), V.int (if s.2 > s.1 then s.2 else s.1)]) ht2
        obtain ⟨g1, g2⟩ := push (DpAll.same (My.Same.wo sT) hws) (Dp.ofTI (K := K) (a := t2) (ns := prI (lowP s)) (SqT.of ((wo_ne ht2D).trans upd_same)))
        refine ⟨ws, sT _ _ eD, ?_, My.Same.updD (s3.trans sT) hD, _, g1, ?_⟩
        · rw [My.DpAll.len hws, List.length_map, List.length_map, List.length_map]
          have h1 := List.length_filter_le (fun s : Int × Int => !decide (s.1 = s.2)) (ps.take i)
          have h2 : (ps.take i).length ≤ ps.length := by
            rw [List.length_take]
            exact Nat.min_le_right _ _
          exact smallT (by omega)
        · rw [hnext, if_neg hne, List.map_append]
          exact g2
      · have heq : s.1 = s.2 := by
          by_cases z : s.1 = s.2
          · exact z
          · rw [show decide (V.int s.1 = V.int s.2) = false from decide_eq_false (fun y => z (V.int.inj y))] at e
            exact absurd rfl e
        refine ⟨s3, ws, eD, ?_⟩
        rw [hnext, if_pos heq, List.append_nil]
        exact hws
    · rintro D H3 hD ⟨s3, ws, eD, hws⟩
      rw [lus, List.take_length] at hws
      obtain ⟨ks, rfl, hks, hkt⟩ := ks_of (DpAll.same wo_le hws)
      have lks : ks.length < 64 := by
        have h1 := congrArg List.length hks
        rw [List.length_map, List.length_map, List.length_map] at h1
        have h2 := List.length_filter_le (fun s : Int × Int => !decide (s.1 = s.2)) ps
        omega
      -- set(..)
      refine ⟨D, ks, rfl, SqL.of eD, hkt, lks, fun sa L hsa h1 h2 => ?_⟩
      have sS := My.Same.new (o := SetTO P w sa L) hsa
      have hb2 : ∀ p ∈ ks, p.2.length = 2 ∧ TS.Bd 64 p.2 := fun p hp => by
        have hm : p.2 ∈ ks.map (·.2) := List.mem_map.mpr ⟨p, hp, rfl⟩
        rw [hks] at hm
        obtain ⟨t, ht, e⟩ := List.mem_map.mp hm
        obtain ⟨s, hs, rfl⟩ := List.mem_map.mp ht
        have b := hb s (List.mem_filter.mp hs).1
        rw [← e]
        refine ⟨rfl, fun z hz => ?_⟩
        have hz2 : z = (lowP s).1 ∨ z = (lowP s).2 := by
          simpa [prI] using hz
        unfold lowP at hz2
        dsimp only at hz2
        rcases hz2 with e | e <;> subst e <;> split <;> omega
      -- sorted(..)
      refine ⟨sa, L, 2, 64, rfl, upd_same, fun p hp => My.Same.sqt sS (hkt p (h1 p hp)), by decide, fun p hp => hb2 p (h1 p hp), fun L' ra pm nd l64 pw hra => ?_⟩
      obtain ⟨T, hT, hcan⟩ := canon_of hks hb h1 h2 pm nd pw
      -- tuple(..)
      refine ⟨ra, _, rfl, .inl ⟨SqL.of upd_same, fun ta hta => ?_⟩⟩
      refine ⟨by show 2 ≤ sizeLine; decide, fun wa hwa => ?_⟩
      have sA := sS.trans ((My.Same.new (o := HO.lst (L'.map fun q => V.ref q.1)) hra).trans (My.Same.new (o := HO.tup (L'.map fun q => V.ref q.1)) hta))
      have dT : DpAll K (upd (upd (upd H3 sa (SetTO P w sa L)) ra (.lst (L'.map fun q => V.ref q.1))) ta (.tup (L'.map fun q => V.ref q.1))) (L'.map fun q => V.ref q.1) ((T.map prI).map tI) := by
        rw [← hT]
        exact ks_to fun p hp => My.Same.sqt sA (hkt p (h1 p (pm.mem_iff.mp hp)))
      refine q wa T _ hcan (s3.trans (sA.trans (Same.new hwa))) ((s3.trans sA).free hwa) ?_
      refine tup_new hwa (.cons (.int n) (.cons (.tup (SqT.of upd_same) ?_) .nil))
      rw [List.map_map] at dT
      exact dT
end
end K03

set_option Elab.async false
set_option linter.all false
set_option maxRecDepth 100000
set_option maxHeartbeats 4000000
namespace K03
open PySem PySem.Spec PyProof.Rows L2 My
abbrev s_law_draw_roots : Stmt := topS 19
theorem sc_law_draw_roots : FnScope ["pen", "n", "k"] ["pen", "n", "k"] (defScope s_law_draw_roots) := ⟨rfl, rfl, rfl, by decide +kernel, rfl, by decide +kernel, by decide +kernel⟩
abbrev s_law_draw_sizes : Stmt := topS 20
theorem sc_law_draw_sizes : FnScope ["pen", "n", "k", "found", "turn", "i"] ["pen", "n", "k"] (defScope s_law_draw_sizes) := ⟨rfl, rfl, rfl, by decide +kernel, rfl, by decide +kernel, by decide +kernel⟩
abbrev s_law_draw_deal : Stmt := topS 21
theorem sc_law_draw_deal : FnScope ["pen", "web", "most", "k"] ["pen", "web", "most"] (defScope s_law_draw_deal) := ⟨rfl, rfl, rfl, by decide +kernel, rfl, by decide +kernel, by decide +kernel⟩
section
variable {P : Program} {w : World} {K : PySem.W.Frag} {mg : Str → Option Value} {base : Heap}
theorem ok_draw_roots {f : Addr} {fd : FuncData} {m : Nat} (F : Fun K "_law_draw_roots" "_law_draw_roots" s_law_draw_roots f fd) (B : Bn mg) (D_law_draw_order : Own P w K mg base "_law_draw_order" m ["pen", "n"] (spOrder K)) : FnOk P w K mg base CX0 (m + 1) f fd ["pen", "n", "k"] (spDrawRoots K) := by
  refine F.ok sc_law_draw_roots (fun vs H Q E h => ?_) (fun cdv A outer s H vs Q E hr h => ?_)
  · obtain ⟨p, c, n0, n, k, rfl, _⟩ := h
    rfl
  · obtain ⟨p, c, n0, n, k, rfl, pen, hn0, hn, hk, q⟩ := h
    refine ⟨_, (pss_one (ps_ret (pe_slice (slT K) (pe_own D_law_draw_order hr (by rfl) (pa_cons (pv 0) (pa_cons (pv 1) pa_nil))) po_none (po_some (pv 2))))), ?_⟩
    refine ⟨_, rfl, _, rfl, p, c, n0, n, rfl, pen, by omega, by omega, fun o r H1 hperm pen1 s1 no qo => ?_⟩
    unfold tNoPart
    refine ⟨_, rfl, (k : Int), rfl, ?_⟩
    refine slT_any (My.Same.sqt wo_le qo) (fun b H2 s2 hb => ?_)
    rw [cut_take, ← List.map_take] at hb
    obtain ⟨us, hus⟩ := Pen.lst (Pen.same s2 pen1)
    refine q b (r.take k) H2 ?_ (fun x hx => ?_) ?_ (Pen.same s2 pen1) (s1.trans (My.Same.wo s2)) (sqt_wo hb hus)
    · exact List.Sublist.nodup (List.take_sublist _ _) (hperm.nodup_iff.mpr (ups_nodup n))
    · exact mem_ups.mp (hperm.mem_iff.mp (List.mem_of_mem_take hx))
    · rw [List.length_take, hperm.length_eq, ups_len]
      omega
theorem ok_draw_sizes {f : Addr} {fd : FuncData} {m : Nat} (F : Fun K "_law_draw_sizes" "_law_draw_sizes" s_law_draw_sizes f fd) (B : Bn mg) (D_law_take : Own P w K mg base "_law_take" m ["pen", "amount"] spTake) : FnOk P w K mg base CX0 (m + 1) f fd ["pen", "n", "k"] (spDrawSizes K) := by
  refine F.ok sc_law_draw_sizes (fun vs H Q E h => ?_) (fun cdv A outer s H vs Q E hr h => ?_)
  · obtain ⟨p, c, n0, n, k, rfl, _⟩ := h
    rfl
  · obtain ⟨p, c, n0, n, k, rfl, pen, hn0, hn, hk, hk1, q⟩ := h
    refine ⟨_, (pss_cons (ps_set (i := 3) sc_law_draw_sizes.nd rfl (.inl rfl) (pe_op op_rep (pe_lst (pa_cons pe_int pa_nil)) (pv 2)))
      (pss_cons (ps_for PassesOwn.never rfl (pi_range1 (by rfl) B.range (pa_cons (pe_op op_sub (pv 1) (pv 2)) pa_nil)) (pg_name (i := 4) sc_law_draw_sizes.nd rfl (.inl rfl)) (pss_cons (ps_set (i := 5) sc_law_draw_sizes.nd rfl (.inl rfl) (pe_own D_law_take hr (by rfl) (pa_cons (pv 0) (pa_cons (pv 2) pa_nil))))
      (pss_one (ps_asg (pe_op op_add (pe_ix (ixL K) (pv 3) (pv 5) (fun _ _ => rfl)) pe_int) (pg_sub (pv 3) (pv 5) set_list)))))
      (pss_one (ps_ret (pe_callTy (tupleOf K) (by rfl) B.tuple_ (by decide +kernel) (pa_cons (pv 3) pa_nil)))))), ?_⟩
    refine ⟨by show 1 ≤ sizeLine; decide, fun l1 hl1 => ⟨_, rfl, l1, (k : Int), _, rfl, rfl, upd_same, by omega, by omega, ?_, fun fa hfa => ?_⟩⟩
    · show 1 * (k : Int).toNat ≤ sizeLine
      exact small (by omega)
    rw [Int.toNat_natCast, rep_one]
    have e1 : (List.replicate k (V.int 1)) = (List.replicate k (1 : Int)).map V.int := (List.map_replicate).symm
    rw [e1]
    have s1 := My.Same.new (o := HO.lst [V.int 1]) hl1
    have s2 := My.Same.new (o := HO.lst ((List.replicate k (1 : Int)).map V.int)) hfa
    have pen2 := Pen.same (s1.trans s2) pen
    have nfa := Pen.ne (Pen.same s1 pen) hfa
    have hfa0 := s1.free hfa
    have efa : upd (upd H l1 (.lst [V.int 1])) fa (.lst ((List.replicate k (1 : Int)).map V.int)) fa = some (.lst ((List.replicate k (1 : Int)).map V.int)) := upd_same
    generalize upd (upd H l1 (.lst [V.int 1])) fa (.lst ((List.replicate k (1 : Int)).map V.int)) = H1 at s2 pen2 efa ⊢
    have s12 := My.Same.wo (p := p) (s1.trans s2)
    clear s1 s2
    refine ⟨_, rfl, _, rfl, _, _, rfl, rfl, _, rfl, by omega, by omega, ?_⟩
    refine for_range (fun i σ H2 => ∃ (x4 x5 : Option V) (r : List Int), σ = [some (.ref p), some (.int n), some (.int k), some (.ref fa), x4, x5] ∧ Pen H2 p c (n0 + i) ∧ Same (wo p H) (wo p H2) ∧ H2 fa = some (.lst (r.map V.int)) ∧ r.length = k ∧ (∀ x ∈ r, 1 ≤ x ∧ x ≤ i + 1) ∧ r.sum = k + i) ?_ ?_ ?_
    · exact ⟨none, none, List.replicate k 1, rfl, pen2, s12, efa, List.length_replicate, fun x hx => by rw [List.eq_of_mem_replicate hx]; omega, by rw [sum_ones]; omega⟩
    · rintro i σ H2 hi ⟨x4, x5, r, rfl, pen3, s3, e3, lr, hr3, sr⟩
      refine ⟨_, rfl, _, rfl, p, c, (k : Int), n0 + i, rfl, pen3, by omega, by omega, by omega, fun j H3 j0 j1 pen4 s4 => ?_⟩
      have e3w : wo p H2 fa = some (.lst (r.map V.int)) := (wo_ne nfa.1).trans e3
      have e4 := (wo_some (s4 _ _ e3w)).2
      obtain ⟨z, hz1, hz2⟩ := at_int (cs := r) j0 (by omega)
      have hzb := hr3 z (List.mem_of_getElem? hz1)
      refine ⟨_, rfl, _, rfl, fa, _, j, _, rfl, rfl, SqL.of e4, hz2, z, 1, rfl, rfl, ?_⟩
      refine ⟨_, rfl, _, rfl, fa, _, j, j.toNat, rfl, rfl, e4, ?_, ?_⟩
      · unfold ixN
        rw [List.length_map, if_pos j0, if_pos (by omega)]
      · refine ⟨_, _, r.set j.toNat (z + 1), rfl, Pen.upd pen4 nfa, ?_, ?_, ?_, ?_, ?_⟩
        · exact wo_updD (s3.trans s4) (wo_none hfa0)
        · rw [upd_same, set_mapI]
        · rw [List.length_set, lr]
        · intro x hx
          rcases List.mem_or_eq_of_mem_set hx with hx | rfl
          · have := hr3 x hx
            omega
          · omega
        · rw [sum_set1 hz1, sr]
          omega
    · rintro σ H2 ⟨x4, x5, r, rfl, pen3, s3, e3, lr, hr3, sr⟩
      have en : ((n : Int) - k).toNat = n - k := by omega
      rw [en] at *
      refine ⟨_, rfl, fa, _, rfl, .inl ⟨SqL.of e3, fun l hl => ?_⟩⟩
      have nl := Pen.ne pen3 hl
      refine q l r _ (fun x hx => ?_) ?_ lr ((Pen.upd pen3 nl).mono (by omega)) (s3.trans (My.Same.wo (My.Same.new hl))) (SqT.of ((wo_ne nl.1).trans upd_same))
      · have := hr3 x hx
        omega
      · rw [sr]
        omega
theorem ok_draw_deal {f : Addr} {fd : FuncData} {m : Nat} (F : Fun K "_law_draw_deal" "_law_draw_deal" s_law_draw_deal f fd) (B : Bn mg) (D_law_take : Own P w K mg base "_law_take" m ["pen", "amount"] spTake) (D_law_draw_roots : Own P w K mg base "_law_draw_roots" m ["pen", "n", "k"] (spDrawRoots K)) (D_law_draw_sizes : Own P w K mg base "_law_draw_sizes" m ["pen", "n", "k"] (spDrawSizes K)) : FnOk P w K mg base CX0 (m + 1) f fd ["pen", "web", "most"] (spDrawDeal K) := by
  refine F.ok sc_law_draw_deal (fun vs H Q E h => ?_) (fun cdv A outer s H vs Q E hr h => ?_)
  · obtain ⟨p, c, n0, n, mm, v, e, rfl, _⟩ := h
    rfl
  · obtain ⟨p, c, n0, n, mm, v, e, rfl, pen, hn0, hv, n1, n100, m1, m100, q⟩ := h
    obtain ⟨wa, x, rfl, hT, hx⟩ := hv.first
    refine ⟨_, (pss_cons (ps_set (i := 3) sc_law_draw_deal.nd rfl (.inl rfl) (pe_op op_add pe_int (pe_own D_law_take hr (by rfl) (pa_cons (pv 0) (pa_cons (pe_callB (call_min2 rfl) (by rfl) B.min (by decide +kernel) (pa_cons (pv 2) (pa_cons (pe_ix (ixT K) (pv 1) pe_int (fun _ _ => rfl)) pa_nil))) pa_nil)))))
      (pss_one (ps_ret (pe_tup (pa_cons (pe_own D_law_draw_roots hr (by rfl) (pa_cons (pv 0) (pa_cons (pe_ix (ixT K) (pv 1) pe_int (fun _ _ => rfl)) (pa_cons (pv 3) pa_nil)))) (pa_cons (pe_own D_law_draw_sizes hr (by rfl) (pa_cons (pv 0) (pa_cons (pe_ix (ixT K) (pv 1) pe_int (fun _ _ => rfl)) (pa_cons (pv 3) pa_nil)))) pa_nil)))))), ?_⟩
    refine ⟨_, rfl, _, rfl, _, rfl, wa, _, 0, _, rfl, rfl, My.Same.sqt wo_le hT, rfl, (mm : Int), (n : Int), rfl, ?_⟩
    obtain ⟨b, eb, b1, b2, b3⟩ : ∃ b : Nat, (if (n : Int) < mm then (n : Int) else mm) = b ∧ 1 ≤ b ∧ b ≤ mm ∧ b ≤ n := by
      by_cases z : (n : Int) < mm
      · rw [if_pos z]
        exact ⟨n, rfl, by omega, by omega, by omega⟩
      · rw [if_neg z]
        exact ⟨mm, rfl, by omega, by omega, by omega⟩
    rw [eb]
    refine ⟨p, c, (b : Int), n0, rfl, pen, by omega, by omega, by omega, fun r H1 r0 r1 pen1 s1 => ⟨1, r, rfl, rfl, ?_⟩⟩
    obtain ⟨k, hk⟩ : ∃ k : Nat, (1 : Int) + r = k := ⟨(1 + r).toNat, by omega⟩
    dsimp only
    rw [hk]
    have hT1 := My.Same.sqt s1 hT
    refine ⟨_, rfl, _, rfl, wa, _, 0, _, rfl, rfl, My.Same.sqt wo_le hT1, rfl, _, rfl, p, c, n0 + 1, n, k, rfl, pen1, by omega, by omega, by omega, fun ra rs H2 nd hrs lrs pen2 s2 hra => ?_⟩
    have hT2 := My.Same.sqt s2 hT1
    refine ⟨_, rfl, _, rfl, wa, _, 0, _, rfl, rfl, My.Same.sqt wo_le hT2, rfl, _, rfl, p, c, n0 + 1 + n, n, k, rfl, pen2, by omega, by omega, by omega, by omega, fun sa ss H3 hss sums lss pen3 s3 hsa => ?_⟩
    refine ⟨by show 2 ≤ sizeLine; decide, fun ta hta => ?_⟩
    have s4 := My.Same.wo (p := p) (My.Same.new (o := HO.tup [V.ref ra, V.ref sa]) hta)
    have nta := Pen.ne pen3 hta
    refine q ta rs ss _ ⟨nd, hrs, by omega, by omega, hss, sums⟩ (by omega) (Pen.upd pen3 nta) (s1.trans (s2.trans (s3.trans s4))) ?_
    exact .tup (SqT.of ((wo_ne nta.1).trans upd_same)) (.cons (Dq.ofTI (My.Same.sqt (s3.trans s4) hra)) (.cons (Dq.ofTI (My.Same.sqt s4 hsa)) .nil))
end
end K03

set_option Elab.async false
set_option linter.all false
set_option maxRecDepth 100000
set_option maxHeartbeats 4000000
namespace K03
open PySem PySem.Spec PyProof.Rows L2 My
abbrev s_law_draw_web : Stmt := topS 18
theorem sc_law_draw_web : FnScope ["pen", "low", "high", "n", "way", "order", "pairs", "half", "rings", "ring", "k", "more", "other"] ["pen", "low", "high"] (defScope s_law_draw_web) := ⟨rfl, rfl, rfl, by decide +kernel, rfl, by decide +kernel, by decide +kernel⟩
section
variable {P : Program} {w : World} {K : PySem.W.Frag} {mg : Str → Option Value} {base : Heap}
theorem ok_draw_web {f : Addr} {fd : FuncData} {m : Nat} (F : Fun K "_law_draw_web" "_law_draw_web" s_law_draw_web f fd) (B : Bn mg) (D_law_take : Own P w K mg base "_law_take" m ["pen", "amount"] spTake)
    (D_law_draw_order : Own P w K mg base "_law_draw_order" m ["pen", "n"] (spOrder K)) (D_law_web : Own P w K mg base "_law_web" m ["n", "pairs"] (spWeb K)) : FnOk P w K mg base CX0 (m + 1) f fd ["pen", "low", "high"] (spDrawWeb K) := by
  refine F.ok sc_law_draw_web (fun vs H Q E h => ?_) (fun cdv A outer s H vs Q E hr h => ?_)
  · obtain ⟨p, c, n, lo, hi, rfl, _⟩ := h
    rfl
  · obtain ⟨p, c, n0, lo, hi, rfl, pen, hn, lo1, lohi, hi12, q⟩ := h
    refine ⟨_, (pss_cons (ps_asg (pe_tup (pa_cons (pe_op op_add (pv 1) (pe_own D_law_take hr (by rfl) (pa_cons (pv 0) (pa_cons (pe_op op_add (pe_op op_sub (pv 2) (pv 1)) pe_int) pa_nil)))) (pa_cons (pe_own D_law_take hr (by rfl) (pa_cons (pv 0) (pa_cons pe_int pa_nil))) pa_nil))) (pg_tupK K 2 (by rfl) (pgs_cons (pg_name (i := 3) sc_law_draw_web.nd rfl (.inr rfl)) (pgs_cons (pg_name (i := 4) sc_law_draw_web.nd rfl (.inl rfl)) pgs_nil))))
      (pss_cons (ps_asg (pe_tup (pa_cons (pe_own D_law_draw_order hr (by rfl) (pa_cons (pv 0) (pa_cons (pv 3) pa_nil))) (pa_cons (pe_lst pa_nil) pa_nil))) (pg_tupK K 2 (by rfl) (pgs_cons (pg_name (i := 5) sc_law_draw_web.nd rfl (.inr rfl)) (pgs_cons (pg_name (i := 6) sc_law_draw_web.nd rfl (.inl rfl)) pgs_nil))))
      (pss_cons (ps_if (pt_cmpR op_eq (pv 4) pe_int (nomark _)) (pss_cons (ps_setLc (i := 6) (own := [("k", 10)]) rfl sc_law_draw_web.nd rfl rfl (sw_true rfl rfl rfl (by decide +kernel)) (pi_range1 (by rfl) B.range (pa_cons (pe_own D_law_take hr (by rfl) (pa_cons (pv 0) (pa_cons (pe_op op_add (pv 3) pe_int) pa_nil))) pa_nil)) (blkOk_by (own := [("k", 10)]) (N := ["pen", "low", "high", "n", "way", "order", "pairs", "half", "rings", "ring", "k", "more", "other"]) (sc := (defScope s_law_draw_web)) (by decide +kernel)) (fun _ _ _ _ _ => (pg_name (i := 10) sc_law_draw_web.nd rfl (.inl rfl))) (fun _ _ _ _ _ => pts_nil) (fun _ _ _ _ _ => (pe_tup (pa_cons (pe_own D_law_take hr (by rfl) (pa_cons (pv 0) (pa_cons (pv 3) pa_nil))) (pa_cons (pe_own D_law_take hr (by rfl) (pa_cons (pv 0) (pa_cons (pv 3) pa_nil))) pa_nil)))))
      (pss_one (ps_ret (pe_own D_law_web hr (by rfl) (pa_cons (pv 3) (pa_cons (pv 6) pa_nil)))))) pss_nil)
      (pss_cons (ps_if (pt_cmpR (inQ K) (pv 4) (pe_lst (pa_cons pe_int (pa_cons pe_int pa_nil))) (by rfl)) (pss_cons (ps_set (i := 6) sc_law_draw_web.nd rfl (.inl rfl) (pe_op op_cat (pe_lc (own := [("k", 10)]) (by rfl) sc_law_draw_web.nd (pi_range2 (by rfl) B.range (pa_cons (pe_op op_sub pe_int (pv 4)) (pa_cons (pv 3) pa_nil))) (blkOk_by (own := [("k", 10)]) (N := ["pen", "low", "high", "n", "way", "order", "pairs", "half", "rings", "ring", "k", "more", "other"]) (sc := (defScope s_law_draw_web)) (by decide +kernel)) (fun _ _ _ _ _ => (pg_name (i := 10) sc_law_draw_web.nd rfl (.inl rfl))) (fun _ _ _ _ _ => pts_nil) (fun _ _ _ _ _ => (pe_tup (pa_cons (pe_ix (ixT K) (pv 5) (pe_op op_sub (pv 10) pe_int) (fun _ _ => rfl)) (pa_cons (pe_ix (ixT K) (pv 5) (pv 10) (fun _ _ => rfl)) pa_nil))))) (pe_lst (pa_cons (pe_tup (pa_cons (pe_ix (ixT K) (pv 5) pe_int (fun _ _ => rfl)) (pa_cons (pe_ix (ixT K) (pv 5) (pe_op op_mul pe_int (pe_callTy call_int1 (by rfl) B.int_ (by decide +kernel) (pa_cons (pe_cmpR op_gt (pv 3) pe_int (nomark _)) pa_nil))) (fun _ _ => rfl)) pa_nil))) pa_nil))))
      (pss_one (ps_ret (pe_own D_law_web hr (by rfl) (pa_cons (pv 3) (pa_cons (pe_op op_cat (pv 6) (pe_op op_rep (pe_lst (pa_cons (pe_tup (pa_cons (pe_ix (ixT K) (pv 5) pe_int (fun _ _ => rfl)) (pa_cons (pe_ix (ixT K) (pv 5) (pe_op op_sub (pv 3) pe_int) (fun _ _ => rfl)) pa_nil))) pa_nil)) (pe_op op_sub (pv 4) pe_int))) pa_nil)))))) pss_nil)
      (pss_cons (ps_if (pt_cmpR op_eq (pv 4) pe_int (nomark _)) (pss_one (ps_ret (pe_own D_law_web hr (by rfl) (pa_cons (pv 3) (pa_cons (pe_lc (own := [("other", 12)]) (by rfl) sc_law_draw_web.nd (pi_tupK K (pv 5)) (blkOk_by (own := [("other", 12)]) (N := ["pen", "low", "high", "n", "way", "order", "pairs", "half", "rings", "ring", "k", "more", "other"]) (sc := (defScope s_law_draw_web)) (by decide +kernel)) (fun _ _ _ _ _ => (pg_name (i := 12) sc_law_draw_web.nd rfl (.inl rfl))) (fun _ _ _ _ _ => pts_nil) (fun _ _ _ _ _ => (pe_tup (pa_cons (pe_ix (ixT K) (pv 5) pe_int (fun _ _ => rfl)) (pa_cons (pv 12) pa_nil))))) pa_nil))))) pss_nil)
      (C8.pss_cut (ps_if ((pw_and (pt_cmpR op_eq (pv 4) pe_int (nomark _)) (pw_and1 (pt_cmpR op_gt (pv 3) pe_int (nomark _))))).pt (pss_cons (ps_set (i := 7) sc_law_draw_web.nd rfl (.inl rfl) (pe_op op_add pe_int (pe_own D_law_take hr (by rfl) (pa_cons (pv 0) (pa_cons (pe_op op_sub (pv 3) pe_int) pa_nil)))))
      (pss_cons (ps_set (i := 8) sc_law_draw_web.nd rfl (.inl rfl) (pe_lst (pa_cons (pe_slice (slT K) (pv 5) po_none (po_some (pe_op op_add (pv 7) pe_int))) (pa_cons (pe_slice (slT K) (pv 5) (po_some (pv 7)) po_none) pa_nil))))
      (pss_cons (ps_for PassesOwn.never rfl (pi_listK K (pv 8)) (pg_name (i := 9) sc_law_draw_web.nd rfl (.inr rfl)) (pss_one (ps_set (i := 6) sc_law_draw_web.nd rfl (.inl rfl) (pe_op op_cat (pv 6) (pe_lc (own := [("k", 10)]) (by rfl) sc_law_draw_web.nd (pi_range1 (by rfl) B.range (pa_cons (pe_callB (lenQ K) (by rfl) B.len (by decide +kernel) (pa_cons (pv 9) pa_nil)) pa_nil)) (blkOk_by (own := [("k", 10)]) (N := ["pen", "low", "high", "n", "way", "order", "pairs", "half", "rings", "ring", "k", "more", "other"]) (sc := (defScope s_law_draw_web)) (by decide +kernel)) (fun _ _ _ _ _ => (pg_name (i := 10) sc_law_draw_web.nd rfl (.inl rfl))) (fun _ _ _ _ _ => pts_nil) (fun _ _ _ _ _ => (pe_tup (pa_cons (pe_ix (ixT K) (pv 9) (pe_op op_sub (pv 10) pe_int) (fun _ _ => rfl)) (pa_cons (pe_ix (ixT K) (pv 9) (pv 10) (fun _ _ => rfl)) pa_nil)))))))))
      (pss_one (ps_ret (pe_own D_law_web hr (by rfl) (pa_cons (pv 3) (pa_cons (pv 6) pa_nil)))))))) pss_nil)
      (pss_cons (ps_for PassesOwn.never rfl (pi_range2 (by rfl) B.range (pa_cons pe_int (pa_cons (pv 3) pa_nil))) (pg_name (i := 10) sc_law_draw_web.nd rfl (.inl rfl)) (pss_one (ps_expr (pe_bmK K PySem.F.plainAttrs_list PySem.F.slot_list_append PySem.F.type_list_append mt_append (pv 6) (pa_cons (pe_tup (pa_cons (pe_ix (ixT K) (pv 5) (pe_own D_law_take hr (by rfl) (pa_cons (pv 0) (pa_cons (pv 10) pa_nil))) (fun _ _ => rfl)) (pa_cons (pe_ix (ixT K) (pv 5) (pv 10) (fun _ _ => rfl)) pa_nil))) pa_nil)))))
      (pss_cons (ps_set (i := 11) sc_law_draw_web.nd rfl (.inl rfl) (pe_ix (ixL K) (pe_lst (pa_cons pe_int (pa_cons pe_int (pa_cons pe_int (pa_cons pe_int (pa_cons pe_int (pa_cons pe_int (pa_cons pe_int (pa_cons (pv 3) (pa_cons (pe_op op_mul pe_int (pv 3)) pa_nil)))))))))) (pv 4) (fun _ _ => rfl)))
      (pss_one (ps_ret (pe_own D_law_web hr (by rfl) (pa_cons (pv 3) (pa_cons (pe_op op_cat (pv 6) (pe_lc (own := [("k", 10)]) (by rfl) sc_law_draw_web.nd (pi_range1 (by rfl) B.range (pa_cons (pv 11) pa_nil)) (blkOk_by (own := [("k", 10)]) (N := ["pen", "low", "high", "n", "way", "order", "pairs", "half", "rings", "ring", "k", "more", "other"]) (sc := (defScope s_law_draw_web)) (by decide +kernel)) (fun _ _ _ _ _ => (pg_name (i := 10) sc_law_draw_web.nd rfl (.inl rfl))) (fun _ _ _ _ _ => pts_nil) (fun _ _ _ _ _ => (pe_tup (pa_cons (pe_own D_law_take hr (by rfl) (pa_cons (pv 0) (pa_cons (pv 3) pa_nil))) (pa_cons (pe_own D_law_take hr (by rfl) (pa_cons (pv 0) (pa_cons (pv 3) pa_nil))) pa_nil)))))) pa_nil))))))))))))), ?_⟩
    -- n, way
    refine ⟨_, rfl, _, rfl, _, rfl, _, rfl, (hi : Int), (lo : Int), rfl, rfl, _, 1, rfl, rfl, p, c, _, n0, rfl, pen, by omega, by omega, by omega, fun r1 H1 r10 r11 pen1 s1 => ⟨_, r1, rfl, rfl, ?_⟩⟩
    refine ⟨_, rfl, p, c, 9, n0 + 1, rfl, pen1, by omega, by decide, by decide, fun way H2 w0 w1 pen2 s2 => ?_⟩
    refine ⟨by show 2 ≤ sizeLine; decide, fun t1 ht1 => ?_⟩
    refine ⟨t1, _, rfl, SqT.of upd_same, rfl, _, _, rfl, _, _, rfl, rfl, ?_⟩
    obtain ⟨k, hk⟩ : ∃ k : Nat, (lo : Int) + r1 = k := ⟨((lo : Int) + r1).toNat, by omega⟩
    have nt1 := Pen.ne pen2 ht1
    have pen3 := Pen.upd (o := HO.tup [V.int ((lo : Int) + r1), V.int way]) pen2 nt1
    have s3 : Same (wo p H) (wo p (upd H2 t1 (.tup [V.int ((lo : Int) + r1), V.int way]))) := s1.trans (s2.trans (My.Same.wo (My.Same.new ht1)))
    generalize upd H2 t1 (.tup [V.int ((lo : Int) + r1), V.int way]) = H3 at pen3 s3 ⊢
    dsimp only
    rw [hk]
    have hklo : lo ≤ k := by omega
    have hkhi : k ≤ hi := by omega
    clear hk r10 r11 r1
    -- order, pairs
    refine ⟨_, rfl, _, rfl, p, c, n0 + 2, k, rfl, pen3, by omega, by omega, fun oa o H4 hperm pen4 s4 noa qo => ?_⟩
    have s4 := s3.trans s4
    refine ⟨by show 0 ≤ sizeLine; decide, fun pa hpa => ?_⟩
    have npa := Pen.ne pen4 hpa
    have pen5 := Pen.upd (o := HO.lst []) pen4 npa
    have sA := My.Same.new (o := HO.lst []) hpa
    refine ⟨by show 2 ≤ sizeLine; decide, fun t2 ht2 => ?_⟩
    refine ⟨t2, _, rfl, SqT.of upd_same, rfl, _, _, rfl, _, _, rfl, rfl, ?_⟩
    have nt2 := Pen.ne pen5 ht2
    have pen6 := Pen.upd (o := HO.tup [V.ref oa, V.ref pa]) pen5 nt2
    have sB := My.Same.new (o := HO.tup [V.ref oa, V.ref pa]) ht2
    have qo := My.Same.sqt (My.Same.wo (sA.trans sB)) qo
    have s6 := s4.trans (My.Same.wo (sA.trans sB))
    have epa : upd (upd H4 pa (.lst [])) t2 (.tup [V.ref oa, V.ref pa]) pa = some (.lst []) := sB _ _ upd_same
    have fpa : wo p H pa = none := s4.free (wo_none hpa)
    generalize upd (upd H4 pa (.lst [])) t2 (.tup [V.ref oa, V.ref pa]) = H6 at pen6 qo s6 epa ⊢
    clear pen1 pen2 pen3 pen4 pen5 s1 s2 s3 s4 sA sB hpa ht2 ht1
    -- what the order is
    have olen : o.length = k := by rw [hperm.length_eq, ups_len]
    have oat : ∀ (i : Int), 0 ≤ i → i < k → ∃ x : Int, 0 ≤ x ∧ x < k ∧ atI (o.map V.int) i = some (.int x) := fun i i0 i1 => by
      obtain ⟨x, e, h⟩ := at_int (cs := o) i0 (by omega)
      have hx := mem_ups.mp (hperm.mem_iff.mp (List.mem_of_getElem? e))
      exact ⟨x, hx.1, hx.2, h⟩
    -- what every way ends with: the pairs, then _law_web
    have fin : ∀ (la : Addr) (H7 : Hp) (j i : Nat), Pen H7 p c j → j ≤ n0 + 200 → Same (wo p H) (wo p H7) → PL K k H7 la i → i < 64 → spWeb K [.int k, .ref la] H7 Q E0 := by
      intro la H7 j i pj hj s7 hpl h64
      obtain ⟨us, ps, el, lps, hb, hus⟩ := hpl
      refine ⟨k, la, us, ps, rfl, .inl (SqL.of el), hus, by omega, fun s hs => ?_, fun qa T H8 hcan s8 nq hd => ?_⟩
      · have := hb s hs
        omega
      · obtain ⟨ul, epl⟩ := Pen.lst (Pen.same s8 pj)
        exact q qa k T H8 hklo hkhi (hcan.web hb) (Pen.mono (Pen.same s8 pj) hj) (s7.trans (My.Same.wo s8)) (s7.free (wo_none nq)) (web_wo hd epl)
    -- if way == 0
    refine ⟨_, rfl, rfl, _, rfl, ite2 (fun e => ?_) (fun e => ?_)⟩
    · refine ⟨_, rfl, _, rfl, (k : Int), 1, rfl, rfl, p, c, _, n0 + 2 + k, rfl, pen6, by omega, by omega, by omega, fun r H7 r0 r1 pen7 s7 => ?_⟩
      refine ⟨_, rfl, by omega, by omega, fun D hD => ?_⟩
      refine draw_pairs (K := K) (k := k) hD (fun _ => rfl) (fun _ => rfl) (fun _ => rfl) pen7 (by omega) (by omega) (by omega) (by omega) ?_
      generalize hm0 : r.toNat = m0
      intro H8 us ps pen8 s8 eD lps hps hus
      refine ⟨_, rfl, _, rfl, ?_⟩
      exact fin D H8 _ m0 pen8 (by omega) (s6.trans (s7.trans s8)) ⟨us, ps, eD, lps, hps, DpAll.same (wo_le.trans wo_le) hus⟩ (by omega)
    -- if way in [2, 3]
    refine ⟨_, rfl, by show 2 ≤ sizeLine; decide, fun l1 hl1 => ?_⟩
    refine ⟨l1, _, rfl, .inl (SqL.of upd_same), rfl, rfl, _, rfl, ite2 (fun e2 => ?_) (fun e2 => ?_)⟩
    · have hw := in_two e2
      have sL := My.Same.new (o := HO.lst [V.int 2, V.int 3]) hl1
      have pen7 := Pen.same sL pen6
      have s7 := s6.trans (My.Same.wo sL)
      have qo7 := My.Same.sqt wo_le (My.Same.sqt (My.Same.wo sL) qo)
      generalize upd H6 l1 (.lst [V.int 2, V.int 3]) = H7 at pen7 s7 qo7 ⊢
      refine ⟨_, rfl, 4, way, rfl, rfl, _, rfl, _, _, rfl, ⟨by omega, by omega, by omega, by omega⟩, fun D hD => ?_⟩
      refine lc_range (fun j H3 => PairsAt K k H7 D j H3) (PairsAt.start hD) ?_ ?_
      · rintro j H8 hj hP
        have qo8 := My.Same.sqt hP.1 qo7
        obtain ⟨x, x0, x1, hx⟩ := oat (4 - way + (j : Int) - 1) (by omega) (by omega)
        obtain ⟨y, y0, y1, hy⟩ := oat (4 - way + (j : Int)) (by omega) (by omega)
        refine ⟨rfl, _, rfl, _, rfl, _, 1, rfl, rfl, oa, _, _, _, rfl, rfl, qo8, hx, _, rfl, _, rfl, oa, _, _, _, rfl, rfl, qo8, hy, by show 2 ≤ sizeLine; decide, fun t ht => ?_⟩
        exact hP.push hD ht ⟨x0, x1⟩ ⟨y0, y1⟩ (by omega)
      · intro H8 hP
        have qo8 := My.Same.sqt hP.1 qo7
        obtain ⟨x, x0, x1, hx⟩ := oat 0 (by omega) (by omega)
        -- order[1 * int(n > 1)]
        have hb : ∃ b : Int, (if decide ((1 : Int) < k) = true then (1 : Int) else 0) = b ∧ 0 ≤ b ∧ b < k := by
          by_cases z : (1 : Int) < k
          · rw [decide_eq_true z]
            exact ⟨1, rfl, by decide, z⟩
          · rw [decide_eq_false z]
            exact ⟨0, rfl, by decide, by omega⟩
        obtain ⟨b, eb, b0, b1⟩ := hb
        obtain ⟨y, y0, y1, hy⟩ := oat (1 * b) (by omega) (by omega)
        refine ⟨_, rfl, oa, _, 0, _, rfl, rfl, qo8, hx, _, rfl, _, rfl, _, 1, rfl, rfl, .inr ⟨_, rfl, ?_⟩⟩
        rw [eb]
        refine ⟨1, b, rfl, rfl, .inl ⟨by decide, by decide⟩, oa, _, _, _, rfl, rfl, qo8, hy, by show 2 ≤ sizeLine; decide, fun t ht => ?_⟩
        refine ⟨by show 1 ≤ sizeLine; decide, fun l2 hl2 => ?_⟩
        have hone := PL.one (K := K) (k := k) ht hl2 ⟨x0, x1⟩ ⟨y0, y1⟩
        have sT := (My.Same.new (o := HO.tup [V.int x, V.int y]) ht).trans (My.Same.new (o := HO.lst [V.ref t]) hl2)
        obtain ⟨us, vs, e1, e3, hsz, hcat⟩ := PL.cat (hP.pl.same sT) hone (by omega)
        refine ⟨D, l2, us, vs, rfl, rfl, e1, e3, hsz, fun pl hpl => ?_⟩
        have hp9 := hcat pl hpl
        have s9 := hP.1.trans (sT.trans (My.Same.new (o := HO.lst (us ++ vs)) hpl))
        have pen9 := Pen.same s9 pen7
        have sw9 := s7.trans (My.Same.wo s9)
        have qo9 := My.Same.sqt s9 qo7
        generalize upd _ pl (.lst (us ++ vs)) = H9 at hp9 s9 pen9 sw9 qo9 ⊢
        -- return _law_web(n, pairs + [(order[0], order[n - 1])] * (way - 2))
        obtain ⟨z, z0, z1, hz⟩ := oat ((k : Int) - 1) (by omega) (by omega)
        refine ⟨_, rfl, _, rfl, _, rfl, oa, _, 0, _, rfl, rfl, qo9, hx, _, rfl, _, rfl, (k : Int), 1, rfl, rfl, oa, _, _, _, rfl, rfl, qo9, hz, by show 2 ≤ sizeLine; decide, fun t3 ht3 => ?_⟩
        refine ⟨by show 1 ≤ sizeLine; decide, fun l3 hl3 => ?_⟩
        have hone3 := PL.one (K := K) (k := k) ht3 hl3 ⟨x0, x1⟩ ⟨z0, z1⟩
        have s10 := (My.Same.new (o := HO.tup [V.int x, V.int z]) ht3).trans (My.Same.new (o := HO.lst [V.ref t3]) hl3)
        refine ⟨_, rfl, way, 2, rfl, rfl, l3, _, _, rfl, rfl, upd_same, by omega, by omega, ?_, fun l4 hl4 => ?_⟩
        · show 1 * (way - 2).toNat ≤ sizeLine
          exact small (by omega)
        have hl4L : ∃ i, i ≤ 1 ∧ PL K k (upd (upd (upd H9 t3 (.tup [V.int x, V.int z])) l3 (.lst [V.ref t3])) l4 (.lst (List.replicate (way - 2).toNat [V.ref t3]).flatten)) l4 i := by
          rcases hw with rfl | rfl
          · exact ⟨0, by decide, [], [], upd_same, rfl, (fun _ h => nomatch h), .nil⟩
          · obtain ⟨us3, ps3, f1, f2, f3, f4⟩ := hone3
            refine ⟨1, by decide, [V.ref t3], ps3, upd_same, f2, f3, ?_⟩
            rw [upd_same] at f1
            cases f1
            exact DpAll.same (My.Same.new hl4) f4
        obtain ⟨i, hi1, hl4P⟩ := hl4L
        have s11 := s10.trans (My.Same.new (o := HO.lst (List.replicate (way - 2).toNat [V.ref t3]).flatten) hl4)
        obtain ⟨us2, vs2, g1, g3, hsz2, hcat2⟩ := PL.cat (hp9.same s11) hl4P (by omega)
        refine ⟨pl, l4, us2, vs2, rfl, rfl, g1, g3, hsz2, fun p5 hp5 => ?_⟩
        have s12 := s11.trans (My.Same.new (o := HO.lst (us2 ++ vs2)) hp5)
        exact fin p5 _ _ _ (Pen.same s12 pen9) (by omega) (sw9.trans (My.Same.wo s12)) (hcat2 p5 hp5) (by omega)
    -- if way == 4
    refine ⟨_, rfl, rfl, _, rfl, ite2 (fun e4 => ?_) (fun e4 => ?_)⟩
    · have sL := My.Same.new (o := HO.lst [V.int 2, V.int 3]) hl1
      have pen7 := Pen.same sL pen6
      have s7 := s6.trans (My.Same.wo sL)
      have qo7 := My.Same.sqt wo_le (My.Same.sqt (My.Same.wo sL) qo)
      generalize upd H6 l1 (.lst [V.int 2, V.int 3]) = H7 at pen7 s7 qo7 ⊢
      refine ⟨_, rfl, _, rfl, oa, rfl, ⟨_, qo7⟩, fun D hD => ?_⟩
      refine lc_tup (xs := o.map V.int) (fun j H3 => PairsAt K k H7 D j H3) (PairsAt.start hD) (fun j H3 _ hP => My.Same.sqt hP.1 qo7) ?_ ?_
      · rintro j x H8 ex hP
        have qo8 := My.Same.sqt hP.1 qo7
        obtain ⟨x0, x00, x01, hx0⟩ := oat 0 (by omega) (by omega)
        obtain ⟨y, rfl, y0, y1⟩ : ∃ y, x = .int y ∧ 0 ≤ y ∧ y < k := by
          rw [List.getElem?_map] at ex
          cases e : o[j]? with
          | none => rw [e] at ex; cases ex
          | some y =>
            rw [e] at ex
            have := mem_ups.mp (hperm.mem_iff.mp (List.mem_of_getElem? e))
            exact ⟨y, (Option.some.inj ex).symm, this.1, this.2⟩
        have hj : j < o.length := by
          have := (List.getElem?_eq_some_iff.mp ex).1
          rwa [List.length_map] at this
        refine ⟨rfl, _, rfl, oa, _, 0, _, rfl, rfl, qo8, hx0, _, rfl, by show 2 ≤ sizeLine; decide, fun t ht => ?_⟩
        exact hP.push hD ht ⟨x00, x01⟩ ⟨y0, y1⟩ (by omega)
      · intro H8 hP
        rw [List.length_map] at hP
        exact fin D H8 _ _ (Pen.same hP.1 pen7) (by omega) (s7.trans (My.Same.wo hP.1)) hP.pl (by omega)
    -- if way == 5 and n > 4: else the rest, from the state as it is
    have sL := My.Same.new (o := HO.lst [V.int 2, V.int 3]) hl1
    have pen7 := Pen.same sL pen6
    have s7 := s6.trans (My.Same.wo sL)
    have qo7 := My.Same.sqt (My.Same.wo sL) qo
    have epa7 := sL _ _ epa
    generalize upd H6 l1 (.lst [V.int 2, V.int 3]) = H7 at pen7 s7 qo7 epa7 ⊢
    refine ⟨fun σ H' => σ = [some (.ref p), some (.int lo), some (.int hi), some (.int k), some (.int way), some (.ref oa), some (.ref pa), none, none, none, none, none, none] ∧ H' = H7, ?_, ?_⟩
    · refine ⟨_, rfl, rfl, _, rfl, ite2 (fun e5 => ?_) (fun e5 => iteF ⟨rfl, rfl⟩)⟩
      refine ⟨_, rfl, (k : Int), 4, rfl, rfl, _, rfl, ite2 (fun e6 => ?_) (fun e6 => ⟨rfl, rfl⟩)⟩
      have hk4 : (4 : Int) < k := dT e6
      -- half
      refine ⟨_, rfl, _, rfl, (k : Int), 4, rfl, rfl, p, c, _, n0 + 2 + k, rfl, pen7, by omega, by omega, by omega, fun r H8 r0 r1 pen8 s8 => ⟨2, r, rfl, rfl, ?_⟩⟩
      have qo8 := My.Same.sqt wo_le (My.Same.sqt s8 qo7)
      have epa8 := (wo_some (s8 _ _ ((wo_ne npa.1).trans epa7))).2
      have s8 := s7.trans s8
      -- rings
      refine ⟨_, rfl, _, rfl, _, 1, rfl, rfl, _, rfl, slT_any qo8 fun b1 H9 s9 q1 => ?_⟩
      refine ⟨_, rfl, _, rfl, _, rfl, ?_⟩
      unfold tNoPart
      refine slT_any (My.Same.sqt s9 qo8) fun b2 H10 s10 q2 => ?_
      refine ⟨by show 2 ≤ sizeLine; decide, fun ra hra => ?_⟩
      obtain ⟨r1, er1, hr1, lr1⟩ := cutV_ints (o := o) (lo := none) (hi := some (2 + r + 1))
      obtain ⟨r2, er2, hr2, lr2⟩ := cutV_ints (o := o) (lo := some (2 + r)) (hi := none)
      rw [er1] at q1
      rw [er2] at q2
      have sR := My.Same.new (o := HO.lst [V.ref b1, V.ref b2]) hra
      have q1 := My.Same.sqt (s10.trans sR) q1
      have q2 := My.Same.sqt sR q2
      have pen11 := Pen.same (s9.trans (s10.trans sR)) pen8
      have s11 := s8.trans (My.Same.wo (s9.trans (s10.trans sR)))
      have epa11 := sR _ _ (s10 _ _ (s9 _ _ epa8))
      have era : upd H10 ra (.lst [V.ref b1, V.ref b2]) ra = some (.lst [V.ref b1, V.ref b2]) := upd_same
      generalize upd H10 ra (.lst [V.ref b1, V.ref b2]) = H11 at q1 q2 pen11 s11 epa11 era ⊢
      refine ⟨_, rfl, ra, rfl, ⟨_, SqL.of era⟩, ?_⟩
      refine for_list (xs := [V.ref b1, V.ref b2]) (fun j σ H' => ∃ (pl : Addr) (x9 : Option V) (i : Nat), σ = [some (.ref p), some (.int lo), some (.int hi), some (.int k), some (.int way), some (.ref oa), some (.ref pl), some (.int (2 + r)), some (.ref ra), x9, none, none, none] ∧ Same H11 H' ∧ PL K k H' pl i ∧ i ≤ 12 * j) ?_ ?_ ?_ ?_
      · exact ⟨pa, none, 0, rfl, Same.refl _, ⟨[], [], epa11, rfl, (fun _ h => nomatch h), .nil⟩, by omega⟩
      · rintro j σ H' _ ⟨_, _, _, _, sm, _⟩
        exact SqL.of (sm _ _ era)
      · rintro j x σ H12 ex ⟨pl, x9, i, rfl, sm, hpl, hi⟩
        obtain ⟨b, rr, rfl, qb, hrr, lrr⟩ : ∃ (b : Addr) (rr : List Int), x = .ref b ∧ SqT K H12 b (rr.map V.int) ∧ (∀ x ∈ rr, x ∈ o) ∧ rr.length ≤ 12 := by
          match j, ex with
          | 0, ex => exact ⟨b1, r1, (Option.some.inj ex).symm, My.Same.sqt sm q1, hr1, by omega⟩
          | 1, ex => exact ⟨b2, r2, (Option.some.inj ex).symm, My.Same.sqt sm q2, hr2, by omega⟩
        have hin : ∀ x ∈ rr, 0 ≤ x ∧ x < k := fun x hx => mem_ups.mp (hperm.mem_iff.mp (hrr x hx))
        refine ⟨_, rfl, _, rfl, b, _, rfl, .inr qb, _, rfl, by omega, by rw [List.length_map]; omega, fun D hD => ?_⟩
        rw [Int.toNat_natCast, List.length_map]
        refine lc_range (fun j H3 => PairsAt K k H12 D j H3) (PairsAt.start hD) ?_ ?_
        · rintro t H13 ht hP
          have qb3 := My.Same.sqt hP.1 qb
          obtain ⟨x, mx, hx⟩ := at_back (r := rr) (i := 0 + (t : Int) - 1) (by omega) (by omega) (by omega)
          obtain ⟨y, my, hy⟩ := at_back (r := rr) (i := 0 + (t : Int)) (by omega) (by omega) (by omega)
          refine ⟨rfl, _, rfl, _, rfl, _, 1, rfl, rfl, b, _, _, _, rfl, rfl, qb3, hx, _, rfl, _, rfl, b, _, _, _, rfl, rfl, qb3, hy, by show 2 ≤ sizeLine; decide, fun t3 ht3 => ?_⟩
          exact hP.push hD ht3 (hin x mx) (hin y my) (by omega)
        · intro H13 hP
          obtain ⟨us, vs, e1, e3, hsz, hcat⟩ := PL.cat (hpl.same hP.1) hP.pl (by
            have : j < 2 := (List.getElem?_eq_some_iff.mp ex).1
            omega)
          refine ⟨pl, D, us, vs, rfl, rfl, e1, e3, hsz, fun p5 hp5 => ?_⟩
          exact ⟨p5, _, _, rfl, sm.trans (hP.1.trans (My.Same.new hp5)), hcat p5 hp5, by omega⟩
      · rintro σ H12 ⟨pl, x9, i, rfl, sm, hpl, hi⟩
        refine ⟨_, rfl, _, rfl, ?_⟩
        have hi2 : i ≤ 24 := hi
        exact fin pl H12 _ i (Pen.same sm pen11) (by omega) (s11.trans (My.Same.wo sm)) hpl (by omega)
    · rintro σ H' ⟨rfl, rfl⟩
      -- for k in range(1, n): pairs.append(..)
      refine ⟨_, rfl, 1, _, rfl, ⟨by decide, by decide, by omega, by omega⟩, ?_⟩
      refine for_range (fun j σ H2 => ∃ (x10 : Option V), σ = [some (.ref p), some (.int lo), some (.int hi), some (.int k), some (.int way), some (.ref oa), some (.ref pa), none, none, none, x10, none, none] ∧ Pen H2 p c (n0 + 2 + k + j) ∧ Same (wo p H) (wo p H2) ∧ SqT K (wo p H2) oa (o.map V.int) ∧
        ∃ (us : List V) (ps : List (Int × Int)), H2 pa = some (.lst us) ∧ ps.length = j ∧ (∀ s ∈ ps, (0 ≤ s.1 ∧ s.1 < k) ∧ 0 ≤ s.2 ∧ s.2 < k) ∧ DpAll K (wo pa (wo p H2)) us ((ps.map prI).map tI)) ?_ ?_ ?_
      · exact ⟨none, rfl, pen7, s7, qo7, [], [], epa7, rfl, (fun _ h => nomatch h), .nil⟩
      · rintro j σ H8 hj ⟨x10, rfl, pen8, s8, qo8, us, ps, ep8, lps, hps, hus⟩
        refine ⟨_, rfl, .inl ⟨rfl, _, SqL.of ep8⟩, ?_⟩
        refine ⟨_, rfl, _, rfl, _, rfl, p, c, _, _, rfl, pen8, by omega, by omega, by omega, fun r H9 r0 r1 pen9 s9 => ?_⟩
        have qo9 := My.Same.sqt s9 qo8
        have ep8' : wo p H8 pa = some (.lst us) := (wo_ne npa.1).trans ep8
        have ep9' := s9 _ _ ep8'
        have ep9 := (wo_some ep9').2
        obtain ⟨x, x0, x1, hx⟩ := oat r r0 (by omega)
        obtain ⟨y, y0, y1, hy⟩ := oat (1 + (j : Int)) (by omega) (by omega)
        refine ⟨oa, _, _, _, rfl, rfl, My.Same.sqt wo_le qo9, hx, _, rfl, _, rfl, oa, _, _, _, rfl, rfl, My.Same.sqt wo_le qo9, hy, by show 2 ≤ sizeLine; decide, fun t ht => ?_⟩
        have nt := Pen.ne pen9 ht
        have htp : t ≠ pa := (ne_of_none ep9 ht).symm
        have sT := My.Same.new (o := HO.tup [V.int x, V.int y]) ht
        refine ⟨pa, us, .ref t, rfl, rfl, sT _ _ ep9, ?_, ?_⟩
        · rw [My.DpAll.len hus, List.length_map, List.length_map]
          exact smallT (by omega)
        · have pen10 := Pen.upd (o := HO.lst (us ++ [V.ref t])) (Pen.upd (o := HO.tup [V.int x, V.int y]) pen9 nt) npa
          obtain ⟨g1, g2⟩ := push (DpAll.same (My.Same.wo (s9.trans (My.Same.wo sT))) hus) (Dp.ofTI (K := K) (a := t) (ns := prI (x, y)) (SqT.of ((wo_ne htp).trans ((wo_ne nt.1).trans upd_same))))
          refine ⟨_, rfl, pen10, ?_, ?_, us ++ [.ref t], ps ++ [(x, y)], upd_same, ?_, ?_, ?_⟩
          · rw [wo_upd npa.1]
            exact My.Same.updD (s8.trans (s9.trans (My.Same.wo sT))) fpa
          · rw [wo_upd npa.1]
            exact My.Same.sqt wo_le (My.Same.sqt My.Same.put (sqt_wo (My.Same.sqt (My.Same.wo sT) qo9) ((wo_ne npa.1).trans (sT _ _ ep9))))
          · rw [List.length_append, lps]
            rfl
          · intro z hz
            rcases List.mem_append.mp hz with hz | hz
            · exact hps z hz
            · rw [List.mem_singleton.mp hz]
              exact ⟨⟨x0, x1⟩, y0, y1⟩
          · rw [wo_upd npa.1, List.map_append, List.map_append]
            exact g2
      · rintro σ H8 ⟨x10, rfl, pen8, s8, qo8, us, ps, ep8, lps, hps, hus⟩
        have lk : ps.length + 1 = k := by omega
        -- more
        refine ⟨_, rfl, _, rfl, 3, (k : Int), rfl, rfl, .inl ⟨by decide, by decide⟩, by show 9 ≤ sizeLine; decide, fun ml hml => ?_⟩
        obtain ⟨mo, mo1, hmo⟩ : ∃ mo : Nat, mo ≤ 36 ∧ atI [V.int 0, V.int 1, V.int 0, V.int 0, V.int 0, V.int 2, V.int 3, V.int k, V.int (3 * (k : Int))] way = some (.int mo) := by
          have hc : way = 0 ∨ way = 1 ∨ way = 2 ∨ way = 3 ∨ way = 4 ∨ way = 5 ∨ way = 6 ∨ way = 7 ∨ way = 8 := by omega
          rcases hc with e | e | e | e | e | e | e | e | e <;> subst e
          · exact ⟨0, by decide, rfl⟩
          · exact ⟨1, by decide, rfl⟩
          · exact ⟨0, by decide, rfl⟩
          · exact ⟨0, by decide, rfl⟩
          · exact ⟨0, by decide, rfl⟩
          · exact ⟨2, by decide, rfl⟩
          · exact ⟨3, by decide, rfl⟩
          · exact ⟨k, by omega, rfl⟩
          · refine ⟨3 * k, by omega, ?_⟩
            show some (V.int (3 * (k : Int))) = _
            rw [Int.natCast_mul]
            rfl
        refine ⟨_, rfl, ml, _, way, _, rfl, rfl, SqL.of upd_same, hmo, ?_⟩
        have sM := My.Same.new (o := HO.lst [V.int 0, V.int 1, V.int 0, V.int 0, V.int 0, V.int 2, V.int 3, V.int k, V.int (3 * (k : Int))]) hml
        have pen9 := Pen.same sM pen8
        have s9 := s8.trans (My.Same.wo sM)
        have hpl : PL K k (wo p (upd H8 ml (.lst [V.int 0, V.int 1, V.int 0, V.int 0, V.int 0, V.int 2, V.int 3, V.int k, V.int (3 * (k : Int))]))) pa ps.length :=
          ⟨us, ps, (My.Same.wo sM) _ _ ((wo_ne npa.1).trans ep8), rfl, hps, DpAll.same (wo_le.trans (My.Same.wo sM)) hus⟩
        generalize upd H8 ml _ = H9 at pen9 s9 hpl ⊢
        -- return _law_web(n, pairs + [..])
        refine ⟨_, rfl, _, rfl, _, rfl, _, rfl, by omega, by omega, fun D hD => ?_⟩
        rw [Int.toNat_natCast]
        refine draw_pairs (K := K) (k := k) hD (fun _ => rfl) (fun _ => rfl) (fun _ => rfl) pen9 (by omega) (by omega) (by omega) (by omega) ?_
        intro H10 us2 ps2 pen10 s10 eD lps2 hps2 hus2
        have hp1 : PL K k H10 pa ps.length := (hpl.same s10).same wo_le
        have hp2 : PL K k H10 D mo := ⟨us2, ps2, eD, lps2, hps2, DpAll.same (wo_le.trans wo_le) hus2⟩
        obtain ⟨ua, ub, f1, f2, fz, fcat⟩ := PL.cat hp1 hp2 (by omega)
        refine ⟨pa, D, ua, ub, rfl, rfl, f1, f2, fz, fun p5 hp5 => ?_⟩
        have s11 := My.Same.new (o := HO.lst (ua ++ ub)) hp5
        exact fin p5 _ _ _ (Pen.same s11 pen10) (by omega) (s9.trans (s10.trans (My.Same.wo s11))) (fcat p5 hp5) (by omega)
end
end K03

set_option Elab.async false
set_option linter.all false
set_option maxRecDepth 100000
set_option maxHeartbeats 4000000
namespace K03
open PySem PySem.Spec PyProof.Rows L2 My
abbrev s_law_odd : Stmt := topS 13
theorem sc_law_odd : FnScope ["pen"] ["pen"] (defScope s_law_odd) := ⟨rfl, rfl, rfl, by decide +kernel, rfl, by decide +kernel, by decide +kernel⟩
section
variable {P : Program} {w : World} {K : PySem.W.Frag} {mg : Str → Option Value} {base : Heap}
theorem ok_odd {f : Addr} {fd : FuncData} {m : Nat} (F : Fun K "_law_odd" "_law_odd" s_law_odd f fd) (B : Bn mg) (D_law_one_of : Own P w K mg base "_law_one_of" m ["pen", "some"] (spOneOf K)) : FnOk P w K mg base CX0 (m + 1) f fd ["pen"] (spOdd K) := by
  refine F.ok sc_law_odd (fun vs H Q E h => ?_) (fun cdv A outer s H vs Q E hr h => ?_)
  · obtain ⟨p, c, n, av, rfl, _⟩ := h
    rfl
  · obtain ⟨p, c, n, av, rfl, pen, hn, hpav, hp, q⟩ := h
    refine ⟨_, (pss_one (ps_ret (pe_own D_law_one_of hr (by rfl) (pa_cons (pv 0) (pa_cons (pe_lst (pa_cons pe_non (pa_cons pe_bl (pa_cons pe_bl (pa_cons pe_int (pa_cons pe_int (pa_cons (pe_un un_neg pe_int) (pa_cons pe_str (pa_cons pe_str (pa_cons (pe_tup pa_nil) (pa_cons (pe_lst pa_nil) (pa_cons pe_dnewK (pa_cons (pe_tup (pa_cons pe_int pa_nil)) (pa_cons (pe_tup (pa_cons pe_int (pa_cons pe_int pa_nil))) (pa_cons (pe_lst (pa_cons (pe_tup pa_nil) pa_nil)) (pa_cons (pe_tup (pa_cons (pe_tup pa_nil) pa_nil)) (pa_cons pe_int (pa_cons (pe_op op_pow pe_int pe_int) pa_nil)))))))))))))))))) pa_nil))))), ?_⟩
    refine ⟨_, rfl, ?_⟩
    refine (EvQ.lst (K := K) hp (EvA.cons (EvQ.c .non) <| EvA.cons (EvQ.c (.bl true)) <| EvA.cons (EvQ.c (.bl false)) <| EvA.cons (EvQ.c (.int 0)) <| EvA.cons (EvQ.c (.int 1)) <| EvA.cons (EvQ.pure (v := .int (-1)) (fun _ _ q => ⟨1, rfl, q⟩) (.int (-1))) <|
      EvA.cons (EvQ.c (.str "")) <| EvA.cons (EvQ.c (.str "a")) <| EvA.cons (EvQ.tup hp EvA.nil (by decide)) <| EvA.cons (EvQ.lst hp EvA.nil (by decide)) <| EvA.cons (EvQ.dict hp) <| EvA.cons (EvQ.tup hp (EvA.cons (EvQ.c (.int 0)) EvA.nil) (by decide)) <|
      EvA.cons (EvQ.tup hp (EvA.cons (EvQ.c (.int 0)) (EvA.cons (EvQ.c (.int 0)) EvA.nil)) (by decide)) <| EvA.cons (EvQ.lst hp (EvA.cons (EvQ.tup hp EvA.nil (by decide)) EvA.nil) (by decide)) <| EvA.cons (EvQ.tup hp (EvA.cons (EvQ.tup hp EvA.nil (by decide)) EvA.nil) (by decide)) <|
      EvA.cons (EvQ.c (.int 99)) <| EvA.cons (EvQ.pure (v := .int (10 ^ 20)) (fun _ _ q => ⟨10, 20, rfl, rfl, ⟨by decide, by decide, by decide⟩, q⟩) (.int (10 ^ 20))) EvA.nil) (by decide)) H (fun _ _ e => e) _ (fun x H1 s1 hx => ?_)
    cases hx with
    | lst hl hxs =>
    have hlen := hxs.len
    refine ⟨p, c, n, _, _, rfl, Pen.same s1 pen, by omega, (wos_wo hpav).seq hl, by rw [hlen]; decide, by rw [hlen]; decide, fun j x H2 ej pen2 s2 => ?_⟩
    obtain ⟨d, hd, hx⟩ := hxs.mem ej
    refine q x d H2 (Dq.same (My.Same.wos_of hpav s2) hx) ?_ pen2 ((My.Same.wo s1).trans s2)
    have i10 : Sm 0 0 (.int (10 ^ 20)) := Sm.int (by decide)
    have nilT : Sm 0 1 (.tuple []) := SmAll.tuple SmAll.nil
    have nilL : Sm 0 1 (.list []) := SmAll.list SmAll.nil
    have i0 : Sm 0 0 (.int 0) := Sm.int (by decide)
    simp only [List.mem_cons, List.not_mem_nil, or_false] at hd
    rcases hd with rfl | rfl | rfl | rfl | rfl | rfl | rfl | rfl | rfl | rfl | rfl | rfl | rfl | rfl | rfl | rfl | rfl
    · exact Sm.none.mono (by decide) (by decide)
    · exact Sm.bool.mono (by decide) (by decide)
    · exact Sm.bool.mono (by decide) (by decide)
    · exact i0.mono (by decide) (by decide)
    · exact (Sm.int (i := 1) (by decide)).mono (by decide) (by decide)
    · exact (Sm.int (i := -1) (by decide)).mono (by decide) (by decide)
    · exact Sm.str0.mono (by decide) (by decide)
    · exact Sm.strA.mono (by decide) (by decide)
    · exact nilT.mono (by decide) (by decide)
    · exact nilL.mono (by decide) (by decide)
    · exact Sm.dict0.mono (by decide) (by decide)
    · exact (SmAll.tuple (SmAll.cons i0 SmAll.nil)).mono (by decide) (by decide)
    · exact (SmAll.tuple (SmAll.cons i0 (SmAll.cons i0 SmAll.nil))).mono (by decide) (by decide)
    · exact (SmAll.list (SmAll.cons nilT SmAll.nil)).mono (by decide) (by decide)
    · exact (SmAll.tuple (SmAll.cons nilT SmAll.nil)).mono (by decide) (by decide)
    · exact (Sm.int (i := 99) (by decide)).mono (by decide) (by decide)
    · exact i10.mono (by decide) (by decide)
end
end K03

set_option Elab.async false
set_option linter.all false
set_option maxRecDepth 100000
set_option maxHeartbeats 4000000
namespace K03
open PySem PySem.Spec PyProof.Rows L2 My
abbrev s_law_bent : Stmt := topS 14
theorem sc_law_bent : FnScope ["pen", "value", "found", "way", "k"] ["pen", "value"] (defScope s_law_bent) := ⟨rfl, rfl, rfl, by decide +kernel, rfl, by decide +kernel, by decide +kernel⟩
section
variable {P : Program} {w : World} {K : PySem.W.Frag} {mg : Str → Option Value} {base : Heap}
theorem ok_bent {f : Addr} {fd : FuncData} {m j : Nat} (F : Fun K "_law_bent" "_law_bent" s_law_bent f fd) (B : Bn mg) (D_law_take : Own P w K mg base "_law_take" m ["pen", "amount"] spTake) (D_law_one_of : Own P w K mg base "_law_one_of" m ["pen", "some"] (spOneOf K)) (D_law_odd : Own P w K mg base "_law_odd" m ["pen"] (spOdd K)) (D_law_bent : Own P w K mg base "_law_bent" m ["pen", "value"] (spBent K j)) : FnOk P w K mg base CX0 (m + 1) f fd ["pen", "value"] (spBent K (j + 1)) := by
  refine F.ok sc_law_bent (fun vs H Q E h => ?_) (fun cdv A outer s H vs Q E hr h => ?_)
  · obtain ⟨p, c, n, W, e, v, d, av, rfl, _⟩ := h
    rfl
  · obtain ⟨p, c, n, W, e, v, d, av, rfl, pen, hn, he, ti, sm, hd, hW, hpav, hav, q⟩ := h
    refine ⟨_, (C8.pss_cut (ps_if ((pw_and (pt_val (pe_callB (isi K) (by rfl) B.isinstance (by decide +kernel) (pa_cons (pv 1) (pa_cons (pe_bltn (v := .ty "int") (by rfl) B.int_ (by decide +kernel) rfl) pa_nil)))) (pw_and1 (pt_cmpR op_gt (pe_own D_law_take hr (by rfl) (pa_cons (pv 0) (pa_cons pe_int pa_nil))) pe_int (nomark _))))).pt (pss_one (ps_ret (pe_own D_law_one_of hr (by rfl) (pa_cons (pv 0) (pa_cons (pe_lst (pa_cons (pe_op op_add (pv 1) pe_int) (pa_cons (pe_op op_sub (pv 1) pe_int) (pa_cons (pe_ifExp (pt_chain op_le op_lt pe_int (pv 1) pe_int) (pe_cmpR op_eq (pv 1) pe_int (nomark _)) (pe_un un_neg (pv 1))) (pa_cons (pe_op op_mul (pv 1) pe_int) pa_nil))))) pa_nil))))) pss_nil)
      (pss_cons (ps_if ((pw_or (pt_not (pt_val (pe_callB (isiT K) (by rfl) B.isinstance (by decide +kernel) (pa_cons (pv 1) (pa_cons (pe_tup (pa_cons (pe_bltn (v := .ty "tuple") (by rfl) B.tuple_ (by decide +kernel) rfl) (pa_cons (pe_bltn (v := .ty "list") (by rfl) B.list_ (by decide +kernel) rfl) pa_nil))) pa_nil))))) (pw_or (pt_cmpR op_eq (pe_callB (lenQ K) (by rfl) B.len (by decide +kernel) (pa_cons (pv 1) pa_nil)) pe_int (nomark _)) (pw_or1 (pt_cmpR op_eq (pe_own D_law_take hr (by rfl) (pa_cons (pv 0) (pa_cons pe_int pa_nil))) pe_int (nomark _)))))).pt (pss_one (ps_ret (pe_own D_law_odd hr (by rfl) (pa_cons (pv 0) pa_nil)))) pss_nil)
      (pss_cons (ps_par3 (i := 2) (j := 3) (l := 4) (by rfl) sc_law_bent.nd rfl rfl rfl (by decide) (by decide) (by decide) rfl rfl rfl (pa_cons (pe_callTy (listOf K) (by rfl) B.list_ (by decide +kernel) (pa_cons (pv 1) pa_nil)) (pa_cons (pe_own D_law_take hr (by rfl) (pa_cons (pv 0) (pa_cons pe_int pa_nil))) (pa_cons (pe_own D_law_take hr (by rfl) (pa_cons (pv 0) (pa_cons (pe_callB (lenQ K) (by rfl) B.len (by decide +kernel) (pa_cons (pv 1) pa_nil)) pa_nil))) pa_nil))) (by rfl))
      (C8.pss_cut (ps_if (pt_cmpR op_lt (pv 3) pe_int (nomark _)) (pss_one (ps_asg (pe_own D_law_bent hr (by rfl) (pa_cons (pv 0) (pa_cons (pe_ix (ixL K) (pv 2) (pv 4) (fun _ _ => rfl)) pa_nil))) (pg_sub (pv 2) (pv 4) set_list))) (pss_one (ps_set (i := 2) sc_law_bent.nd rfl (.inl rfl) (pe_ix (ixL K) (pe_lst (pa_cons (pe_op op_cat (pe_slice (slL K) (pv 2) po_none (po_some (pv 4))) (pe_slice (slL K) (pv 2) (po_some (pe_op op_add (pv 4) pe_int)) po_none)) (pa_cons (pe_op op_cat (pv 2) (pe_slice (slL K) (pv 2) (po_some (pv 4)) (po_some (pe_op op_add (pv 4) pe_int)))) (pa_cons (pe_revL (pv 2)) pa_nil)))) (pe_op op_sub (pv 3) pe_int) (fun _ _ => rfl)))))
      (pss_one (ps_ret (pe_ifExp (pt_cmpR op_eq (pe_callB (isi K) (by rfl) B.isinstance (by decide +kernel) (pa_cons (pv 1) (pa_cons (pe_bltn (v := .ty "tuple") (by rfl) B.tuple_ (by decide +kernel) rfl) pa_nil))) (pe_cmpR op_gt (pe_own D_law_take hr (by rfl) (pa_cons (pv 0) (pa_cons pe_int pa_nil))) pe_int (nomark _)) (nomark _)) (pe_callTy (tupleOf K) (by rfl) B.tuple_ (by decide +kernel) (pa_cons (pv 2) pa_nil)) (pv 2)))))))), ?_⟩
    -- whatever comes, _law_odd may answer
    have odd : ∀ (H1 : Hp) (j : Nat), Pen H1 p c j → j ≤ n + 5 → Same (wo p H) (wo p H1) → spOdd K [.ref p] H1 Q E0 := fun H1 j pen1 hj s1 =>
      ⟨p, c, j, av, rfl, pen1, by omega, hpav, hav.of s1 (Pen.at pen1), fun x d1 H2 hx sm1 pen2 s2 => q x d1 H2 hx (sm1.mono (by omega) (by omega)) (pen2.mono (by omega)) (s1.trans s2)⟩
    have cs : (∃ i : Int, d = .int i ∧ i.natAbs ≤ 1000000) ∨ ∃ e1 ds, e = e1 + 1 ∧ d = .tuple ds ∧ ∀ x ∈ ds, Ti e1 x := by
      cases e with
      | zero => exact .inl ti
      | succ e1 =>
        rcases ti with t | ⟨ds, e2, h⟩
        · exact .inl t
        · exact .inr ⟨e1, ds, rfl, e2, h⟩
    clear ti
    refine ⟨fun σ1 H1 => σ1 = L2.start ["pen", "value", "found", "way", "k"] [V.ref p, v] ∧ Pen H1 p c (n + 1) ∧ Same (wo p H) (wo p H1), ?_, ?_⟩
    · -- isinstance(value, int) and ..
      rcases cs with ⟨i, rfl, hi⟩ | ⟨e1, ds, rfl, rfl, hds⟩
      · cases hd
        refine isiV .int rfl (kInt i) ⟨_, rfl, ?_⟩
        refine ⟨_, rfl, p, c, 4, n, rfl, pen, by omega, by decide, by decide, fun r H1 r0 r1 pen1 s1 => ⟨r, 0, rfl, rfl, _, rfl, ?_⟩⟩
        dsimp only
        split
        · refine ⟨_, rfl, ?_⟩
          have hp1 := hav.of s1 (Pen.at pen1)
          have third : ∃ d3, Sm 0 0 d3 ∧ EvQ K av H1 (L2.start ["pen", "value", "found", "way", "k"] [V.ref p, V.int i]) (tIf
                        (tTest
                          (tChain (rI0 fun i j => V.bl (decide (i ≤ j))) (rI0 fun i j => V.bl (decide (i < j)))
                            (tC (V.int 0)) (tVar 1) (tC (V.int 2))))
                        (tOp rEq (tVar 1) (tC (V.int 1))) (tUn (rU fun i => V.int (-i)) (tVar 1))) d3 := by
            by_cases h0 : (0 : Int) ≤ i
            · by_cases h1 : i < 2
              · refine ⟨_, Sm.bool, EvQ.pure (v := .bl (decide (V.int i = V.int 1))) (fun H2 Q2 q2 => ?_) (.bl _)⟩
                refine ⟨_, rfl, 0, i, rfl, rfl, _, rfl, ?_⟩
                rw [if_pos (decide_eq_true h0)]
                refine ⟨i, 2, rfl, rfl, _, rfl, ?_⟩
                dsimp only
                rw [if_pos (decide_eq_true h1)]
                exact ⟨_, rfl, rfl, q2⟩
              · refine ⟨_, Sm.int (i := -i) (by omega), EvQ.pure (v := .int (-i)) (fun H2 Q2 q2 => ?_) (.int _)⟩
                refine ⟨_, rfl, 0, i, rfl, rfl, _, rfl, ?_⟩
                rw [if_pos (decide_eq_true h0)]
                refine ⟨i, 2, rfl, rfl, _, rfl, ?_⟩
                dsimp only
                rw [if_neg (fun z => h1 (of_decide_eq_true z))]
                exact ⟨_, rfl, _, rfl, q2⟩
            · refine ⟨_, Sm.int (i := -i) (by omega), EvQ.pure (v := .int (-i)) (fun H2 Q2 q2 => ?_) (.int _)⟩
              refine ⟨_, rfl, 0, i, rfl, rfl, _, rfl, ?_⟩
              rw [if_neg (fun z => h0 (of_decide_eq_true z))]
              refine ⟨_, rfl, ?_⟩
              exact ⟨_, rfl, _, rfl, q2⟩
          obtain ⟨d3, sm3, ev3⟩ := third
          refine (EvQ.lst (K := K) hp1 (EvA.cons (EvQ.pure (v := .int (i + 1)) (fun _ _ q => ⟨_, rfl, _, _, rfl, rfl, q⟩) (.int (i + 1))) <| EvA.cons (EvQ.pure (v := .int (i - 1)) (fun _ _ q => ⟨_, rfl, _, _, rfl, rfl, q⟩) (.int (i - 1))) <|
            EvA.cons ev3 <| EvA.cons (EvQ.pure (v := .int (i * 1000)) (fun _ _ q => ⟨_, rfl, _, _, rfl, rfl, .inr (by decide), q⟩) (.int (i * 1000))) EvA.nil) (by simp)) H1 (fun _ _ e => e) _ (fun x H2 s2 hx => ?_)
          cases hx with
          | lst hl hxs =>
          have hlen := hxs.len
          refine ⟨p, c, n + 1, _, _, rfl, Pen.same s2 pen1, by omega, (wos_wo hpav).seq hl, by rw [hlen]; simp, by rw [hlen]; simp, fun j x H3 ej pen3 s3 => ?_⟩
          obtain ⟨d', hd', hx'⟩ := hxs.mem ej
          refine q x d' H3 (Dq.same (My.Same.wos_of hpav s3) hx') ?_ (pen3.mono (by omega)) ((s1.trans (My.Same.wo s2)).trans s3)
          simp only [List.mem_cons, List.not_mem_nil, or_false] at hd'
          rcases hd' with rfl | rfl | rfl | rfl
          · exact (Sm.int (by omega)).mono (by omega) (by omega)
          · exact (Sm.int (by omega)).mono (by omega) (by omega)
          · exact sm3.mono (by omega) (by omega)
          · exact (Sm.int (by omega)).mono (by omega) (by omega)
        · exact ⟨rfl, pen1, s1⟩
      · cases hd with
        | tup hT hxs =>
        exact isiV .int rfl (sqt_knd (My.Same.sqt wos_le hT)) ⟨_, rfl, rfl, pen.mono (by omega), fun _ _ e => e⟩
    rintro σ1 H1 ⟨rfl, pen1, s1⟩
    rcases cs with ⟨i, rfl, hi⟩ | ⟨e1, ds, rfl, rfl, hds⟩
    · cases hd
      refine isiV2 .tup .lst rfl (kInt i) (fun H2 s2 => ⟨_, rfl, ?_⟩)
      exact ⟨_, rfl, odd H2 (n + 1) (Pen.same s2 pen1) (by omega) (s1.trans (My.Same.wo s2))⟩
    cases hd with
    | tup hT hxs =>
    rename_i a xs
    have hlen := hxs.len
    have smI := Sm.items sm
    have hW2 : xs.length ≤ W := by
      rw [hlen]
      exact smI.len
    refine isiV2 .tup .lst rfl (sqt_knd (My.Same.sqt wos_le (My.Same.sqt (My.Same.wos_of hpav s1) hT))) (fun H2 s2 => ⟨_, rfl, ?_⟩)
    have pen2 := Pen.same s2 pen1
    have s2 := s1.trans (My.Same.wo s2)
    clear pen1 s1
    refine ⟨_, rfl, a, xs, rfl, .inr (My.Same.sqt wos_le (My.Same.sqt (My.Same.wos_of hpav s2) hT)), rfl, _, rfl, ?_⟩
    dsimp only
    split
    · exact ⟨_, rfl, odd H2 (n + 1) pen2 (by omega) s2⟩
    rename_i hne
    have hne : 0 < xs.length := by
      have := dIntN hne
      omega
    refine ⟨_, rfl, p, c, 8, n + 1, rfl, pen2, by omega, by decide, by decide, fun r H3 r0 r1 pen3 s3 => ⟨rfl, _, rfl, ?_⟩⟩
    have s3 := s2.trans s3
    clear pen2 s2
    dsimp only
    split
    · exact ⟨_, rfl, odd H3 (n + 2) pen3 (by omega) s3⟩
    -- found, way, k
    refine ⟨_, rfl, a, xs, rfl, .inr (My.Same.sqt wos_le (My.Same.sqt (My.Same.wos_of hpav s3) hT)), fun fa hfa => ?_⟩
    dsimp only
    have nfa := Pen.ne pen3 hfa
    have fav : fa ∉ av := (hav.of s3 (Pen.at pen3)).fresh hfa
    have ffa : wo p H fa = none := s3.free (wo_none hfa)
    have pen4 := Pen.upd (o := HO.lst xs) pen3 nfa
    have s4 := s3.trans (My.Same.wo (My.Same.new (o := HO.lst xs) hfa))
    have efa : wo p (upd H3 fa (.lst xs)) fa = some (.lst xs) := (wo_ne nfa.1).trans upd_same
    generalize upd H3 fa (.lst xs) = H4 at pen4 s4 efa ⊢
    refine ⟨_, rfl, p, c, 10, n + 2, rfl, pen4, by omega, by decide, by decide, fun way H5 w0 w1 pen5 s5 => ?_⟩
    have efa := s5 _ _ efa
    have s5 := s4.trans s5
    refine ⟨_, rfl, _, rfl, a, xs, rfl, .inr (My.Same.sqt wos_le (My.Same.sqt (My.Same.wos_of hpav s5) hT)), p, c, (xs.length : Int), n + 3, rfl, pen5, by omega, by omega, by omega, fun k H6 k0 k1 pen6 s6 => ?_⟩
    have efa := s6 _ _ efa
    have efa := (wo_some efa).2
    have s6 := s5.trans s6
    have hav6 := hav.of s6 (Pen.at pen6)
    refine ⟨_, _, _, rfl, ?_⟩
    clear pen3 pen4 pen5 s3 s4 s5 hfa
    have hmul : (e1 + 3) * W = (e1 + 2) * W + W := Nat.succ_mul ..
    have hmul2 : 2 * W ≤ (e1 + 3) * W := Nat.mul_le_mul_right W (by omega)
    refine ⟨fun σ1 H1 => ∃ (w' k' : V) (fb : Addr) (ys : List V) (es : List PyData), σ1 = [some (.ref p), some (.ref a), some (.ref fb), some w', some k'] ∧ Pen H1 p c (n + 4 + 10 * (e1 + 1)) ∧ Same (wo p H) (wo p H1) ∧ SqL K (wos av H1) fb ys ∧ DqAll K (wos av H1) ys es ∧ SmAll ((e1 + 3) * W + 2) (e1 + 3) es, ?_, ?_⟩
    · refine ⟨_, rfl, way, 7, rfl, rfl, _, rfl, ?_⟩
      dsimp only
      split
      · -- found[k] = _law_bent(pen, found[k])
        obtain ⟨xk, ek, hk⟩ := at_get (xs := xs) k0 k1
        obtain ⟨dk, hdk, hxk⟩ := hxs.mem ek
        have hav7 : Avs (fa :: av) H6 := fun b hb => by
          rcases List.mem_cons.mp hb with rfl | hb
          · exact ⟨_, efa⟩
          · exact hav6 b hb
        refine ⟨_, rfl, _, rfl, _, rfl, fa, xs, k, xk, rfl, rfl, SqL.of efa, hk, p, c, n + 4, W, e1, xk, dk, fa :: av, rfl, pen6, by omega, by omega, hds dk hdk, smI.mem hdk, Dq.same (wos_more hpav ffa s6) hxk, hW, List.mem_cons_of_mem _ hpav, hav7, fun x d' H7 hx smx pen7 sx => ?_⟩
        have efa7 := (wo_some (sx _ _ ((wo_ne nfa.1).trans efa))).2
        have s8 := wo_updD (o := HO.lst (xs.set k.toNat x)) (s6.trans sx) ffa
        refine ⟨_, rfl, _, rfl, fa, xs, k, k.toNat, rfl, rfl, efa7, by unfold ixN; rw [if_pos k0, if_pos k1], ?_⟩
        refine ⟨_, _, fa, _, ds.set k.toNat d', rfl, Pen.upd (pen7.mono (by omega)) nfa, s8, SqL.of ((wos_in fav).trans upd_same), DqAll.set _ (DqAll.same (My.Same.wos_of hpav s8) hxs) (Dq.same wos_updD hx), ?_⟩
        exact (SmAll.set k.toNat (smI.mono (Nat.le_refl W) (Nat.le_add_right e1 3)) smx).mono (by omega) (Nat.le_refl _)
      · -- found = [..][way - 7]
        rename_i hway
        have hway : ¬ way < 7 := fun z => hway (decide_eq_true z)
        obtain ⟨a1, ha1, sa1⟩ := DqAll.cut none (some k) hxs smI
        obtain ⟨a2, ha2, sa2⟩ := DqAll.cut (some (k + 1)) none hxs smI
        obtain ⟨a3, ha3, sa3⟩ := DqAll.cut (some k) (some (k + 1)) hxs smI
        have l1 := cutV_length xs none (some k)
        have l2 := cutV_length xs (some (k + 1)) none
        have l3 := cutV_length xs (some k) (some (k + 1))
        have sz : ∀ z : Nat, z ≤ 2000 → z ≤ sizeLine := fun z hz => by
          rw [sizeLine_eq]
          omega
        have sw := My.Same.wos_of hpav s6
        refine tAsg_op ?_
        refine (EvQ.lst (K := K) hav6 (EvA.cons (d := .list (a1 ++ a2)) (fun H7 s7 Q7 q7 => ?_) <| EvA.cons (d := .list (ds ++ a3)) (fun H7 s7 Q7 q7 => ?_) <| EvA.cons (d := .list ds.reverse) (fun H7 s7 Q7 q7 => ?_) EvA.nil) (by simp)) H6 (fun _ _ e => e) _ (fun x H7 s7 hx => ?_)
        · have eF := s7 _ _ efa
          refine ⟨_, rfl, _, rfl, k, rfl, fa, xs, rfl, SqL.of eF, fun q1 h1 => ?_⟩
          have t1 := My.Same.new (o := HO.lst (cutV xs none (some k))) h1
          refine ⟨_, rfl, _, rfl, k, 1, rfl, rfl, k + 1, rfl, fa, xs, rfl, SqL.of (t1 _ _ eF), fun q2 h2 => ?_⟩
          have t2 := My.Same.new (o := HO.lst (cutV xs (some (k + 1)) none)) h2
          refine ⟨q1, q2, _, _, rfl, rfl, t2 _ _ upd_same, upd_same, sz _ (by omega), fun q3 h3 => ?_⟩
          have t3 := My.Same.new (o := HO.lst (cutV xs none (some k) ++ cutV xs (some (k + 1)) none)) h3
          have tt := t1.trans (t2.trans t3)
          have n3 := (hav6.same (s7.trans (t1.trans t2))).fresh h3
          exact q7 _ _ tt (.lst (SqL.of ((wos_in n3).trans upd_same)) (DqAll.same (sw.trans (My.Same.wos (s7.trans tt))) (DqAll.append ha1 ha2)))
        · have eF := s7 _ _ efa
          refine ⟨_, rfl, _, rfl, _, rfl, k, rfl, _, rfl, k, 1, rfl, rfl, k + 1, rfl, fa, xs, rfl, SqL.of eF, fun q2 h2 => ?_⟩
          have t2 := My.Same.new (o := HO.lst (cutV xs (some k) (some (k + 1)))) h2
          refine ⟨fa, q2, xs, _, rfl, rfl, t2 _ _ eF, upd_same, sz _ (by omega), fun q3 h3 => ?_⟩
          have t3 := My.Same.new (o := HO.lst (xs ++ cutV xs (some k) (some (k + 1)))) h3
          have tt := t2.trans t3
          have n3 := (hav6.same (s7.trans t2)).fresh h3
          exact q7 _ _ tt (.lst (SqL.of ((wos_in n3).trans upd_same)) (DqAll.same (sw.trans (My.Same.wos (s7.trans tt))) (DqAll.append hxs ha3)))
        · have eF := s7 _ _ efa
          refine ⟨_, rfl, fa, xs, rfl, SqL.of eF, fun q3 h3 => ?_⟩
          have t3 := My.Same.new (o := HO.lst xs.reverse) h3
          have n3 := (hav6.same s7).fresh h3
          exact q7 _ _ t3 (.lst (SqL.of ((wos_in n3).trans upd_same)) (DqAll.same (sw.trans (My.Same.wos (s7.trans t3))) (DqAll.reverse hxs)))
        · cases hx with
          | lst hl3 hxs3 =>
          have hlen3 := hxs3.len
          simp only [List.length_cons, List.length_nil] at hlen3
          obtain ⟨x', ex', hx'⟩ := at_get (i := way - 7) (by omega) (by rw [hlen3]; omega)
          obtain ⟨dx, hdx, hxx⟩ := hxs3.mem ex'
          obtain ⟨es, rfl, smes⟩ : ∃ es, dx = .list es ∧ SmAll (W + W) e1 es := by
            simp only [List.mem_cons, List.not_mem_nil, or_false] at hdx
            rcases hdx with rfl | rfl | rfl
            · exact ⟨_, rfl, SmAll.append sa1 sa2⟩
            · exact ⟨_, rfl, SmAll.append smI sa3⟩
            · exact ⟨_, rfl, (SmAll.reverse smI).mono (by omega) (Nat.le_refl _)⟩
          cases hxx with
          | lst hl4 hxs4 =>
          refine ⟨_, rfl, way, 7, rfl, rfl, _, _, way - 7, _, rfl, rfl, wos_le.seq hl3, hx', ?_⟩
          exact ⟨_, _, _, _, es, rfl, (Pen.same s7 pen6).mono (by omega), s6.trans (My.Same.wo s7), hl4, hxs4, smes.mono (by omega) (by omega)⟩
    · -- return
      rintro σ1 H1 ⟨w', k', fb, ys, es, rfl, penR, sR, hl, hys, smes⟩
      refine isiV .tup rfl (sqt_knd (My.Same.sqt wos_le (My.Same.sqt (My.Same.wos_of hpav sR) hT))) ?_
      refine ⟨_, rfl, p, c, 12, _, rfl, penR, by omega, by decide, by decide, fun r2 H8 r20 r21 pen8 s8 => ⟨r2, 0, rfl, rfl, rfl, _, rfl, ?_⟩⟩
      have sw := My.Same.wos_of hpav s8
      have hav8 := hav.of (sR.trans s8) (Pen.at pen8)
      have hyl := hys.len
      dsimp only
      split
      · refine ⟨_, rfl, fb, ys, rfl, .inl ⟨wos_le.seq (sw.seq hl), fun l hl2 => ?_⟩⟩
        have t1 := My.Same.new (o := HO.tup ys) hl2
        have n1 := hav8.fresh hl2
        exact q _ _ _ (.tup (SqT.of ((wos_in n1).trans upd_same)) (DqAll.same (sw.trans (My.Same.wos t1)) hys)) (SmAll.tuple smes) ((Pen.same t1 pen8).mono (by omega)) ((sR.trans s8).trans (My.Same.wo t1))
      · exact ⟨_, rfl, q _ _ _ (.lst (sw.seq hl) (DqAll.same sw hys)) (SmAll.list smes) (pen8.mono (by omega)) (sR.trans s8)⟩
end
end K03

set_option Elab.async false
set_option linter.all false
set_option maxRecDepth 100000
set_option maxHeartbeats 4000000
namespace K03
open PySem PySem.Spec PyProof.Rows L2 My
abbrev s_law_same : Stmt := topS 11
theorem sc_law_same : FnScope ["found", "due", "one", "other"] ["found", "due"] (defScope s_law_same) := ⟨rfl, rfl, rfl, by decide +kernel, rfl, by decide +kernel, by decide +kernel⟩
section
variable {P : Program} {w : World} {K : PySem.W.Frag} {mg : Str → Option Value} {base : Heap}
theorem ok_same {f : Addr} {fd : FuncData} {n : Nat} (F : Fun K "_law_same" "_law_same" s_law_same f fd) (B : Bn mg) (D_law_same : Own P w K mg base "_law_same" n ["found", "due"] (spSame K n)) : FnOk P w K mg base CX0 (n + 1) f fd ["found", "due"] (spSame K (n + 1)) := by
  refine F.ok sc_law_same (fun vs H Q E h => ?_) (fun cdv A outer s H vs Q E hr h => ?_)
  · obtain ⟨p, m, d, rfl, _⟩ := h
    rfl
  · obtain ⟨x, y, d, rfl, hx, hy, fit, q⟩ := h
    refine ⟨_, (pss_cons (ps_if ((pw_or (pt_cmpR op_isN (pv 1) pe_non (nomark _)) (pw_or1 (pt_cmpR op_isN (pv 0) pe_non (nomark _))))).pt (pss_one (ps_ret (pe_and (pe_cmpR op_isN (pv 1) pe_non (nomark _)) (pe_one (pe_cmpR op_isN (pv 0) pe_non (nomark _)))))) pss_nil)
      (pss_cons (ps_if ((pw_or (pt_val (pe_callB (isi K) (by rfl) B.isinstance (by decide +kernel) (pa_cons (pv 1) (pa_cons (pe_bltn (v := .ty "bool") (by rfl) B.bool_ (by decide +kernel) rfl) pa_nil)))) (pw_or1 (pt_val (pe_callB (isi K) (by rfl) B.isinstance (by decide +kernel) (pa_cons (pv 0) (pa_cons (pe_bltn (v := .ty "bool") (by rfl) B.bool_ (by decide +kernel) rfl) pa_nil))))))).pt (pss_one (ps_ret (pe_and (pe_callB (isi K) (by rfl) B.isinstance (by decide +kernel) (pa_cons (pv 1) (pa_cons (pe_bltn (v := .ty "bool") (by rfl) B.bool_ (by decide +kernel) rfl) pa_nil))) (pe_and (pe_callB (isi K) (by rfl) B.isinstance (by decide +kernel) (pa_cons (pv 0) (pa_cons (pe_bltn (v := .ty "bool") (by rfl) B.bool_ (by decide +kernel) rfl) pa_nil))) (pe_one (pe_cmpR op_eq (pv 0) (pv 1) (nomark _))))))) pss_nil)
      (pss_cons (ps_if (pt_val (pe_callB (isiT K) (by rfl) B.isinstance (by decide +kernel) (pa_cons (pv 1) (pa_cons (pe_tup (pa_cons (pe_bltn (v := .ty "int") (by rfl) B.int_ (by decide +kernel) rfl) (pa_cons (pe_bltn (v := .ty "str") (by rfl) B.str_ (by decide +kernel) rfl) pa_nil))) pa_nil)))) (pss_cons (ps_if (pt_cmpR op_ne (pe_callB (isi K) (by rfl) B.isinstance (by decide +kernel) (pa_cons (pv 0) (pa_cons (pe_bltn (v := .ty "int") (by rfl) B.int_ (by decide +kernel) rfl) pa_nil))) (pe_callB (isi K) (by rfl) B.isinstance (by decide +kernel) (pa_cons (pv 1) (pa_cons (pe_bltn (v := .ty "int") (by rfl) B.int_ (by decide +kernel) rfl) pa_nil))) (nomark _)) (pss_one (ps_ret pe_bl)) pss_nil)
      (pss_one (ps_ret (pe_and (pe_callB (isiT K) (by rfl) B.isinstance (by decide +kernel) (pa_cons (pv 0) (pa_cons (pe_tup (pa_cons (pe_bltn (v := .ty "int") (by rfl) B.int_ (by decide +kernel) rfl) (pa_cons (pe_bltn (v := .ty "str") (by rfl) B.str_ (by decide +kernel) rfl) pa_nil))) pa_nil))) (pe_one (pe_cmpR op_eq (pv 0) (pv 1) (nomark _))))))) pss_nil)
      (pss_cons (ps_if ((pw_or (pt_cmpR op_ne (pe_callB (isi K) (by rfl) B.isinstance (by decide +kernel) (pa_cons (pv 1) (pa_cons (pe_bltn (v := .ty "tuple") (by rfl) B.tuple_ (by decide +kernel) rfl) pa_nil))) (pe_callB (isi K) (by rfl) B.isinstance (by decide +kernel) (pa_cons (pv 0) (pa_cons (pe_bltn (v := .ty "tuple") (by rfl) B.tuple_ (by decide +kernel) rfl) pa_nil))) (nomark _)) (pw_or1 (pt_cmpR op_ne (pe_callB (isi K) (by rfl) B.isinstance (by decide +kernel) (pa_cons (pv 1) (pa_cons (pe_bltn (v := .ty "list") (by rfl) B.list_ (by decide +kernel) rfl) pa_nil))) (pe_callB (isi K) (by rfl) B.isinstance (by decide +kernel) (pa_cons (pv 0) (pa_cons (pe_bltn (v := .ty "list") (by rfl) B.list_ (by decide +kernel) rfl) pa_nil))) (nomark _))))).pt (pss_one (ps_ret pe_bl)) pss_nil)
      (pss_cons (ps_if (pt_cmpR op_ne (pe_callB (lenQ K) (by rfl) B.len (by decide +kernel) (pa_cons (pv 0) pa_nil)) (pe_callB (lenQ K) (by rfl) B.len (by decide +kernel) (pa_cons (pv 1) pa_nil)) (nomark _)) (pss_one (ps_ret pe_bl)) pss_nil)
      (pss_one (ps_ret (pe_cmpR (notInQ K) pe_bl (pe_lc (own := [("one", 2), ("other", 3)]) (by rfl) sc_law_same.nd (pi_zipK K (by rfl) B.zip (pa_cons (pv 0) (pa_cons (pv 1) pa_nil))) (blkOk_by (own := [("one", 2), ("other", 3)]) (N := ["found", "due", "one", "other"]) (sc := (defScope s_law_same)) (by decide +kernel)) (fun _ _ _ _ _ => (pg_tupK K 2 (by rfl) (pgs_cons (pg_name (i := 2) sc_law_same.nd rfl (.inl rfl)) (pgs_cons (pg_name (i := 3) sc_law_same.nd rfl (.inl rfl)) pgs_nil)))) (fun _ _ _ _ _ => pts_nil) (fun _ _ _ _ _ => (pe_own D_law_same hr (by rfl) (pa_cons (pv 2) (pa_cons (pv 3) pa_nil))))) (by rfl))))))))), ?_⟩
    -- if due is None or found is None
    refine ⟨_, rfl, rfl, decide (y = .non), rfl, ?_⟩
    cases d with
    | none =>
      cases hx
      cases hy
      exact iteT (iteT ⟨_, rfl, rfl, true, rfl, iteT ⟨_, rfl, rfl, q H (Same.refl H)⟩⟩)
    | bool b =>
      cases hx
      cases hy
      refine iteFF rfl ⟨_, rfl, rfl, false, rfl, iteF ?_⟩
      refine isiV .bl rfl (kBl b) ⟨true, rfl, ?_⟩
      refine iteT (iteT ?_)
      refine isiV .bl rfl (kBl b) ⟨true, rfl, iteT ?_⟩
      refine isiV .bl rfl (kBl b) ⟨true, rfl, iteT ?_⟩
      refine ⟨_, rfl, _, rfl, rfl, ?_⟩
      rw [decide_eq_true rfl]
      exact q H (Same.refl H)
    | int i =>
      cases hx
      cases hy
      refine iteFF rfl ⟨_, rfl, rfl, false, rfl, iteF ?_⟩
      refine isiV .bl rfl (kInt i) ⟨false, rfl, iteF ?_⟩
      refine isiV .bl rfl (kInt i) ⟨false, rfl, iteF ?_⟩
      refine isiV2 .int .str rfl (kInt i) fun H1 s1 => ⟨true, rfl, iteT ?_⟩
      refine isiV .int rfl (kInt i) ?_
      refine isiV .int rfl (kInt i) ⟨rfl, false, rfl, iteF ?_⟩
      refine isiV2 .int .str rfl (kInt i) fun H2 s2 => ⟨true, rfl, iteT ?_⟩
      refine ⟨_, rfl, _, rfl, rfl, ?_⟩
      rw [decide_eq_true rfl]
      exact q _ (s1.trans s2)
    | str i =>
      cases hx
      cases hy
      refine iteFF rfl ⟨_, rfl, rfl, false, rfl, iteF ?_⟩
      refine isiV .bl rfl (kStr i) ⟨false, rfl, iteF ?_⟩
      refine isiV .bl rfl (kStr i) ⟨false, rfl, iteF ?_⟩
      refine isiV2 .int .str rfl (kStr i) fun H1 s1 => ⟨true, rfl, iteT ?_⟩
      refine isiV .int rfl (kStr i) ?_
      refine isiV .int rfl (kStr i) ⟨rfl, false, rfl, iteF ?_⟩
      refine isiV2 .int .str rfl (kStr i) fun H2 s2 => ⟨true, rfl, iteT ?_⟩
      refine ⟨_, rfl, _, rfl, rfl, ?_⟩
      rw [decide_eq_true rfl]
      exact q _ (s1.trans s2)
    | dict _ => exact fit.elim
    | list ds =>
      obtain ⟨hf, hfit⟩ := fit
      have k1 := Dp.knd hx
      have k2 := Dp.knd hy
      cases hx with
      | @lst a xs _ qa la =>
      cases hy with
      | @lst b ys _ qb lb =>
      refine iteFF rfl ⟨_, rfl, rfl, false, rfl, iteF ?_⟩
      refine isiV .bl rfl k2 ⟨false, rfl, iteF ?_⟩
      refine isiV .bl rfl k1 ⟨false, rfl, iteF ?_⟩
      refine isiV2 .int .str rfl k2 fun H1 s1 => ⟨false, rfl, iteF ?_⟩
      have qa1 := s1.seq qa
      have qb1 := s1.seq qb
      refine isiV .tup rfl (sql_knd qb1) ?_
      refine isiV .tup rfl (sql_knd qa1) ⟨rfl, false, rfl, iteF ?_⟩
      refine isiV .lst rfl (sql_knd qb1) ?_
      refine isiV .lst rfl (sql_knd qa1) ⟨rfl, false, rfl, iteF ?_⟩
      refine ⟨_, rfl, a, xs, rfl, .inl qa1, ?_⟩
      refine ⟨_, rfl, b, ys, rfl, .inl qb1, rfl, false, ?_, iteF ?_⟩
      · rw [My.DpAll.len la, My.DpAll.len lb, decide_eq_true rfl]
        rfl
      refine ⟨_, rfl, _, rfl, a, b, xs, ys, rfl, .inl ⟨qa1, qb1, ?_⟩⟩
      intro D hD
      refine lc_zipL (xs := xs) (ys := ys) (by rw [My.DpAll.len la, My.DpAll.len lb]) (fun i H3 => Same H1 H3 ∧ ∃ bs : List V, H3 D = some (.lst bs) ∧ bs.length = i ∧ ∀ b ∈ bs, b = V.bl true) ?_ ?_ ?_ ?_
      · exact ⟨My.Same.new hD, [], upd_same, rfl, fun b hb => nomatch hb⟩
      · rintro i H3 ⟨sm, _⟩
        exact ⟨sm.seq qa1, sm.seq qb1⟩
      · rintro i u v T H3 eu ev ⟨sm, bs, eD, lD, hbs⟩ hT
        obtain ⟨d1, e1, p1⟩ := My.DpAll.get la eu
        obtain ⟨d2, e2, p2⟩ := My.DpAll.get lb ev
        cases e1.symm.trans e2
        have sT := My.Same.new (o := HO.tup [u, v]) hT
        refine ⟨T, _, rfl, SqT.of upd_same, rfl, _, _, rfl, _, _, rfl, rfl, rfl, ?_⟩
        refine ⟨_, rfl, _, rfl, u, v, d1, rfl, Dp.same (s1.trans (sm.trans sT)) p1, Dp.same (s1.trans (sm.trans sT)) p2, hfit _ (List.mem_of_getElem? e1), fun H4 s4 => ?_⟩
        have hi : i < ds.length := (List.getElem?_eq_some_iff.mp e1).1
        refine ⟨bs, s4 _ _ (sT _ _ eD), smallT (by omega), ?_, bs ++ [V.bl true], upd_same, by rw [List.length_append, lD]; rfl, ?_⟩
        · intro z o e
          have hz : z ≠ D := ne_of_none e hD
          rw [upd_ne hz]
          exact s4 _ _ (sT _ _ (sm _ _ e))
        · intro z hz
          rcases List.mem_append.mp hz with hz | hz
          · exact hbs z hz
          · exact List.mem_singleton.mp hz
      · rintro H3 ⟨sm, bs, eD, lD, hbs⟩
        obtain ⟨i1, i2⟩ := notIn_all 0 bs hbs
        refine ⟨D, bs, rfl, .inl (SqL.of eD), rfl, i2, ?_⟩
        rw [i1]
        exact q H3 (s1.trans sm)
    | tuple ds =>
      obtain ⟨hf, hfit⟩ := fit
      have k1 := Dp.knd hx
      have k2 := Dp.knd hy
      cases hx with
      | @tup a xs _ qa la =>
      cases hy with
      | @tup b ys _ qb lb =>
      refine iteFF rfl ⟨_, rfl, rfl, false, rfl, iteF ?_⟩
      refine isiV .bl rfl k2 ⟨false, rfl, iteF ?_⟩
      refine isiV .bl rfl k1 ⟨false, rfl, iteF ?_⟩
      refine isiV2 .int .str rfl k2 fun H1 s1 => ⟨false, rfl, iteF ?_⟩
      have qa1 := My.Same.sqt s1 qa
      have qb1 := My.Same.sqt s1 qb
      refine isiV .tup rfl (sqt_knd qb1) ?_
      refine isiV .tup rfl (sqt_knd qa1) ⟨rfl, false, rfl, iteF ?_⟩
      refine isiV .lst rfl (sqt_knd qb1) ?_
      refine isiV .lst rfl (sqt_knd qa1) ⟨rfl, false, rfl, iteF ?_⟩
      refine ⟨_, rfl, a, xs, rfl, .inr qa1, ?_⟩
      refine ⟨_, rfl, b, ys, rfl, .inr qb1, rfl, false, ?_, iteF ?_⟩
      · rw [My.DpAll.len la, My.DpAll.len lb, decide_eq_true rfl]
        rfl
      refine ⟨_, rfl, _, rfl, a, b, xs, ys, rfl, .inr ⟨qa1, qb1, ?_⟩⟩
      intro D hD
      refine lc_zipT (xs := xs) (ys := ys) xs.length (by rw [My.DpAll.len la, My.DpAll.len lb]; omega) (fun i H3 => Same H1 H3 ∧ ∃ bs : List V, H3 D = some (.lst bs) ∧ bs.length = i ∧ ∀ b ∈ bs, b = V.bl true) ?_ ?_ ?_ ?_
      · exact ⟨My.Same.new hD, [], upd_same, rfl, fun b hb => nomatch hb⟩
      · rintro i H3 ⟨sm, _⟩
        exact ⟨My.Same.sqt sm qa1, My.Same.sqt sm qb1⟩
      · rintro i u v T H3 eu ev ⟨sm, bs, eD, lD, hbs⟩ hT
        obtain ⟨d1, e1, p1⟩ := My.DpAll.get la eu
        obtain ⟨d2, e2, p2⟩ := My.DpAll.get lb ev
        cases e1.symm.trans e2
        have sT := My.Same.new (o := HO.tup [u, v]) hT
        refine ⟨T, _, rfl, SqT.of upd_same, rfl, _, _, rfl, _, _, rfl, rfl, rfl, ?_⟩
        refine ⟨_, rfl, _, rfl, u, v, d1, rfl, Dp.same (s1.trans (sm.trans sT)) p1, Dp.same (s1.trans (sm.trans sT)) p2, hfit _ (List.mem_of_getElem? e1), fun H4 s4 => ?_⟩
        have hi : i < ds.length := (List.getElem?_eq_some_iff.mp e1).1
        refine ⟨bs, s4 _ _ (sT _ _ eD), smallT (by omega), ?_, bs ++ [V.bl true], upd_same, by rw [List.length_append, lD]; rfl, ?_⟩
        · intro z o e
          have hz : z ≠ D := ne_of_none e hD
          rw [upd_ne hz]
          exact s4 _ _ (sT _ _ (sm _ _ e))
        · intro z hz
          rcases List.mem_append.mp hz with hz | hz
          · exact hbs z hz
          · exact List.mem_singleton.mp hz
      · rintro H3 ⟨sm, bs, eD, lD, hbs⟩
        obtain ⟨i1, i2⟩ := notIn_all 0 bs hbs
        refine ⟨D, bs, rfl, .inl (SqL.of eD), rfl, i2, ?_⟩
        rw [i1]
        exact q H3 (s1.trans sm)
theorem same_all (S : At K mg "_law_same" s_law_same ["found", "due"]) (B : Bn mg) : ∀ n, Own P w K mg base "_law_same" n ["found", "due"] (spSame K n)
  | 0 => S.own fun f fd F => ⟨fun vs H Q E ⟨_, _, _, _, _, _, h, _⟩ => h.elim, fun _ _ _ _ _ _ _ _ _ _ _ _ _ ⟨_, _, _, _, _, _, h, _⟩ => h.elim⟩
  | n + 1 => S.own fun f fd F => ok_same F B (same_all S B n)
end
end K03

set_option Elab.async false
set_option linter.all false
set_option maxRecDepth 100000
set_option maxHeartbeats 0
namespace K03
open PySem PySem.Spec PyProof.Rows L2 My
def spLaw (K : PySem.W.Frag) : Sp := fun vs H Q _ => ∃ (a : Addr) (ns : List Int), vs = [.ref a] ∧ SqL K H a (ns.map V.int) ∧ ns.length ≤ 63 ∧ ∀ H', Q (.bl true) H'
abbrev s_law : Stmt := topS 23
theorem sc_law : FnScope ["script", "pen", "turn", "web", "step", "moved", "values", "value", "n", "deal", "roots", "sizes", "i", "j", "text", "k", "size", "again", "one"] ["script"] (defScope s_law) := ⟨rfl, rfl, rfl, by decide +kernel, rfl, by decide +kernel, by decide +kernel⟩
section
variable {P : Program} {w : World} {K : PySem.W.Frag} {mg : Str → Option Value} {base : Heap}
theorem ok_law {f : Addr} {fd : FuncData} {m : Nat} (F : Fun K "law" "law" s_law f fd) (B : Bn mg) (D_law_open : Own P w K mg base "_law_open" m ["script"] (spOpen K)) (D_law_take : Own P w K mg base "_law_take" m ["pen", "amount"] spTake)
    (D_law_same : Own P w K mg base "_law_same" m ["found", "due"] (spSame K 4)) (D_law_one_of : Own P w K mg base "_law_one_of" m ["pen", "some"] (spOneOf K)) (D_law_odd : Own P w K mg base "_law_odd" m ["pen"] (spOdd K)) (D_law_bent : Own P w K mg base "_law_bent" m ["pen", "value"] (spBent K 6))
    (D_law_draw_web : Own P w K mg base "_law_draw_web" m ["pen", "low", "high"] (spDrawWeb K)) (D_law_draw_deal : Own P w K mg base "_law_draw_deal" m ["pen", "web", "most"] (spDrawDeal K))
    (D_is_deal : Own P w K mg base "is_deal" m ["web", "value"] (spIsDeal K)) (D_law_is_deal : Own P w K mg base "_law_is_deal" m ["web", "value"] (spIsDeal K)) :
    FnG P w K mg base (m + 1) f fd ["script"] (spLaw K) := by
  refine okG F sc_law (fun vs H Q E h => ?_) (fun cdv A outer s H vs Q E gA hr h => ?_)
  · obtain ⟨n, k, rfl, _⟩ := h
    rfl
  · obtain ⟨a, ns, rfl, hS, hlen, q⟩ := h
    refine ⟨_, (pss_cons (ps_set (i := 1) sc_law.nd rfl (.inr rfl) (pe_own D_law_open hr (by rfl) (pa_cons (pv 0) pa_nil)))
      (pss_cons (ps_for PassesOwn.never rfl (pi_range1 (by rfl) B.range (pa_cons pe_int pa_nil)) (pg_name (i := 2) sc_law.nd rfl (.inl rfl)) (pss_cons (ps_set (i := 3) sc_law.nd rfl (.inl rfl) (pe_own D_law_draw_web hr (by rfl) (pa_cons (pv 1) (pa_cons pe_int (pa_cons (pe_own D_law_one_of hr (by rfl) (pa_cons (pv 1) (pa_cons (pe_lst (pa_cons pe_int (pa_cons pe_int pa_nil))) pa_nil))) pa_nil)))))
      (pss_cons (ps_asg (pe_tup (pa_cons (pe_ix (ixT K) (pv 3) pe_int (fun _ _ => rfl)) (pa_cons (pe_own D_law_draw_deal hr (by rfl) (pa_cons (pv 1) (pa_cons (pv 3) (pa_cons (pe_own D_law_one_of hr (by rfl) (pa_cons (pv 1) (pa_cons (pe_lst (pa_cons pe_int (pa_cons pe_int pa_nil))) pa_nil))) pa_nil)))) pa_nil))) (pg_tupK K 2 (by rfl) (pgs_cons (pg_name (i := 8) sc_law.nd rfl (.inl rfl)) (pgs_cons (pg_name (i := 9) sc_law.nd rfl (.inr rfl)) pgs_nil))))
      (pss_cons (ps_asg (pv 9) (pg_tupK K 2 (by rfl) (pgs_cons (pg_name (i := 10) sc_law.nd rfl (.inl rfl)) (pgs_cons (pg_name (i := 11) sc_law.nd rfl (.inl rfl)) pgs_nil))))
      (pss_cons (ps_asg (pe_tup (pa_cons (pe_own D_law_take hr (by rfl) (pa_cons (pv 1) (pa_cons (pe_callB (lenQ K) (by rfl) B.len (by decide +kernel) (pa_cons (pv 11) pa_nil)) pa_nil))) (pa_cons (pe_own D_law_take hr (by rfl) (pa_cons (pv 1) (pa_cons (pe_callB (lenQ K) (by rfl) B.len (by decide +kernel) (pa_cons (pv 11) pa_nil)) pa_nil))) pa_nil))) (pg_tupK K 2 (by rfl) (pgs_cons (pg_name (i := 12) sc_law.nd rfl (.inr rfl)) (pgs_cons (pg_name (i := 13) sc_law.nd rfl (.inr rfl)) pgs_nil))))
      (pss_cons (ps_set (i := 4) sc_law.nd rfl (.inr rfl) (pe_own D_law_one_of hr (by rfl) (pa_cons (pv 1) (pa_cons (pe_lst (pa_cons pe_int (pa_cons pe_int (pa_cons (pv 8) pa_nil)))) pa_nil))))
      (pss_cons (ps_set (i := 5) sc_law.nd rfl (.inl rfl) (pe_callTy (tupleOf K) (by rfl) B.tuple_ (by decide +kernel) (pa_cons (pe_lc (own := [("k", 15), ("size", 16)]) (by rfl) sc_law.nd (pi_enumTK K (by rfl) B.enumerate (pa_cons (pv 11) pa_nil)) (blkOk_by (own := [("k", 15), ("size", 16)]) (N := ["script", "pen", "turn", "web", "step", "moved", "values", "value", "n", "deal", "roots", "sizes", "i", "j", "text", "k", "size", "again", "one"]) (sc := (defScope s_law)) (by decide +kernel)) (fun _ _ _ _ _ => (pg_tupK K 2 (by rfl) (pgs_cons (pg_name (i := 15) sc_law.nd rfl (.inl rfl)) (pgs_cons (pg_name (i := 16) sc_law.nd rfl (.inl rfl)) pgs_nil)))) (fun _ _ _ _ _ => pts_nil) (fun _ _ _ _ _ => (pe_op op_sub (pe_op op_add (pv 16) (pe_op op_mul (pv 4) (pe_callTy call_int1 (by rfl) B.int_ (by decide +kernel) (pa_cons (pe_cmpR op_eq (pv 15) (pv 12) (nomark _)) pa_nil)))) (pe_op op_mul (pv 4) (pe_callTy call_int1 (by rfl) B.int_ (by decide +kernel) (pa_cons (pe_cmpR op_eq (pv 15) (pv 13) (nomark _)) pa_nil)))))) pa_nil)))
      (pss_cons (ps_set (i := 6) sc_law.nd rfl (.inl rfl) (pe_lst (pa_cons (pv 9) (pa_cons (pe_callTy (listOf K) (by rfl) B.list_ (by decide +kernel) (pa_cons (pv 9) pa_nil)) (pa_cons (pe_tup (pa_cons (pv 11) (pa_cons (pv 10) pa_nil))) (pa_cons (pe_tup (pa_cons (pv 10) (pa_cons (pv 5) pa_nil))) (pa_cons (pe_tup (pa_cons (pe_op (repT1 K) (pe_slice (slT K) (pv 10) po_none (po_some pe_int)) (pe_callB (lenQ K) (by rfl) B.len (by decide +kernel) (pa_cons (pv 10) pa_nil))) (pa_cons (pv 11) pa_nil))) pa_nil)))))))
      (pss_cons (ps_set (i := 6) sc_law.nd rfl (.inl rfl) (pe_op op_cat (pv 6) (pe_lst (pa_cons (pe_tup (pa_cons (pv 10) (pa_cons (pe_tup (pa_cons (pv 8) pa_nil)) pa_nil))) (pa_cons (pe_tup (pa_cons (pe_slice (slT K) (pv 10) po_none (po_some pe_int)) (pa_cons (pe_tup (pa_cons (pv 8) pa_nil)) pa_nil))) (pa_cons (pe_tup (pa_cons (pe_tupRg (by rfl) (by rfl) B.tuple_ (prg_1 (by rfl) B.range (pv 8))) (pa_cons (pe_op (repT1 K) (pe_tup (pa_cons pe_int pa_nil)) (pv 8)) pa_nil))) (pa_cons (pe_tup (pa_cons (pv 10) (pa_cons (pe_op (catA K) (pv 11) (pe_tup (pa_cons pe_int pa_nil))) pa_nil))) pa_nil)))))))
      (pss_cons (ps_set (i := 6) sc_law.nd rfl (.inl rfl) (pe_op op_cat (pv 6) (pe_lst (pa_cons (pe_tup (pa_cons (pe_op (catA K) (pv 10) (pe_tup (pa_cons (pv 8) pa_nil))) (pa_cons (pe_op (catA K) (pv 11) (pe_tup (pa_cons pe_int pa_nil))) pa_nil))) (pa_cons (pe_tup (pa_cons (pv 10) (pa_cons (pe_callTy (listOf K) (by rfl) B.list_ (by decide +kernel) (pa_cons (pv 11) pa_nil)) pa_nil))) (pa_cons (pe_tup (pa_cons (pv 10) (pa_cons (pe_backT K (pv 11)) pa_nil))) (pa_cons (pe_tup (pa_cons (pe_tup pa_nil) (pa_cons (pe_tup pa_nil) pa_nil))) pa_nil)))))))
      (pss_cons (ps_set (i := 6) sc_law.nd rfl (.inl rfl) (pe_op op_cat (pv 6) (pe_lst (pa_cons (pe_tup (pa_cons (pv 10) (pa_cons (pe_callTy (tupleOf K) (by rfl) B.tuple_ (by decide +kernel) (pa_cons (pe_lc (own := [("one", 18)]) (by rfl) sc_law.nd (pi_tupK K (pv 11)) (blkOk_by (own := [("one", 18)]) (N := ["script", "pen", "turn", "web", "step", "moved", "values", "value", "n", "deal", "roots", "sizes", "i", "j", "text", "k", "size", "again", "one"]) (sc := (defScope s_law)) (by decide +kernel)) (fun _ _ _ _ _ => (pg_name (i := 18) sc_law.nd rfl (.inl rfl))) (fun _ _ _ _ _ => pts_nil) (fun _ _ _ _ _ => (pe_cmpR op_eq (pv 18) pe_int (nomark _)))) pa_nil)) pa_nil))) pa_nil))))
      (pss_cons (ps_expr (pe_bmK K PySem.F.plainAttrs_list PySem.F.slot_list_append PySem.F.type_list_append mt_append (pv 6) (pa_cons (pe_tup (pa_cons (pv 10) (pa_cons (pe_callTy (tupleOf K) (by rfl) B.tuple_ (by decide +kernel) (pa_cons (pe_lc (own := [("size", 16)]) (by rfl) sc_law.nd (pi_tupK K (pv 5)) (blkOk_by (own := [("size", 16)]) (N := ["script", "pen", "turn", "web", "step", "moved", "values", "value", "n", "deal", "roots", "sizes", "i", "j", "text", "k", "size", "again", "one"]) (sc := (defScope s_law)) (by decide +kernel)) (fun _ _ _ _ _ => (pg_name (i := 16) sc_law.nd rfl (.inl rfl))) (fun _ _ _ _ _ => pts_nil) (fun _ _ _ _ _ => (pe_ifExp (pt_cmpR op_gt (pv 16) pe_int (nomark _)) (pv 16) (pe_cmpR op_eq (pv 16) pe_int (nomark _))))) pa_nil)) pa_nil))) pa_nil)))
      (pss_one (ps_for PassesOwn.never rfl (pi_listK K (pe_op op_cat (pe_op op_cat (pv 6) (pe_lc (own := [("again", 17)]) (by rfl) sc_law.nd (pi_range1 (by rfl) B.range (pa_cons pe_int pa_nil)) (blkOk_by (own := [("again", 17)]) (N := ["script", "pen", "turn", "web", "step", "moved", "values", "value", "n", "deal", "roots", "sizes", "i", "j", "text", "k", "size", "again", "one"]) (sc := (defScope s_law)) (by decide +kernel)) (fun _ _ _ _ _ => (pg_name (i := 17) sc_law.nd rfl (.inl rfl))) (fun _ _ _ _ _ => pts_nil) (fun _ _ _ _ _ => (pe_own D_law_bent hr (by rfl) (pa_cons (pv 1) (pa_cons (pv 9) pa_nil)))))) (pe_lst (pa_cons pe_non (pa_cons (pv 10) (pa_cons (pe_own D_law_odd hr (by rfl) (pa_cons (pv 1) pa_nil)) pa_nil)))))) (pg_name (i := 7) sc_law.nd rfl (.inl rfl)) (pss_cons (ps_set (i := 14) sc_law.nd rfl (.inl rfl) (pe_callB (call_reprD K gA hr.units) (by rfl) B.repr (by decide +kernel) (pa_cons (pv 7) pa_nil)))
      (pss_one (ps_if ((pw_or (pt_not (pt_val (pe_own D_law_same hr (by rfl) (pa_cons (pe_own D_is_deal hr (by rfl) (pa_cons (pv 3) (pa_cons (pv 7) pa_nil))) (pa_cons (pe_own D_law_is_deal hr (by rfl) (pa_cons (pv 3) (pa_cons (pv 7) pa_nil))) pa_nil))))) (pw_or1 (pt_cmpR op_ne (pe_callB (call_reprD K gA hr.units) (by rfl) B.repr (by decide +kernel) (pa_cons (pv 7) pa_nil)) (pv 14) (nomark _))))).pt (pss_one (ps_ret pe_bl)) pss_nil)))))))))))))))))
      (pss_one (ps_ret pe_bl)))), ?_⟩
    refine ⟨_, rfl, a, ns, rfl, hS, hlen, fun H1 p c s1 hp pen => ?_⟩
    have hpav : p ∈ [p] := List.mem_singleton.mpr rfl
    have avs : ∀ (H : Hp) (n : Nat), Pen H p c n → Avs [p] H := fun H n h b hb => by
      rw [List.mem_singleton.mp hb]
      exact Pen.at h
    clear s1 hS hp
    -- for turn in range(3)
    refine ⟨3, rfl, by omega, by omega, ?_⟩
    refine for_range (fun i σ H => ∃ (x2 x3 x4 x5 x6 x7 x8 x9 x10 x11 x12 x13 x14 : Option V), σ = [some (.ref a), some (.ref p), x2, x3, x4, x5, x6, x7, x8, x9, x10, x11, x12, x13, x14, none, none, none, none] ∧ Pen H p c (10000 * i)) ?_ ?_ ?_
    · exact ⟨none, none, none, none, none, none, none, none, none, none, none, none, none, rfl, pen⟩
    · rintro i σ H hi ⟨x2, x3, x4, x5, x6, x7, x8, x9, x10, x11, x12, x13, x14, rfl, pen0⟩
      have hi2 : i < 3 := hi
      -- web
      refine (show tSeq _ _ _ _ _ from tSeq_e (tAsg_e ?_))
      refine ⟨_, rfl, _, rfl, by show 2 ≤ sizeLine; decide, fun l hl => ?_⟩
      refine ⟨p, c, 10000 * i, l, [.int 4, .int 12], rfl, Pen.same (My.Same.new hl) pen0, by omega, SqL.of ((wo_ne (Pen.ne pen0 hl).1).trans upd_same), by simp, by simp, fun j x H3 ej pen3 s3 => ?_⟩
      obtain ⟨hw, rfl, hw1, hw12⟩ : ∃ hw : Nat, x = .int hw ∧ 1 ≤ hw ∧ hw ≤ 12 := by
        match j, ej with
        | 0, ej => exact ⟨4, (Option.some.inj ej).symm, by omega, by omega⟩
        | 1, ej => exact ⟨12, (Option.some.inj ej).symm, by omega, by omega⟩
      refine ⟨p, c, 10000 * i + 1, 1, hw, rfl, pen3, by omega, by omega, by omega, by omega, fun wq k T H4 k1 k2 hT pen4 s4 nwq hD => ?_⟩
      have k12 : k ≤ 12 := by omega
      have hW : Dq K (wo p H4) (.ref wq) (webD k T) := Dq.of hD
      clear pen0 pen3 s3 hl nwq hD s4 ej
      -- n, deal
      dsimp only
      refine (show tSeq _ _ _ _ _ from tSeq_e (tAsg_e ?_))
      obtain ⟨wq', wx, e, hWT, hwx⟩ := hW.first
      cases e
      refine ⟨_, rfl, wq, _, 0, _, rfl, rfl, My.Same.sqt wo_le hWT, rfl, ?_⟩
      refine ⟨_, rfl, _, rfl, _, rfl, by show 2 ≤ sizeLine; decide, fun l hl => ?_⟩
      refine ⟨p, c, 10000 * i + 1 + 200, l, [.int 4, .int 12], rfl, Pen.same (My.Same.new hl) pen4, by omega, SqL.of ((wo_ne (Pen.ne pen4 hl).1).trans upd_same), by simp, by simp, fun j x H5 ej pen5 s5 => ?_⟩
      have s5 := (My.Same.wo (p := p) (My.Same.new (o := HO.lst [V.int 4, V.int 12]) hl)).trans s5
      obtain ⟨hd, rfl, hd1, hd12⟩ : ∃ hd : Nat, x = .int hd ∧ 1 ≤ hd ∧ hd ≤ 12 := by
        match j, ej with
        | 0, ej => exact ⟨4, (Option.some.inj ej).symm, by omega, by omega⟩
        | 1, ej => exact ⟨12, (Option.some.inj ej).symm, by omega, by omega⟩
      have hW := Dq.same s5 hW
      refine ⟨p, c, 10000 * i + 1 + 200 + 1, k, hd, _, _, rfl, pen5, by omega, hW, by omega, by omega, by omega, by omega, fun dq rs ss H6 hok hrs pen6 s6 hDD => ?_⟩
      have hW := Dq.same s6 hW
      refine ⟨by show 2 ≤ sizeLine; decide, fun t ht => ?_⟩
      have nt := Pen.ne pen6 ht
      have st := My.Same.wo (p := p) (My.Same.new (o := HO.tup [V.int (k : Int), V.ref dq]) ht)
      have hW := Dq.same (st.trans wo_wos) hW
      have hDD := Dq.same (st.trans wo_wos) hDD
      have pen7 := Pen.upd (o := HO.tup [V.int (k : Int), V.ref dq]) pen6 nt
      refine ⟨t, _, rfl, SqT.of upd_same, rfl, _, _, rfl, _, _, rfl, rfl, ?_⟩
      generalize upd H6 t (HO.tup [V.int (k : Int), V.ref dq]) = H7 at hW hDD pen7 ⊢
      clear hl nt ht st pen4 pen5 pen6 s5 s6 hWT hwx ej
      -- roots, sizes = deal
      dsimp only
      refine (show tSeq _ _ _ [some (.ref a), some (.ref p), some (.int (0 + (i : Int))), some (.ref wq), x4, x5, x6, x7, some (.int (k : Int)), some (.ref dq), x10, x11, x12, x13, x14, none, none, none, none] _ from tSeq_e (tAsg_e ?_))
      obtain ⟨dq', xs, e, hDT, hxs⟩ := hDD.un_tup
      cases e
      cases hxs with
      | cons hR hxs =>
      cases hxs with
      | cons hZ hxs =>
      cases hxs
      refine ⟨_, rfl, dq, _, rfl, My.Same.sqt wos_le hDT, rfl, _, _, rfl, _, _, rfl, rfl, ?_⟩
      obtain ⟨ra, xr, rfl, hRT, hxr⟩ := hR.un_tup
      obtain ⟨sa, xz, rfl, hZT, hxz⟩ := hZ.un_tup
      obtain ⟨nd, rs1, rs2, lss, ss1, sums⟩ := hok
      have lxz : xz.length = ss.length := by rw [hxz.len, List.length_map]
      have lr12 : rs.length ≤ 12 := by omega
      -- i, j
      dsimp only
      refine (show tSeq _ _ _ [some (.ref a), some (.ref p), some (.int (0 + (i : Int))), some (.ref wq), x4, x5, x6, x7, some (.int (k : Int)), some (.ref dq), some (.ref ra), some (.ref sa), x12, x13, x14, none, none, none, none] _ from tSeq_e (tAsg_e ?_))
      refine ⟨_, rfl, _, rfl, sa, xz, rfl, .inr (My.Same.sqt wos_le hZT), p, c, _, 10000 * i + 1 + 200 + 1 + 1 + k + k, rfl, pen7, by omega, by omega, by omega, fun ri H8 ri0 ri1 pen8 s8 => ?_⟩
      have hZT8 := My.Same.sqt (My.Same.wos_of hpav s8) hZT
      refine ⟨_, rfl, _, rfl, sa, xz, rfl, .inr (My.Same.sqt wos_le hZT8), p, c, _, 10000 * i + 1 + 200 + 1 + 1 + k + k + 1, rfl, pen8, by omega, by omega, by omega, fun rj H9 rj0 rj1 pen9 s9 => ?_⟩
      refine ⟨by show 2 ≤ sizeLine; decide, fun t ht => ?_⟩
      have nt := Pen.ne pen9 ht
      have st := s8.trans (s9.trans (My.Same.wo (p := p) (My.Same.new (o := HO.tup [V.int ri, V.int rj]) ht)))
      have hW := Dq.same (My.Same.wos_of hpav st) hW
      have hDD := Dq.same (My.Same.wos_of hpav st) hDD
      have hR := Dq.same (My.Same.wos_of hpav st) hR
      have hZ := Dq.same (My.Same.wos_of hpav st) hZ
      have hZT := My.Same.sqt (My.Same.wos_of hpav st) hZT
      have pen10 := Pen.upd (o := HO.tup [V.int ri, V.int rj]) pen9 nt
      refine ⟨t, _, rfl, SqT.of upd_same, rfl, _, _, rfl, _, _, rfl, rfl, ?_⟩
      generalize upd H9 t (HO.tup [V.int ri, V.int rj]) = H10 at hW hDD hR hZ hZT pen10 ⊢
      clear nt ht st pen7 pen8 pen9 s8 s9 hZT8 hDT hRT
      -- step
      dsimp only
      refine (show tSeq _ _ _ [some (.ref a), some (.ref p), some (.int (0 + (i : Int))), some (.ref wq), x4, x5, x6, x7, some (.int (k : Int)), some (.ref dq), some (.ref ra), some (.ref sa), some (.int ri), some (.int rj), x14, none, none, none, none] _ from tSeq_e (tAsg_e ?_))
      refine ⟨_, rfl, _, rfl, by show 3 ≤ sizeLine; decide, fun l hl => ?_⟩
      refine ⟨p, c, 10000 * i + 1 + 200 + 1 + 1 + k + k + 1 + 1, l, [.int 1, .int 1, .int k], rfl, Pen.same (My.Same.new hl) pen10, by omega, SqL.of ((wo_ne (Pen.ne pen10 hl).1).trans upd_same), by simp, by simp, fun j x H11 ej pen11 s11 => ?_⟩
      obtain ⟨step, rfl, step0, step12⟩ : ∃ step : Int, x = .int step ∧ 0 ≤ step ∧ step ≤ 12 := by
        match j, ej with
        | 0, ej => exact ⟨1, (Option.some.inj ej).symm, by omega, by omega⟩
        | 1, ej => exact ⟨1, (Option.some.inj ej).symm, by omega, by omega⟩
        | 2, ej => exact ⟨k, (Option.some.inj ej).symm, by omega, by omega⟩
      have st := (My.Same.wo (p := p) (My.Same.new (o := HO.lst [V.int 1, V.int 1, V.int k]) hl)).trans s11
      have hW := Dq.same (My.Same.wos_of hpav st) hW
      have hDD := Dq.same (My.Same.wos_of hpav st) hDD
      have hR := Dq.same (My.Same.wos_of hpav st) hR
      have hZ := Dq.same (My.Same.wos_of hpav st) hZ
      have hZT := My.Same.sqt (My.Same.wos_of hpav st) hZT
      clear hl st s11 ej pen10
      -- moved
      dsimp only
      refine (show tSeq _ _ _ [some (.ref a), some (.ref p), some (.int (0 + (i : Int))), some (.ref wq), some (.int step), x5, x6, x7, some (.int (k : Int)), some (.ref dq), some (.ref ra), some (.ref sa), some (.int ri), some (.int rj), x14, none, none, none, none] _ from tSeq_e (tAsg_e ?_))
      have exz : xz = ss.map V.int := by
        have := DqAll.intsOf hxz (intsD_map ss)
        rw [intsOf_map] at this
        exact this
      refine ⟨_, rfl, sa, xz, rfl, My.Same.sqt wos_le hZT, fun D hD => ?_⟩
      refine lc_enumT (xs := xz) (fun j H => Same H11 H ∧ ∃ ms : List Int, H D = some (.lst (ms.map V.int)) ∧ ms.length = j ∧ ∀ x ∈ ms, x.natAbs ≤ 100) ?_ (fun j H hP => My.Same.sqt hP.1 (My.Same.sqt wos_le hZT)) ?_ ?_
      · exact ⟨My.Same.new hD, [], upd_same, rfl, fun _ h => nomatch h⟩
      · rintro j x T3 H12 ex ⟨s12, ms, eD, lms, hms⟩ hT3
        obtain ⟨z, rfl, z1, z2⟩ : ∃ z : Int, x = .int z ∧ 1 ≤ z ∧ z ≤ 12 := by
          rw [exz, List.getElem?_map] at ex
          cases e : ss[j]? with
          | none => rw [e] at ex; cases ex
          | some z =>
            rw [e] at ex
            have := ss1 z (List.mem_of_getElem? e)
            exact ⟨z, (Option.some.inj ex).symm, this.1, by omega⟩
        have sT := My.Same.new (o := HO.tup [V.int (j : Nat), V.int z]) hT3
        obtain ⟨b1, e1, b10, b11⟩ := iteB (p := V.int (j : Nat) = V.int ri)
        obtain ⟨b2, e2, b20, b21⟩ := iteB (p := V.int (j : Nat) = V.int rj)
        have m1 := mul_bd step0 step12 b10 b11
        have m2 := mul_bd step0 step12 b20 b21
        refine ⟨T3, _, rfl, SqT.of upd_same, rfl, _, _, rfl, _, _, rfl, rfl, rfl, ?_⟩
        refine ⟨_, rfl, _, rfl, _, rfl, _, rfl, rfl, .inr ⟨_, rfl, ?_⟩⟩
        rw [e1]
        refine ⟨step, b1, rfl, rfl, .inl ⟨by omega, by omega⟩, _, _, rfl, rfl, ?_⟩
        refine ⟨_, rfl, _, rfl, _, rfl, rfl, .inr ⟨_, rfl, ?_⟩⟩
        rw [e2]
        refine ⟨step, b2, rfl, rfl, .inl ⟨by omega, by omega⟩, _, _, rfl, rfl, ?_⟩
        refine ⟨ms.map V.int, sT _ _ eD, ?_, My.Same.updD (s12.trans sT) hD, ms ++ [z + step * b1 - step * b2], ?_, ?_, ?_⟩
        · rw [List.length_map, lms]
          have : j < xz.length := (List.getElem?_eq_some_iff.mp ex).1
          exact smallT (by omega)
        · rw [upd_same, List.map_append]
          rfl
        · rw [List.length_append, lms]
          rfl
        · intro y hy
          rcases List.mem_append.mp hy with hy | hy
          · exact hms y hy
          · rw [List.mem_singleton.mp hy]
            omega
      · rintro H12 ⟨s12, ms, eD, lms, hms⟩
        refine ⟨D, _, rfl, .inl ⟨SqL.of eD, fun ma hma => ?_⟩⟩
        have t1 := My.Same.new (o := HO.tup (ms.map V.int)) hma
        have pen13 := Pen.same (s12.trans t1) pen11
        have nma := (avs _ _ (Pen.same s12 pen11)).fresh hma
        have hM : Dq K (wos [p] (upd H12 ma (.tup (ms.map V.int)))) (.ref ma) (tI ms) := .tup (SqT.of ((wos_in nma).trans upd_same)) (DqAll.ints ms)
        have st := My.Same.wos (av := [p]) (s12.trans t1)
        have hW := Dq.same st hW
        have hDD := Dq.same st hDD
        have hR := Dq.same st hR
        have hZ := Dq.same st hZ
        generalize upd H12 ma (HO.tup (ms.map V.int)) = H13 at pen13 hM hW hDD hR hZ ⊢
        have lms12 : ms.length ≤ 12 := by omega
        clear st t1 nma hma eD s12 hD pen11 hZT exz lms lxz hxr hxz ri0 ri1 rj0 rj1
        have hDD : Dq K (wos [p] H13) (.ref dq) (.tuple [.tuple (rs.map PyData.int), .tuple (ss.map PyData.int)]) := hDD
        have hR : Dq K (wos [p] H13) (.ref ra) (.tuple (rs.map PyData.int)) := hR
        have hZ : Dq K (wos [p] H13) (.ref sa) (.tuple (ss.map PyData.int)) := hZ
        have hM : Dq K (wos [p] H13) (.ref ma) (.tuple (ms.map PyData.int)) := hM
        have smR : SmAll 12 0 (rs.map PyData.int) := (smInts rs fun x hx => by have := rs1 x hx; omega).mono lr12 (Nat.le_refl 0)
        have smZ : SmAll 12 0 (ss.map PyData.int) := (smInts ss fun x hx => by have := ss1 x hx; omega).mono (by omega) (Nat.le_refl 0)
        have smM : SmAll 12 0 (ms.map PyData.int) := (smInts ms fun x hx => by have := hms x hx; omega).mono lms12 (Nat.le_refl 0)
        have tiD : Ti 2 (.tuple [.tuple (rs.map PyData.int), .tuple (ss.map PyData.int)]) := .inr ⟨_, rfl, fun x hx => by
          simp only [List.mem_cons, List.not_mem_nil, or_false] at hx
          rcases hx with rfl | rfl
          · exact tiInts fun x hx => by have := rs1 x hx; omega
          · exact tiInts fun x hx => by have := ss1 x hx; omega⟩
        have iZ := intsD_map ss
        have iM := intsD_map ms
        have lR : (rs.map PyData.int).length ≤ 12 := by rw [List.length_map]; exact lr12
        have lR1 : 1 ≤ (rs.map PyData.int).length := by rw [List.length_map]; exact rs2
        have lZ : (ss.map PyData.int).length ≤ 12 := by rw [List.length_map]; omega
        have lM : (ms.map PyData.int).length ≤ 12 := by rw [List.length_map]; exact lms12
        clear nd rs1 rs2 lss ss1 sums lr12 lms12 hms hrs step0 step12
        generalize rs.map PyData.int = R at hDD hR smR tiD lR lR1
        generalize ss.map PyData.int = Z at hDD hZ smZ tiD iZ lZ
        generalize ms.map PyData.int = M at hM smM iM lM
        have smD : Sm 26 2 (.tuple [.tuple R, .tuple Z]) := SmAll.tuple (SmAll.cons (SmAll.tuple smR) (SmAll.cons (SmAll.tuple smZ) SmAll.nil))
        have ik : Sm 0 0 (.int (k : Int)) := Sm.int (by omega)
        have i0 : Sm 0 0 (.int 0) := Sm.int (by decide)
        have i1 : Sm 0 0 (.int 1) := Sm.int (by decide)
        have up : ∀ {W D : Nat} {d : PyData}, Sm W D d → W ≤ 3000 → D ≤ 8 → Sm 3000 8 d := fun h a b => h.mono a b
        have two : ∀ {W W' : Nat} {ds es : List PyData}, SmAll W 0 ds → SmAll W' 0 es → W + W' ≤ 2900 → Sm 3000 8 (.tuple [.tuple ds, .tuple es]) := fun h g l => (SmAll.tuple (SmAll.cons (SmAll.tuple h) (SmAll.cons (SmAll.tuple g) SmAll.nil))).mono (by omega) (by decide)
        have c1 : My.cutD R none (some 1) ≠ [] := by
          rw [show (1 : Int) = ((1 : Nat) : Int) from rfl, cutD_take]
          intro z
          have h : (R.take 1).length = 0 := by rw [z]; rfl
          rw [List.length_take] at h
          omega
        have c2 : (My.cutD R none (some 1)).length ≤ 12 := Nat.le_trans cutD_len lR
        -- values
        dsimp only
        refine (show tSeq _ _ _ [some (.ref a), some (.ref p), some (.int (0 + (i : Int))), some (.ref wq), some (.int step), some (.ref ma), x6, x7, some (.int (k : Int)), some (.ref dq), some (.ref ra), some (.ref sa), some (.int ri), some (.int rj), x14, none, none, none, none] _ from tSeq_e (tAsg_e ?_))
        refine EvAP.lst (K := K) (p := p) (c := c) (av := [p]) (n0 := 40000) (W := 3000) (D := 8) hpav (EvAP.pure hpav (fun H s hav => EvQ.var rfl (Dq.same (My.Same.wos_of hpav s) hDD)) (up smD (by decide) (by decide)) <|
          EvAP.pure hpav (fun H s hav => EvL.q (EvL.listOf hav (EvQ.var rfl (Dq.same (My.Same.wos_of hpav s) hDD)))) (up (SmAll.list (Sm.items smD)) (by decide) (by decide)) <|
          EvAP.pure hpav (fun H s hav => EvQ.tup hav (EvA.cons (EvQ.var rfl (Dq.same (My.Same.wos_of hpav s) hZ)) (EvA.cons (EvQ.var rfl (Dq.same (My.Same.wos_of hpav s) hR)) EvA.nil)) (by simp)) (two smZ smR (by decide)) <|
          EvAP.pure hpav (fun H s hav => EvQ.tup hav (EvA.cons (EvQ.var rfl (Dq.same (My.Same.wos_of hpav s) hR)) (EvA.cons (EvQ.var rfl (Dq.same (My.Same.wos_of hpav s) hM)) EvA.nil)) (by simp)) (two smR smM (by decide)) <|
          EvAP.pure hpav (fun H s hav => EvQ.tup hav (EvA.cons (EvQ.repT hav (EvQ.slT (lo := none) (hi := some 1) hav (EvQ.var rfl (Dq.same (My.Same.wos_of hpav s) hR)) (fun _ _ q => q) (fun _ _ q => ⟨1, rfl, q⟩)) (EvQ.lenT (EvQ.var rfl (Dq.same (My.Same.wos_of hpav s) hR))) (by omega) c1 lR1 (by omega)) (EvA.cons (EvQ.var rfl (Dq.same (My.Same.wos_of hpav s) hZ)) EvA.nil)) (by simp)) (two (SmAll.rep (SmAll.cutD smR) _) smZ (by omega)) EvAP.nil) pen13 (by omega) (avs _ _ pen13) (by decide) (fun va H14 hV pen14 s14 => ?_)
        have hW := Dq.same (My.Same.wos_of hpav s14) hW
        have hDD := Dq.same (My.Same.wos_of hpav s14) hDD
        have hR := Dq.same (My.Same.wos_of hpav s14) hR
        have hZ := Dq.same (My.Same.wos_of hpav s14) hZ
        have hM := Dq.same (My.Same.wos_of hpav s14) hM
        clear s14 pen13
        have q1 : ∀ {H : Hp} {σ : L2.St} {z : Int}, Avs [p] H → EvQ K [p] H σ (tTup (tCons (tC (.int z)) tNil)) (.tuple [.int z]) := fun hav => EvQ.tup hav (EvA.cons (EvQ.c (.int _)) EvA.nil) (by simp)
        -- values + [(roots, (n,)), ..]
        dsimp only
        refine (show tSeq _ _ _ [some (.ref a), some (.ref p), some (.int (0 + (i : Int))), some (.ref wq), some (.int step), some (.ref ma), some (.ref va), x7, some (.int (k : Int)), some (.ref dq), some (.ref ra), some (.ref sa), some (.int ri), some (.int rj), x14, none, none, none, none] _ from tSeq_e (tAsg_op ?_))
        refine ⟨_, rfl, ?_⟩
        refine (show tLst _ _ _ _ from EvAP.lst (K := K) (p := p) (c := c) (av := [p]) (n0 := 40000) (W := 3000) (D := 8) hpav (EvAP.pure hpav (fun H s hav => EvQ.tup hav (EvA.cons (EvQ.var rfl (Dq.same (My.Same.wos_of hpav s) hR)) (EvA.cons (EvQ.tup hav (EvA.cons (EvQ.var rfl (.int (k : Int))) EvA.nil) (by simp)) EvA.nil)) (by simp)) (two smR (SmAll.cons ik SmAll.nil) (by decide)) <|
          EvAP.pure hpav (fun H s hav => EvQ.tup hav (EvA.cons (EvQ.slT (lo := none) (hi := some 1) hav (EvQ.var rfl (Dq.same (My.Same.wos_of hpav s) hR)) (fun _ _ q => q) (fun _ _ q => ⟨1, rfl, q⟩)) (EvA.cons (EvQ.tup hav (EvA.cons (EvQ.var rfl (.int (k : Int))) EvA.nil) (by simp)) EvA.nil)) (by simp)) (two (SmAll.cutD smR) (SmAll.cons ik SmAll.nil) (by decide)) <|
          EvAP.pure hpav (fun H s hav => EvQ.tup hav (EvA.cons (EvQ.tupRg hav (EvQ.var rfl (.int (k : Int))) (by omega)) (EvA.cons (EvQ.repT hav (q1 hav) (EvQ.var rfl (.int (k : Int))) (by simp) (by simp) k1 (by omega)) EvA.nil)) (by simp)) (two (smInts (ups k) fun x hx => by have := mem_ups.mp hx; omega) (SmAll.rep (SmAll.cons i1 SmAll.nil) k) (by rw [ups_len]; omega)) <|
          EvAP.pure hpav (fun H s hav => EvQ.tup hav (EvA.cons (EvQ.var rfl (Dq.same (My.Same.wos_of hpav s) hR)) (EvA.cons (EvQ.catT hav (EvQ.var rfl (Dq.same (My.Same.wos_of hpav s) hZ)) (q1 hav) (by rw [show ([PyData.int (0 : Int)]).length = 1 from rfl]; omega)) EvA.nil)) (by simp)) (two smR (SmAll.append smZ (SmAll.cons i0 SmAll.nil)) (by decide)) EvAP.nil) pen14 (by omega) (avs _ _ pen14) (by decide) (fun vb H15 hV2 pen15 s15 => ?_))
        refine SmL.cat (avs _ _ pen15) (SmL.same hpav hV s15) hV2 (by omega) (fun vc H16 s16 hV => ?_)
        have st := s15.trans (My.Same.wo s16)
        have hW := Dq.same (My.Same.wos_of hpav st) hW
        have hDD := Dq.same (My.Same.wos_of hpav st) hDD
        have hR := Dq.same (My.Same.wos_of hpav st) hR
        have hZ := Dq.same (My.Same.wos_of hpav st) hZ
        have hM := Dq.same (My.Same.wos_of hpav st) hM
        have pen16 := Pen.same s16 pen15
        clear st s15 s16 pen15 pen14 hV2
        -- values + [(roots + (n,), sizes + (1,)), ..]
        dsimp only
        refine (show tSeq _ _ _ [some (.ref a), some (.ref p), some (.int (0 + (i : Int))), some (.ref wq), some (.int step), some (.ref ma), some (.ref vc), x7, some (.int (k : Int)), some (.ref dq), some (.ref ra), some (.ref sa), some (.int ri), some (.int rj), x14, none, none, none, none] _ from tSeq_e (tAsg_op ?_))
        refine ⟨_, rfl, ?_⟩
        refine (show tLst _ _ _ _ from EvAP.lst (K := K) (p := p) (c := c) (av := [p]) (n0 := 40000) (W := 3000) (D := 8) hpav (EvAP.pure hpav (fun H s hav => EvQ.tup hav (EvA.cons (EvQ.catT hav (EvQ.var rfl (Dq.same (My.Same.wos_of hpav s) hR)) (EvQ.tup hav (EvA.cons (EvQ.var rfl (.int (k : Int))) EvA.nil) (by simp)) (by rw [show ([PyData.int (k : Int)]).length = 1 from rfl]; omega)) (EvA.cons (EvQ.catT hav (EvQ.var rfl (Dq.same (My.Same.wos_of hpav s) hZ)) (q1 hav) (by rw [show ([PyData.int (1 : Int)]).length = 1 from rfl]; omega)) EvA.nil)) (by simp)) (two (SmAll.append smR (SmAll.cons ik SmAll.nil)) (SmAll.append smZ (SmAll.cons i1 SmAll.nil)) (by decide)) <|
          EvAP.pure hpav (fun H s hav => EvQ.tup hav (EvA.cons (EvQ.var rfl (Dq.same (My.Same.wos_of hpav s) hR)) (EvA.cons (EvL.q (EvL.listOf hav (EvQ.var rfl (Dq.same (My.Same.wos_of hpav s) hZ)))) EvA.nil)) (by simp)) ((SmAll.tuple (SmAll.cons (SmAll.tuple smR) (SmAll.cons (SmAll.list smZ) SmAll.nil))).mono (by decide) (by decide)) <|
          EvAP.pure hpav (fun H s hav => EvQ.tup hav (EvA.cons (EvQ.var rfl (Dq.same (My.Same.wos_of hpav s) hR)) (EvA.cons (EvQ.backT hav (EvQ.var rfl (Dq.same (My.Same.wos_of hpav s) hZ))) EvA.nil)) (by simp)) (two smR (SmAll.reverse smZ) (by decide)) <|
          EvAP.pure hpav (fun H s hav => EvQ.tup hav (EvA.cons (EvQ.tup hav EvA.nil (by simp)) (EvA.cons (EvQ.tup hav EvA.nil (by simp)) EvA.nil)) (by simp)) (two SmAll.nil SmAll.nil (by decide)) EvAP.nil) pen16 (by omega) (avs _ _ pen16) (by decide) (fun vb H15 hV2 pen15 s15 => ?_))
        refine SmL.cat (avs _ _ pen15) (SmL.same hpav hV s15) hV2 (by omega) (fun vc2 H17 s16 hV => ?_)
        have st := s15.trans (My.Same.wo s16)
        have hW := Dq.same (My.Same.wos_of hpav st) hW
        have hDD := Dq.same (My.Same.wos_of hpav st) hDD
        have hR := Dq.same (My.Same.wos_of hpav st) hR
        have hZ := Dq.same (My.Same.wos_of hpav st) hZ
        have hM := Dq.same (My.Same.wos_of hpav st) hM
        have pen17 := Pen.same s16 pen15
        clear st s15 s16 pen15 pen16 hV2
        -- values + [(roots, tuple([one == 1 for one in sizes]))]
        dsimp only
        refine (show tSeq _ _ _ [some (.ref a), some (.ref p), some (.int (0 + (i : Int))), some (.ref wq), some (.int step), some (.ref ma), some (.ref vc2), x7, some (.int (k : Int)), some (.ref dq), some (.ref ra), some (.ref sa), some (.int ri), some (.int rj), x14, none, none, none, none] _ from tSeq_e (tAsg_op ?_))
        refine ⟨_, rfl, ?_⟩
        have smB : SmAll 12 0 (Z.map oneD) := SmAll.mapF (fun d hd w h => by
          obtain ⟨z, rfl⟩ := iZ d hd
          exact Sm.bool.mono (Nat.zero_le _) (Nat.le_refl _)) smZ
        refine (show tLst _ _ _ _ from EvAP.lst (K := K) (p := p) (c := c) (av := [p]) (n0 := 40000) (W := 3000) (D := 8) hpav (EvAP.pure hpav (fun H s hav => EvQ.tup hav (EvA.cons (EvQ.var rfl (Dq.same (My.Same.wos_of hpav s) hR)) (EvA.cons (EvQ.tupleOf hav (EvL.q (EvL.lc (F := oneD) hav (EvQ.var rfl (Dq.same (My.Same.wos_of hpav s) hZ)) (by omega) (fun d hd x av' H1 hin hav' hx R r => by
          obtain ⟨z, rfl⟩ := iZ d hd
          cases hx
          exact ⟨rfl, _, rfl, rfl, r _ H1 (Same.refl H1) (.bl _)⟩)))) EvA.nil)) (by simp)) (two smR smB (by decide)) EvAP.nil) pen17 (by omega) (avs _ _ pen17) (by decide) (fun vb H15 hV2 pen15 s15 => ?_))
        refine SmL.catO (avs _ _ pen15) (SmL.same hpav hV s15) hV2 (by omega) (fun vd H18 hvd s16 hO => ?_)
        have st := (My.Same.wos_of hpav s15).trans (wos_fresh (av := [p]) hvd s16)
        have hW := Dq.same st hW
        have hDD := Dq.same st hDD
        have hR := Dq.same st hR
        have hZ := Dq.same st hZ
        have hM := Dq.same st hM
        have pen18 := Pen.same s16 pen15
        have nvd := Pen.ne pen15 hvd
        obtain ⟨nvp, vxs, vds, evd, hvx, hvs, hvl⟩ := hO
        have hav18 : Avs [vd, p] H18 := fun b hb => by
          rcases List.mem_cons.mp hb with rfl | hb
          · exact ⟨_, evd⟩
          · exact avs _ _ pen18 b hb
        clear st s15 s16 pen15 pen17 hV2 smB hV hvd
        -- values.append(..)
        dsimp only
        refine (show tSeq _ _ _ [some (.ref a), some (.ref p), some (.int (0 + (i : Int))), some (.ref wq), some (.int step), some (.ref ma), some (.ref vd), x7, some (.int (k : Int)), some (.ref dq), some (.ref ra), some (.ref sa), some (.int ri), some (.int rj), x14, none, none, none, none] _ from tSeq_e ?_)
        have smP : SmAll 12 0 (M.map posOneD) := SmAll.mapF (fun d hd w h => by
          obtain ⟨z, rfl⟩ := iM d hd
          show Sm w 0 (if 0 < z then _ else _)
          split
          · exact h
          · exact Sm.bool.mono (Nat.zero_le _) (Nat.le_refl _)) smM
        refine ⟨_, rfl, .inl ⟨rfl, _, SqL.of evd⟩, ?_⟩
        refine (EvA.cons (EvQ.tup (K := K) hav18 (EvA.cons (EvQ.var rfl hR) (EvA.cons (EvQ.tupleOf hav18 (EvL.q (EvL.lc (F := posOneD) hav18 (EvQ.var rfl hM) (by omega) (fun d hd x av' H1 hin hav' hx R r => by
          obtain ⟨z, rfl⟩ := iM d hd
          cases hx
          refine ⟨rfl, ?_⟩
          refine ⟨_, rfl, z, 0, rfl, rfl, _, rfl, ?_⟩
          by_cases h0 : 0 < z
          · have hr := r (.int z) H1 (Same.refl H1)
            rw [show posOneD (.int z) = .int z from if_pos h0] at hr
            rw [decide_eq_true h0]
            exact iteT ⟨_, rfl, hr (.int z)⟩
          · have hr := r (.bl (decide (V.int z = V.int 1))) H1 (Same.refl H1)
            rw [show posOneD (.int z) = .bool (decide (V.int z = V.int 1)) from if_neg h0] at hr
            rw [decide_eq_false h0]
            exact iteF ⟨_, rfl, rfl, hr (.bl _)⟩)))) EvA.nil)) (by simp)) EvA.nil) H18 (Same.refl H18) _ (fun xs H19 s19 hxs => ?_)
        cases hxs with
        | cons hx hxs =>
        cases hxs
        refine ⟨vd, vxs, _, rfl, rfl, s19 _ _ evd, by rw [hvx.len]; exact smallT (by omega), ?_⟩
        have nvs : vd ≠ p ∧ vd ≠ c := nvd
        rename V => xn
        have t20 : Same (wos [vd, p] H19) (wos [p] (upd H19 vd (.lst (vxs ++ [xn])))) := (wos_put (o := HO.lst (vxs ++ [xn]))).trans wos_less
        have t18 := (My.Same.wos (av := [vd, p]) s19).trans t20
        have hW := Dq.same t18 hW
        have hDD := Dq.same t18 hDD
        have hR := Dq.same t18 hR
        have pen20 := Pen.upd (o := HO.lst (vxs ++ [xn])) (Pen.same s19 pen18) nvs
        have hV : SmL K [p] (upd H19 vd (.lst (vxs ++ [xn]))) vd 3000 8 15 := by
          refine ⟨nvp, vxs ++ [xn], vds ++ [_], upd_same, DqAll.append (DqAll.same t18 hvx) (.cons (Dq.same t20 hx) .nil), fun d hd => ?_, by rw [List.length_append]; exact Nat.succ_le_succ hvl⟩
          rcases List.mem_append.mp hd with hd | hd
          · exact hvs d hd
          · rw [List.mem_singleton.mp hd]
            exact two smR smP (by decide)
        generalize upd H19 vd (HO.lst (vxs ++ [xn])) = H20 at hW hDD hR pen20 hV ⊢
        clear t18 t20 hx hvx hvs hvl evd hav18 s19 pen18 smP hZ hM nvs nvd
        -- for value in values + [..] + [None, roots, _law_odd(pen)]
        dsimp only
        refine (show tFor _ _ _ _ [some (.ref a), some (.ref p), some (.int (0 + (i : Int))), some (.ref wq), some (.int step), some (.ref ma), some (.ref vd), x7, some (.int (k : Int)), some (.ref dq), some (.ref ra), some (.ref sa), some (.int ri), some (.int rj), x14, none, none, none, none] _ from ?_)
        refine ⟨_, rfl, ?_⟩
        refine lc_pen (K := K) (p := p) (c := c) (av := [p]) (n0 := 10000 * i + 300) (n := 8) (st := 30) (W := 3000) (D := 8) hpav (avs _ _ pen20) (pen20.mono (by omega)) (by omega) (fun k' hk av' H3 n1 hin hav' sw pen3 hn1 R r => ?_) (fun k => rfl) (fun b H21 sm21 pen21 s21 => ?_)
        · refine ⟨_, rfl, _, rfl, p, c, n1, 26, 2, _, _, av', rfl, pen3, by omega, by omega, tiD, smD, Dq.same sw hDD, by omega, hin p hpav, hav', fun x d H' hx hd pen' s' => r x d H' hx (hd.mono (by omega) (by omega)) (pen'.mono (by omega)) s'⟩
        refine SmL.cat (avs _ _ pen21) (SmL.same hpav hV s21) sm21 (by omega) (fun vb2 H22 s22 hV7 => ?_)
        have hR := Dq.same (My.Same.wos_of hpav (s21.trans (My.Same.wo s22))) hR
        have pen22 := Pen.same s22 pen21
        refine (show tLst _ _ _ _ from EvAP.lst (K := K) (p := p) (c := c) (av := [p]) (n0 := 40000) (W := 3000) (D := 8) (n := 10000 * i + 300 + 8 * 30) hpav (EvAP.pure hpav (fun H s hav => EvQ.c .non) (Sm.none.mono (by decide) (by decide)) <| EvAP.pure hpav (fun H s hav => EvQ.var rfl (Dq.same (My.Same.wos_of hpav s) hR)) (up (SmAll.tuple smR) (by decide) (by decide)) <|
          EvAP.call (st1 := 1) (fun H n pen hn hav s R r => ⟨_, rfl, p, c, n, [p], rfl, pen, by omega, hpav, hav, fun x d H' hx hd pen' s' => r x d H' hx (hd.mono (by decide) (by decide)) pen' s'⟩)) pen22 (by omega) (avs _ _ pen22) (by decide) (fun ve H23 hE pen23 s23 => ?_))
        refine SmL.cat (avs _ _ pen23) (SmL.same hpav hV7 s23) hE (by omega) (fun vf H24 s24 hV9 => ?_)
        have hW := Dq.same (My.Same.wos_of hpav (s21.trans ((My.Same.wo s22).trans (s23.trans (My.Same.wo s24))))) hW
        have pen24 := Pen.same s24 pen23
        obtain ⟨xs, exs, hxl, hget⟩ := hV9.get
        clear hV sm21 pen21 pen22 hV7 hE pen23 s21 s22 s23 s24 hR hDD pen20
        refine ⟨vf, rfl, ⟨xs, SqL.of exs⟩, ?_⟩
        refine for_list (xs := xs) (fun j σ H => ∃ (y7 y14 : Option V), σ = [some (.ref a), some (.ref p), some (.int (0 + (i : Int))), some (.ref wq), some (.int step), some (.ref ma), some (.ref vd), y7, some (.int (k : Int)), some (.ref dq), some (.ref ra), some (.ref sa), some (.int ri), some (.int rj), y14, none, none, none, none] ∧ Same H24 H) ?_ ?_ ?_ ?_
        · exact ⟨x7, x14, rfl, Same.refl _⟩
        · rintro j σ H _ ⟨_, _, _, s⟩
          exact SqL.of (s _ _ exs)
        · rintro j x σ H ex ⟨y7, y14, rfl, sH⟩
          obtain ⟨d, hd, smd⟩ := hget j x ex
          have hd := Dq.same (wos_le.trans sH) hd
          have hW := Dq.same (wos_le.trans sH) hW
          have h60 : d.depth ≤ 60 := Nat.le_trans smd.2.2.2 (by decide)
          have hfit : d.shown.length ≤ sizeLine := by
            have := smd.fits (by decide)
            omega
          refine (show tSeq _ _ _ _ _ from tSeq_e (tAsg_e ?_))
          refine ⟨_, rfl, x, d, rfl, hd, smd.2.1, h60, hfit, ?_⟩
          refine ⟨_, rfl, _, rfl, _, x, (k : Int), _, d, 3000, 8, rfl, hW, hd, smd, by decide, fun Ha sa => ⟨_, rfl, _, rfl, _, x, (k : Int), _, d, 3000, 8, rfl, Dq.same sa hW, Dq.same sa hd, smd, by decide, fun Hb sb => ⟨.bl (dealD k d), .bl (dealD k d), .bool (dealD k d), rfl, .bl _, .bl _, trivial, fun Hc sc => ⟨_, rfl, ?_⟩⟩⟩⟩
          refine iteF ?_
          refine ⟨_, rfl, x, d, rfl, Dq.same (sa.trans (sb.trans sc)) hd, smd.2.1, h60, hfit, _, rfl, rfl, _, rfl, ?_⟩
          dsimp only
          rw [decide_eq_true rfl]
          exact iteF ⟨_, _, rfl, sH.trans (sa.trans (sb.trans sc))⟩
        rintro σ H ⟨y7, y14, rfl, sH⟩
        exact ⟨_, _, _, _, _, _, _, _, _, _, _, _, _, rfl, (Pen.same sH pen24).mono (by omega)⟩
    · rintro σ H ⟨x2, x3, x4, x5, x6, x7, x8, x9, x10, x11, x12, x13, x14, rfl, pen0⟩
      exact q H
end
end K03

set_option Elab.async false
set_option linter.all false
set_option maxRecDepth 100000
set_option maxHeartbeats 4000000
namespace K03
open PySem PySem.Spec PyProof.Rows L2 My
theorem all_mk {l : PySem.W.OpenLaw} {w : World} {K : PySem.W.Frag} {h : Heap} {mg : Str → Option Value} {fa : Addr} (X : K.In h) (G : h.Ns mainGlobals mg) (hfa : mg "law" = some (.ref fa))
    {f0 : Addr} {od0 an0 : Option Addr} {sl0 : Array (Option Value)} {oc0 kV0 dc0 pm0 cd0 ct0 : Value}
    (a0 : PySem.W.nsIn K mainGlobals "is_whole" = some (some (.ref f0))) (l0 : K.lookup f0 = some ⟨oc0, od0, .func (PySem.W.fnOf "is_whole" "is_whole" (defArgs s_is_whole) (defBody s_is_whole) (defScope s_is_whole) .none kV0 dc0 pm0 an0 cd0 ct0), sl0⟩) (c0 : PySem.W.codeIn K cd0 "is_whole" = true) (k0 : PySem.W.keepIn K (.ref f0) = true)
    {f1 : Addr} {od1 an1 : Option Addr} {sl1 : Array (Option Value)} {oc1 kV1 dc1 pm1 cd1 ct1 : Value}
    (a1 : PySem.W.nsIn K mainGlobals "is_place" = some (some (.ref f1))) (l1 : K.lookup f1 = some ⟨oc1, od1, .func (PySem.W.fnOf "is_place" "is_place" (defArgs s_is_place) (defBody s_is_place) (defScope s_is_place) .none kV1 dc1 pm1 an1 cd1 ct1), sl1⟩) (c1 : PySem.W.codeIn K cd1 "is_place" = true) (k1 : PySem.W.keepIn K (.ref f1) = true)
    {f2 : Addr} {od2 an2 : Option Addr} {sl2 : Array (Option Value)} {oc2 kV2 dc2 pm2 cd2 ct2 : Value}
    (a2 : PySem.W.nsIn K mainGlobals "is_deal" = some (some (.ref f2))) (l2 : K.lookup f2 = some ⟨oc2, od2, .func (PySem.W.fnOf "is_deal" "is_deal" (defArgs s_is_deal) (defBody s_is_deal) (defScope s_is_deal) .none kV2 dc2 pm2 an2 cd2 ct2), sl2⟩) (c2 : PySem.W.codeIn K cd2 "is_deal" = true) (k2 : PySem.W.keepIn K (.ref f2) = true)
    {f3 : Addr} {od3 an3 : Option Addr} {sl3 : Array (Option Value)} {oc3 kV3 dc3 pm3 cd3 ct3 : Value}
    (a3 : PySem.W.nsIn K mainGlobals "_are_roots" = some (some (.ref f3))) (l3 : K.lookup f3 = some ⟨oc3, od3, .func (PySem.W.fnOf "_are_roots" "_are_roots" (defArgs s_are_roots) (defBody s_are_roots) (defScope s_are_roots) .none kV3 dc3 pm3 an3 cd3 ct3), sl3⟩) (c3 : PySem.W.codeIn K cd3 "_are_roots" = true) (k3 : PySem.W.keepIn K (.ref f3) = true)
    {f4 : Addr} {od4 an4 : Option Addr} {sl4 : Array (Option Value)} {oc4 kV4 dc4 pm4 cd4 ct4 : Value}
    (a4 : PySem.W.nsIn K mainGlobals "_are_sizes" = some (some (.ref f4))) (l4 : K.lookup f4 = some ⟨oc4, od4, .func (PySem.W.fnOf "_are_sizes" "_are_sizes" (defArgs s_are_sizes) (defBody s_are_sizes) (defScope s_are_sizes) .none kV4 dc4 pm4 an4 cd4 ct4), sl4⟩) (c4 : PySem.W.codeIn K cd4 "_are_sizes" = true) (k4 : PySem.W.keepIn K (.ref f4) = true)
    {f5 : Addr} {od5 an5 : Option Addr} {sl5 : Array (Option Value)} {oc5 kV5 dc5 pm5 cd5 ct5 : Value}
    (a5 : PySem.W.nsIn K mainGlobals "_law_open" = some (some (.ref f5))) (l5 : K.lookup f5 = some ⟨oc5, od5, .func (PySem.W.fnOf "_law_open" "_law_open" (defArgs s_law_open) (defBody s_law_open) (defScope s_law_open) .none kV5 dc5 pm5 an5 cd5 ct5), sl5⟩) (c5 : PySem.W.codeIn K cd5 "_law_open" = true) (k5 : PySem.W.keepIn K (.ref f5) = true)
    {f6 : Addr} {od6 an6 : Option Addr} {sl6 : Array (Option Value)} {oc6 kV6 dc6 pm6 cd6 ct6 : Value}
    (a6 : PySem.W.nsIn K mainGlobals "_law_spread" = some (some (.ref f6))) (l6 : K.lookup f6 = some ⟨oc6, od6, .func (PySem.W.fnOf "_law_spread" "_law_spread" (defArgs s_law_spread) (defBody s_law_spread) (defScope s_law_spread) .none kV6 dc6 pm6 an6 cd6 ct6), sl6⟩) (c6 : PySem.W.codeIn K cd6 "_law_spread" = true) (k6 : PySem.W.keepIn K (.ref f6) = true)
    {f7 : Addr} {od7 an7 : Option Addr} {sl7 : Array (Option Value)} {oc7 kV7 dc7 pm7 cd7 ct7 : Value}
    (a7 : PySem.W.nsIn K mainGlobals "_law_take" = some (some (.ref f7))) (l7 : K.lookup f7 = some ⟨oc7, od7, .func (PySem.W.fnOf "_law_take" "_law_take" (defArgs s_law_take) (defBody s_law_take) (defScope s_law_take) .none kV7 dc7 pm7 an7 cd7 ct7), sl7⟩) (c7 : PySem.W.codeIn K cd7 "_law_take" = true) (k7 : PySem.W.keepIn K (.ref f7) = true)
    {f8 : Addr} {od8 an8 : Option Addr} {sl8 : Array (Option Value)} {oc8 kV8 dc8 pm8 cd8 ct8 : Value}
    (a8 : PySem.W.nsIn K mainGlobals "_law_same" = some (some (.ref f8))) (l8 : K.lookup f8 = some ⟨oc8, od8, .func (PySem.W.fnOf "_law_same" "_law_same" (defArgs s_law_same) (defBody s_law_same) (defScope s_law_same) .none kV8 dc8 pm8 an8 cd8 ct8), sl8⟩) (c8 : PySem.W.codeIn K cd8 "_law_same" = true) (k8 : PySem.W.keepIn K (.ref f8) = true)
    {f9 : Addr} {od9 an9 : Option Addr} {sl9 : Array (Option Value)} {oc9 kV9 dc9 pm9 cd9 ct9 : Value}
    (a9 : PySem.W.nsIn K mainGlobals "_law_one_of" = some (some (.ref f9))) (l9 : K.lookup f9 = some ⟨oc9, od9, .func (PySem.W.fnOf "_law_one_of" "_law_one_of" (defArgs s_law_one_of) (defBody s_law_one_of) (defScope s_law_one_of) .none kV9 dc9 pm9 an9 cd9 ct9), sl9⟩) (c9 : PySem.W.codeIn K cd9 "_law_one_of" = true) (k9 : PySem.W.keepIn K (.ref f9) = true)
    {f10 : Addr} {od10 an10 : Option Addr} {sl10 : Array (Option Value)} {oc10 kV10 dc10 pm10 cd10 ct10 : Value}
    (a10 : PySem.W.nsIn K mainGlobals "_law_odd" = some (some (.ref f10))) (l10 : K.lookup f10 = some ⟨oc10, od10, .func (PySem.W.fnOf "_law_odd" "_law_odd" (defArgs s_law_odd) (defBody s_law_odd) (defScope s_law_odd) .none kV10 dc10 pm10 an10 cd10 ct10), sl10⟩) (c10 : PySem.W.codeIn K cd10 "_law_odd" = true) (k10 : PySem.W.keepIn K (.ref f10) = true)
    {f11 : Addr} {od11 an11 : Option Addr} {sl11 : Array (Option Value)} {oc11 kV11 dc11 pm11 cd11 ct11 : Value}
    (a11 : PySem.W.nsIn K mainGlobals "_law_bent" = some (some (.ref f11))) (l11 : K.lookup f11 = some ⟨oc11, od11, .func (PySem.W.fnOf "_law_bent" "_law_bent" (defArgs s_law_bent) (defBody s_law_bent) (defScope s_law_bent) .none kV11 dc11 pm11 an11 cd11 ct11), sl11⟩) (c11 : PySem.W.codeIn K cd11 "_law_bent" = true) (k11 : PySem.W.keepIn K (.ref f11) = true)
    {f12 : Addr} {od12 an12 : Option Addr} {sl12 : Array (Option Value)} {oc12 kV12 dc12 pm12 cd12 ct12 : Value}
    (a12 : PySem.W.nsIn K mainGlobals "_law_is_whole" = some (some (.ref f12))) (l12 : K.lookup f12 = some ⟨oc12, od12, .func (PySem.W.fnOf "_law_is_whole" "_law_is_whole" (defArgs s_law_is_whole) (defBody s_law_is_whole) (defScope s_law_is_whole) .none kV12 dc12 pm12 an12 cd12 ct12), sl12⟩) (c12 : PySem.W.codeIn K cd12 "_law_is_whole" = true) (k12 : PySem.W.keepIn K (.ref f12) = true)
    {f13 : Addr} {od13 an13 : Option Addr} {sl13 : Array (Option Value)} {oc13 kV13 dc13 pm13 cd13 ct13 : Value}
    (a13 : PySem.W.nsIn K mainGlobals "_law_draw_order" = some (some (.ref f13))) (l13 : K.lookup f13 = some ⟨oc13, od13, .func (PySem.W.fnOf "_law_draw_order" "_law_draw_order" (defArgs s_law_draw_order) (defBody s_law_draw_order) (defScope s_law_draw_order) .none kV13 dc13 pm13 an13 cd13 ct13), sl13⟩) (c13 : PySem.W.codeIn K cd13 "_law_draw_order" = true) (k13 : PySem.W.keepIn K (.ref f13) = true)
    {f14 : Addr} {od14 an14 : Option Addr} {sl14 : Array (Option Value)} {oc14 kV14 dc14 pm14 cd14 ct14 : Value}
    (a14 : PySem.W.nsIn K mainGlobals "_law_web" = some (some (.ref f14))) (l14 : K.lookup f14 = some ⟨oc14, od14, .func (PySem.W.fnOf "_law_web" "_law_web" (defArgs s_law_web) (defBody s_law_web) (defScope s_law_web) .none kV14 dc14 pm14 an14 cd14 ct14), sl14⟩) (c14 : PySem.W.codeIn K cd14 "_law_web" = true) (k14 : PySem.W.keepIn K (.ref f14) = true)
    {f15 : Addr} {od15 an15 : Option Addr} {sl15 : Array (Option Value)} {oc15 kV15 dc15 pm15 cd15 ct15 : Value}
    (a15 : PySem.W.nsIn K mainGlobals "_law_draw_web" = some (some (.ref f15))) (l15 : K.lookup f15 = some ⟨oc15, od15, .func (PySem.W.fnOf "_law_draw_web" "_law_draw_web" (defArgs s_law_draw_web) (defBody s_law_draw_web) (defScope s_law_draw_web) .none kV15 dc15 pm15 an15 cd15 ct15), sl15⟩) (c15 : PySem.W.codeIn K cd15 "_law_draw_web" = true) (k15 : PySem.W.keepIn K (.ref f15) = true)
    {f16 : Addr} {od16 an16 : Option Addr} {sl16 : Array (Option Value)} {oc16 kV16 dc16 pm16 cd16 ct16 : Value}
    (a16 : PySem.W.nsIn K mainGlobals "_law_draw_roots" = some (some (.ref f16))) (l16 : K.lookup f16 = some ⟨oc16, od16, .func (PySem.W.fnOf "_law_draw_roots" "_law_draw_roots" (defArgs s_law_draw_roots) (defBody s_law_draw_roots) (defScope s_law_draw_roots) .none kV16 dc16 pm16 an16 cd16 ct16), sl16⟩) (c16 : PySem.W.codeIn K cd16 "_law_draw_roots" = true) (k16 : PySem.W.keepIn K (.ref f16) = true)
    {f17 : Addr} {od17 an17 : Option Addr} {sl17 : Array (Option Value)} {oc17 kV17 dc17 pm17 cd17 ct17 : Value}
    (a17 : PySem.W.nsIn K mainGlobals "_law_draw_sizes" = some (some (.ref f17))) (l17 : K.lookup f17 = some ⟨oc17, od17, .func (PySem.W.fnOf "_law_draw_sizes" "_law_draw_sizes" (defArgs s_law_draw_sizes) (defBody s_law_draw_sizes) (defScope s_law_draw_sizes) .none kV17 dc17 pm17 an17 cd17 ct17), sl17⟩) (c17 : PySem.W.codeIn K cd17 "_law_draw_sizes" = true) (k17 : PySem.W.keepIn K (.ref f17) = true)
    {f18 : Addr} {od18 an18 : Option Addr} {sl18 : Array (Option Value)} {oc18 kV18 dc18 pm18 cd18 ct18 : Value}
    (a18 : PySem.W.nsIn K mainGlobals "_law_draw_deal" = some (some (.ref f18))) (l18 : K.lookup f18 = some ⟨oc18, od18, .func (PySem.W.fnOf "_law_draw_deal" "_law_draw_deal" (defArgs s_law_draw_deal) (defBody s_law_draw_deal) (defScope s_law_draw_deal) .none kV18 dc18 pm18 an18 cd18 ct18), sl18⟩) (c18 : PySem.W.codeIn K cd18 "_law_draw_deal" = true) (k18 : PySem.W.keepIn K (.ref f18) = true)
    {f19 : Addr} {od19 an19 : Option Addr} {sl19 : Array (Option Value)} {oc19 kV19 dc19 pm19 cd19 ct19 : Value}
    (a19 : PySem.W.nsIn K mainGlobals "_law_is_deal" = some (some (.ref f19))) (l19 : K.lookup f19 = some ⟨oc19, od19, .func (PySem.W.fnOf "_law_is_deal" "_law_is_deal" (defArgs s_law_is_deal) (defBody s_law_is_deal) (defScope s_law_is_deal) .none kV19 dc19 pm19 an19 cd19 ct19), sl19⟩) (c19 : PySem.W.codeIn K cd19 "_law_is_deal" = true) (k19 : PySem.W.keepIn K (.ref f19) = true)
    {f20 : Addr} {od20 an20 : Option Addr} {sl20 : Array (Option Value)} {oc20 kV20 dc20 pm20 cd20 ct20 : Value}
    (a20 : PySem.W.nsIn K mainGlobals "law" = some (some (.ref f20))) (l20 : K.lookup f20 = some ⟨oc20, od20, .func (PySem.W.fnOf "law" "law" (defArgs s_law) (defBody s_law) (defScope s_law) .none kV20 dc20 pm20 an20 cd20 ct20), sl20⟩) (c20 : PySem.W.codeIn K cd20 "law" = true) (k20 : PySem.W.keepIn K (.ref f20) = true)
    (z_len : PySem.W.nsIn K mainGlobals "len" = some none)
    (z_int : PySem.W.nsIn K mainGlobals "int" = some none)
    (z_list : PySem.W.nsIn K mainGlobals "list" = some none)
    (z_tuple : PySem.W.nsIn K mainGlobals "tuple" = some none)
    (z_bool : PySem.W.nsIn K mainGlobals "bool" = some none)
    (z_str : PySem.W.nsIn K mainGlobals "str" = some none)
    (z_range : PySem.W.nsIn K mainGlobals "range" = some none)
    (z_enumerate : PySem.W.nsIn K mainGlobals "enumerate" = some none)
    (z_zip : PySem.W.nsIn K mainGlobals "zip" = some none)
    (z_isinstance : PySem.W.nsIn K mainGlobals "isinstance" = some none)
    (z_sum : PySem.W.nsIn K mainGlobals "sum" = some none)
    (z_all : PySem.W.nsIn K mainGlobals "all" = some none)
    (z_min : PySem.W.nsIn K mainGlobals "min" = some none)
    (z_max : PySem.W.nsIn K mainGlobals "max" = some none)
    (z_repr : PySem.W.nsIn K mainGlobals "repr" = some none)
    (z_sorted : PySem.W.nsIn K mainGlobals "sorted" = some none)
    (z_set : PySem.W.nsIn K mainGlobals "set" = some none)
    : ∃ fd : FuncData, (∀ (s : Shared) (v : Value), BindsTo s fd ⟨[v], []⟩ [("script", v)]) ∧ ∀ base : Heap, K.In base → base.Ns mainGlobals mg → My.FnG l.prog w K mg base 11 fa fd ["script"] (spLaw K) := by
  have e := hfa.symm.trans (PySem.W.mg_of X G a20)
  cases e
  have B : Bn mg := ⟨PySem.W.mg_none_of X G z_len, PySem.W.mg_none_of X G z_int, PySem.W.mg_none_of X G z_list, PySem.W.mg_none_of X G z_tuple, PySem.W.mg_none_of X G z_bool, PySem.W.mg_none_of X G z_str, PySem.W.mg_none_of X G z_range, PySem.W.mg_none_of X G z_enumerate, PySem.W.mg_none_of X G z_zip, PySem.W.mg_none_of X G z_isinstance, PySem.W.mg_none_of X G z_sum, PySem.W.mg_none_of X G z_all, PySem.W.mg_none_of X G z_min, PySem.W.mg_none_of X G z_max, PySem.W.mg_none_of X G z_repr, PySem.W.mg_none_of X G z_sorted, PySem.W.mg_none_of X G z_set⟩
  have A_is_whole : At K mg "is_whole" s_is_whole ["value"] := by
    have F := fun_mk (st := s_is_whole) l0 c0 k0
    exact ⟨_, _, F, PySem.W.mg_of X G a0, F.binds (ps := ["value"]) fun _ _ _ _ _ _ us hl => match us, hl with | [_], _ => rfl⟩
  have A_is_place : At K mg "is_place" s_is_place ["n", "value"] := by
    have F := fun_mk (st := s_is_place) l1 c1 k1
    exact ⟨_, _, F, PySem.W.mg_of X G a1, F.binds (ps := ["n", "value"]) fun _ _ _ _ _ _ us hl => match us, hl with | [_, _], _ => rfl⟩
  have A_is_deal : At K mg "is_deal" s_is_deal ["web", "value"] := by
    have F := fun_mk (st := s_is_deal) l2 c2 k2
    exact ⟨_, _, F, PySem.W.mg_of X G a2, F.binds (ps := ["web", "value"]) fun _ _ _ _ _ _ us hl => match us, hl with | [_, _], _ => rfl⟩
  have A_are_roots : At K mg "_are_roots" s_are_roots ["n", "value"] := by
    have F := fun_mk (st := s_are_roots) l3 c3 k3
    exact ⟨_, _, F, PySem.W.mg_of X G a3, F.binds (ps := ["n", "value"]) fun _ _ _ _ _ _ us hl => match us, hl with | [_, _], _ => rfl⟩
  have A_are_sizes : At K mg "_are_sizes" s_are_sizes ["n", "k", "value"] := by
    have F := fun_mk (st := s_are_sizes) l4 c4 k4
    exact ⟨_, _, F, PySem.W.mg_of X G a4, F.binds (ps := ["n", "k", "value"]) fun _ _ _ _ _ _ us hl => match us, hl with | [_, _, _], _ => rfl⟩
  have A_law_open : At K mg "_law_open" s_law_open ["script"] := by
    have F := fun_mk (st := s_law_open) l5 c5 k5
    exact ⟨_, _, F, PySem.W.mg_of X G a5, F.binds (ps := ["script"]) fun _ _ _ _ _ _ us hl => match us, hl with | [_], _ => rfl⟩
  have A_law_spread : At K mg "_law_spread" s_law_spread ["cell", "at"] := by
    have F := fun_mk (st := s_law_spread) l6 c6 k6
    exact ⟨_, _, F, PySem.W.mg_of X G a6, F.binds (ps := ["cell", "at"]) fun _ _ _ _ _ _ us hl => match us, hl with | [_, _], _ => rfl⟩
  have A_law_take : At K mg "_law_take" s_law_take ["pen", "amount"] := by
    have F := fun_mk (st := s_law_take) l7 c7 k7
    exact ⟨_, _, F, PySem.W.mg_of X G a7, F.binds (ps := ["pen", "amount"]) fun _ _ _ _ _ _ us hl => match us, hl with | [_, _], _ => rfl⟩
  have A_law_same : At K mg "_law_same" s_law_same ["found", "due"] := by
    have F := fun_mk (st := s_law_same) l8 c8 k8
    exact ⟨_, _, F, PySem.W.mg_of X G a8, F.binds (ps := ["found", "due"]) fun _ _ _ _ _ _ us hl => match us, hl with | [_, _], _ => rfl⟩
  have A_law_one_of : At K mg "_law_one_of" s_law_one_of ["pen", "some"] := by
    have F := fun_mk (st := s_law_one_of) l9 c9 k9
    exact ⟨_, _, F, PySem.W.mg_of X G a9, F.binds (ps := ["pen", "some"]) fun _ _ _ _ _ _ us hl => match us, hl with | [_, _], _ => rfl⟩
  have A_law_odd : At K mg "_law_odd" s_law_odd ["pen"] := by
    have F := fun_mk (st := s_law_odd) l10 c10 k10
    exact ⟨_, _, F, PySem.W.mg_of X G a10, F.binds (ps := ["pen"]) fun _ _ _ _ _ _ us hl => match us, hl with | [_], _ => rfl⟩
  have A_law_bent : At K mg "_law_bent" s_law_bent ["pen", "value"] := by
    have F := fun_mk (st := s_law_bent) l11 c11 k11
    exact ⟨_, _, F, PySem.W.mg_of X G a11, F.binds (ps := ["pen", "value"]) fun _ _ _ _ _ _ us hl => match us, hl with | [_, _], _ => rfl⟩
  have A_law_is_whole : At K mg "_law_is_whole" s_law_is_whole ["value"] := by
    have F := fun_mk (st := s_law_is_whole) l12 c12 k12
    exact ⟨_, _, F, PySem.W.mg_of X G a12, F.binds (ps := ["value"]) fun _ _ _ _ _ _ us hl => match us, hl with | [_], _ => rfl⟩
  have A_law_draw_order : At K mg "_law_draw_order" s_law_draw_order ["pen", "n"] := by
    have F := fun_mk (st := s_law_draw_order) l13 c13 k13
    exact ⟨_, _, F, PySem.W.mg_of X G a13, F.binds (ps := ["pen", "n"]) fun _ _ _ _ _ _ us hl => match us, hl with | [_, _], _ => rfl⟩
  have A_law_web : At K mg "_law_web" s_law_web ["n", "pairs"] := by
    have F := fun_mk (st := s_law_web) l14 c14 k14
    exact ⟨_, _, F, PySem.W.mg_of X G a14, F.binds (ps := ["n", "pairs"]) fun _ _ _ _ _ _ us hl => match us, hl with | [_, _], _ => rfl⟩
  have A_law_draw_web : At K mg "_law_draw_web" s_law_draw_web ["pen", "low", "high"] := by
    have F := fun_mk (st := s_law_draw_web) l15 c15 k15
    exact ⟨_, _, F, PySem.W.mg_of X G a15, F.binds (ps := ["pen", "low", "high"]) fun _ _ _ _ _ _ us hl => match us, hl with | [_, _, _], _ => rfl⟩
  have A_law_draw_roots : At K mg "_law_draw_roots" s_law_draw_roots ["pen", "n", "k"] := by
    have F := fun_mk (st := s_law_draw_roots) l16 c16 k16
    exact ⟨_, _, F, PySem.W.mg_of X G a16, F.binds (ps := ["pen", "n", "k"]) fun _ _ _ _ _ _ us hl => match us, hl with | [_, _, _], _ => rfl⟩
  have A_law_draw_sizes : At K mg "_law_draw_sizes" s_law_draw_sizes ["pen", "n", "k"] := by
    have F := fun_mk (st := s_law_draw_sizes) l17 c17 k17
    exact ⟨_, _, F, PySem.W.mg_of X G a17, F.binds (ps := ["pen", "n", "k"]) fun _ _ _ _ _ _ us hl => match us, hl with | [_, _, _], _ => rfl⟩
  have A_law_draw_deal : At K mg "_law_draw_deal" s_law_draw_deal ["pen", "web", "most"] := by
    have F := fun_mk (st := s_law_draw_deal) l18 c18 k18
    exact ⟨_, _, F, PySem.W.mg_of X G a18, F.binds (ps := ["pen", "web", "most"]) fun _ _ _ _ _ _ us hl => match us, hl with | [_, _, _], _ => rfl⟩
  have A_law_is_deal : At K mg "_law_is_deal" s_law_is_deal ["web", "value"] := by
    have F := fun_mk (st := s_law_is_deal) l19 c19 k19
    exact ⟨_, _, F, PySem.W.mg_of X G a19, F.binds (ps := ["web", "value"]) fun _ _ _ _ _ _ us hl => match us, hl with | [_, _], _ => rfl⟩
  have F := fun_mk (st := s_law) l20 c20 k20
  refine ⟨PySem.W.fnOf "law" "law" (defArgs s_law) (defBody s_law) (defScope s_law) .none kV20 dc20 pm20 an20 cd20 ct20, fun s v => .of_eq rfl, fun base _ _ => ?_⟩
  have D_law_open : Own l.prog w K mg base "_law_open" 1 ["script"] (spOpen K) := A_law_open.own fun f fd F => ok_open F B 
  have D_law_spread : Own l.prog w K mg base "_law_spread" 1 ["cell", "at"] spSpread := A_law_spread.own fun f fd F => ok_spread F B 
  have D_law_take : Own l.prog w K mg base "_law_take" 2 ["pen", "amount"] spTake := A_law_take.own fun f fd F => ok_take F B (D_law_spread.imp (by decide) fun _ _ _ _ h => h)
  have D_law_same : Own l.prog w K mg base "_law_same" 4 ["found", "due"] (spSame K 4) := same_all A_law_same B 4
  have D_law_one_of : Own l.prog w K mg base "_law_one_of" 3 ["pen", "some"] (spOneOf K) := A_law_one_of.own fun f fd F => ok_one_of F B (D_law_take.imp (by decide) fun _ _ _ _ h => h)
  have D_law_odd : Own l.prog w K mg base "_law_odd" 4 ["pen"] (spOdd K) := A_law_odd.own fun f fd F => ok_odd F B (D_law_one_of.imp (by decide) fun _ _ _ _ h => h)
  have D_bent0 : Own l.prog w K mg base "_law_bent" 4 ["pen", "value"] (spBent K 0) := A_law_bent.own fun f fd F => ⟨(fun vs H Q E h => by obtain ⟨_, _, _, _, _, _, _, _, _, _, _, h, _⟩ := h; omega), fun _ _ _ _ _ _ _ _ _ _ _ _ _ h => by obtain ⟨_, _, _, _, _, _, _, _, _, _, _, h, _⟩ := h; omega⟩
  have D_bent1 : Own l.prog w K mg base "_law_bent" 5 ["pen", "value"] (spBent K 1) := A_law_bent.own fun f fd F => ok_bent F B (D_law_take.imp (by decide) fun _ _ _ _ h => h) (D_law_one_of.imp (by decide) fun _ _ _ _ h => h) (D_law_odd.imp (by decide) fun _ _ _ _ h => h) D_bent0
  have D_bent2 : Own l.prog w K mg base "_law_bent" 6 ["pen", "value"] (spBent K 2) := A_law_bent.own fun f fd F => ok_bent F B (D_law_take.imp (by decide) fun _ _ _ _ h => h) (D_law_one_of.imp (by decide) fun _ _ _ _ h => h) (D_law_odd.imp (by decide) fun _ _ _ _ h => h) D_bent1
  have D_bent3 : Own l.prog w K mg base "_law_bent" 7 ["pen", "value"] (spBent K 3) := A_law_bent.own fun f fd F => ok_bent F B (D_law_take.imp (by decide) fun _ _ _ _ h => h) (D_law_one_of.imp (by decide) fun _ _ _ _ h => h) (D_law_odd.imp (by decide) fun _ _ _ _ h => h) D_bent2
  have D_bent4 : Own l.prog w K mg base "_law_bent" 8 ["pen", "value"] (spBent K 4) := A_law_bent.own fun f fd F => ok_bent F B (D_law_take.imp (by decide) fun _ _ _ _ h => h) (D_law_one_of.imp (by decide) fun _ _ _ _ h => h) (D_law_odd.imp (by decide) fun _ _ _ _ h => h) D_bent3
  have D_bent5 : Own l.prog w K mg base "_law_bent" 9 ["pen", "value"] (spBent K 5) := A_law_bent.own fun f fd F => ok_bent F B (D_law_take.imp (by decide) fun _ _ _ _ h => h) (D_law_one_of.imp (by decide) fun _ _ _ _ h => h) (D_law_odd.imp (by decide) fun _ _ _ _ h => h) D_bent4
  have D_bent6 : Own l.prog w K mg base "_law_bent" 10 ["pen", "value"] (spBent K 6) := A_law_bent.own fun f fd F => ok_bent F B (D_law_take.imp (by decide) fun _ _ _ _ h => h) (D_law_one_of.imp (by decide) fun _ _ _ _ h => h) (D_law_odd.imp (by decide) fun _ _ _ _ h => h) D_bent5
  have D_law_draw_order : Own l.prog w K mg base "_law_draw_order" 3 ["pen", "n"] (spOrder K) := A_law_draw_order.own fun f fd F => ok_draw_order F B (D_law_take.imp (by decide) fun _ _ _ _ h => h)
  have D_law_web : Own l.prog w K mg base "_law_web" 1 ["n", "pairs"] (spWeb K) := A_law_web.own fun f fd F => ok_web F B 
  have D_law_draw_web : Own l.prog w K mg base "_law_draw_web" 4 ["pen", "low", "high"] (spDrawWeb K) := A_law_draw_web.own fun f fd F => ok_draw_web F B (D_law_take.imp (by decide) fun _ _ _ _ h => h) (D_law_draw_order.imp (by decide) fun _ _ _ _ h => h) (D_law_web.imp (by decide) fun _ _ _ _ h => h)
  have D_law_draw_roots : Own l.prog w K mg base "_law_draw_roots" 4 ["pen", "n", "k"] (spDrawRoots K) := A_law_draw_roots.own fun f fd F => ok_draw_roots F B (D_law_draw_order.imp (by decide) fun _ _ _ _ h => h)
  have D_law_draw_sizes : Own l.prog w K mg base "_law_draw_sizes" 3 ["pen", "n", "k"] (spDrawSizes K) := A_law_draw_sizes.own fun f fd F => ok_draw_sizes F B (D_law_take.imp (by decide) fun _ _ _ _ h => h)
  have D_law_draw_deal : Own l.prog w K mg base "_law_draw_deal" 5 ["pen", "web", "most"] (spDrawDeal K) := A_law_draw_deal.own fun f fd F => ok_draw_deal F B (D_law_take.imp (by decide) fun _ _ _ _ h => h) (D_law_draw_roots.imp (by decide) fun _ _ _ _ h => h) (D_law_draw_sizes.imp (by decide) fun _ _ _ _ h => h)
  have D_is_whole : Own l.prog w K mg base "is_whole" 1 ["value"] (spWhole K) := A_is_whole.own fun f fd F => ok_is_whole F B 
  have D_is_place : Own l.prog w K mg base "is_place" 2 ["n", "value"] (spPlace K) := A_is_place.own fun f fd F => ok_is_place F B (D_is_whole.imp (by decide) fun _ _ _ _ h => h)
  have D_are_roots : Own l.prog w K mg base "_are_roots" 3 ["n", "value"] (spRoots K) := A_are_roots.own fun f fd F => ok_are_roots F B (D_is_place.imp (by decide) fun _ _ _ _ h => h)
  have D_are_sizes : Own l.prog w K mg base "_are_sizes" 2 ["n", "k", "value"] (spSizes K) := A_are_sizes.own fun f fd F => ok_are_sizes F B (D_is_whole.imp (by decide) fun _ _ _ _ h => h)
  have D_is_deal : Own l.prog w K mg base "is_deal" 4 ["web", "value"] (spIsDeal K) := A_is_deal.own fun f fd F => ok_is_deal F B (D_are_roots.imp (by decide) fun _ _ _ _ h => h) (D_are_sizes.imp (by decide) fun _ _ _ _ h => h)
  have D_law_is_whole : Own l.prog w K mg base "_law_is_whole" 1 ["value"] (spWhole K) := A_law_is_whole.own fun f fd F => ok_law_is_whole F B 
  have D_law_is_deal : Own l.prog w K mg base "_law_is_deal" 2 ["web", "value"] (spIsDeal K) := A_law_is_deal.own fun f fd F => ok_law_is_deal F B (D_law_is_whole.imp (by decide) fun _ _ _ _ h => h)
  exact ok_law F B (D_law_open.imp (by decide) fun _ _ _ _ h => h) (D_law_take.imp (by decide) fun _ _ _ _ h => h) (D_law_same.imp (by decide) fun _ _ _ _ h => h) (D_law_one_of.imp (by decide) fun _ _ _ _ h => h) (D_law_odd.imp (by decide) fun _ _ _ _ h => h) (D_bent6.imp (by decide) fun _ _ _ _ h => h) (D_law_draw_web.imp (by decide) fun _ _ _ _ h => h) (D_law_draw_deal.imp (by decide) fun _ _ _ _ h => h) (D_is_deal.imp (by decide) fun _ _ _ _ h => h) (D_law_is_deal.imp (by decide) fun _ _ _ _ h => h)
end K03
open PySem PySem.W PyProof.Rows
set_option maxRecDepth 100000 in
set_option maxHeartbeats 0 in
theorem PySem.Challenge.cw_rootparts_k03_deals_recognized_holds : PySem.Challenge.rw_rootparts_k03_deals_recognized.Holds := by
  w_on; o_law; k_head; (case hw => w_witness2)
  k_fill
  refine My.walk_ofG (l := PySem.Challenge.rw_rootparts_k03_deals_recognized) (n := 63) (k := 11) (x := "script") (sp := fun w => K03.spLaw _) rfl (by decide) rfl ⟨rfl, by decide, by decide⟩ (fun w h Y => PySem.W.kIn_of Y) ?F (fun _ _ a ns hl hS => ⟨a, ns, rfl, hS, hl, fun _ => rfl⟩)
  case F =>
    intro w mg fa h KX G hmg
    refine' K03.all_mk KX G hmg ?a0 ?l0 ?c0 ?k0 ?a1 ?l1 ?c1 ?k1 ?a2 ?l2 ?c2 ?k2 ?a3 ?l3 ?c3 ?k3 ?a4 ?l4 ?c4 ?k4 ?a5 ?l5 ?c5 ?k5 ?a6 ?l6 ?c6 ?k6 ?a7 ?l7 ?c7 ?k7 ?a8 ?l8 ?c8 ?k8 ?a9 ?l9 ?c9 ?k9 ?a10 ?l10 ?c10 ?k10 ?a11 ?l11 ?c11 ?k11 ?a12 ?l12 ?c12 ?k12 ?a13 ?l13 ?c13 ?k13 ?a14 ?l14 ?c14 ?k14 ?a15 ?l15 ?c15 ?k15 ?a16 ?l16 ?c16 ?k16 ?a17 ?l17 ?c17 ?k17 ?a18 ?l18 ?c18 ?k18 ?a19 ?l19 ?c19 ?k19 ?a20 ?l20 ?c20 ?k20 ?z_len ?z_int ?z_list ?z_tuple ?z_bool ?z_str ?z_range ?z_enumerate ?z_zip ?z_isinstance ?z_sum ?z_all ?z_min ?z_max ?z_repr ?z_sorted ?z_set
    (case a0 => k_is)
    (case l0 => k_is)
    (case c0 => k_is)
    (case k0 => k_is)
    (case a1 => k_is)
    (case l1 => k_is)
    (case c1 => k_is)
    (case k1 => k_is)
    (case a2 => k_is)
    (case l2 => k_is)
    (case c2 => k_is)
    (case k2 => k_is)
    (case a3 => k_is)
    (case l3 => k_is)
    (case c3 => k_is)
    (case k3 => k_is)
    (case a4 => k_is)
    (case l4 => k_is)
    (case c4 => k_is)
    (case k4 => k_is)
    (case a5 => k_is)
    (case l5 => k_is)
    (case c5 => k_is)
    (case k5 => k_is)
    (case a6 => k_is)
    (case l6 => k_is)
    (case c6 => k_is)
    (case k6 => k_is)
    (case a7 => k_is)
    (case l7 => k_is)
    (case c7 => k_is)
    (case k7 => k_is)
    (case a8 => k_is)
    (case l8 => k_is)
    (case c8 => k_is)
    (case k8 => k_is)
    (case a9 => k_is)
    (case l9 => k_is)
    (case c9 => k_is)
    (case k9 => k_is)
    (case a10 => k_is)
    (case l10 => k_is)
    (case c10 => k_is)
    (case k10 => k_is)
    (case a11 => k_is)
    (case l11 => k_is)
    (case c11 => k_is)
    (case k11 => k_is)
    (case a12 => k_is)
    (case l12 => k_is)
    (case c12 => k_is)
    (case k12 => k_is)
    (case a13 => k_is)
    (case l13 => k_is)
    (case c13 => k_is)
    (case k13 => k_is)
    (case a14 => k_is)
    (case l14 => k_is)
    (case c14 => k_is)
    (case k14 => k_is)
    (case a15 => k_is)
    (case l15 => k_is)
    (case c15 => k_is)
    (case k15 => k_is)
    (case a16 => k_is)
    (case l16 => k_is)
    (case c16 => k_is)
    (case k16 => k_is)
    (case a17 => k_is)
    (case l17 => k_is)
    (case c17 => k_is)
    (case k17 => k_is)
    (case a18 => k_is)
    (case l18 => k_is)
    (case c18 => k_is)
    (case k18 => k_is)
    (case a19 => k_is)
    (case l19 => k_is)
    (case c19 => k_is)
    (case k19 => k_is)
    (case a20 => k_is)
    (case l20 => k_is)
    (case c20 => k_is)
    (case k20 => k_is)
    (case z_len => k_is)
    (case z_int => k_is)
    (case z_list => k_is)
    (case z_tuple => k_is)
    (case z_bool => k_is)
    (case z_str => k_is)
    (case z_range => k_is)
    (case z_enumerate => k_is)
    (case z_zip => k_is)
    (case z_isinstance => k_is)
    (case z_sum => k_is)
    (case z_all => k_is)
    (case z_min => k_is)
    (case z_max => k_is)
    (case z_repr => k_is)
    (case z_sorted => k_is)
    (case z_set => k_is)

