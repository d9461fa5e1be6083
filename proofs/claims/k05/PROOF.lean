import PyProof.Rows.All
import Wide.All
import OpenK.AllK
import Wide.FinOn
import HandS.Base
import HandS.Call
import HandS.List
import HandS.Comp
import HandS.Ends
import HandS.Iter
import HandS.Words
import HandS.ForMost
import HandS.IsInst
import HandS.Zip
import HandS.TupAny
import HandS.Codes
import KE.KTupSum
import PySem.Challenge.RW_rootparts_k05_sizes_listed
set_option Elab.async false
set_option linter.all false
set_option maxRecDepth 100000
set_option maxHeartbeats 4000000
namespace My
open PySem PySem.Spec PyProof.Rows L2

/-! ### a def of the text, ready to be called -/
structure Own (P : Program) (w : World) (K : PySem.W.Frag) (mg : Str → Option Value) (base : Heap) (x : Str) (k : Nat) (ps : List Str) (sp : Sp) : Prop where
  ex : ∃ (f : Addr) (fd : FuncData), FnOk P w K mg base CX0 k f fd ps sp ∧ mg x = some (.ref f) ∧ PySem.W.keepIn K (.ref f) = true ∧ Binds K fd ps []
theorem pe_own {X : Cx} {x : Str} {k : Nat} {ps : List Str} {sp : Sp} {p pos : Pos} {e : Expr} {es : List Expr} {t : TA} (D : Own X.prog X.w X.K X.mg X.base x k ps sp) (hr : Room k X.A) (hg : Gl X x) (ha : PA X (e :: es) t)
    (hdb : (x == ("__debug__" : Str)) = false := by decide) (he : starEach (e :: es) X.env = (false, eval e X.env) :: starEach es X.env := by rfl) (hpl : (backTo pos (starEach es X.env)).any (·.1) = false := by rfl) :
    PE X (.Call (.Name x p) (e :: es) [] pos) (tCall sp [] E0 t) := by
  obtain ⟨f, fd, F, m, kp, b⟩ := D.ex
  exact pe_call F hr hg m kp b .nil pass0 ha hdb he hpl
theorem Own.imp {P : Program} {w : World} {K : PySem.W.Frag} {mg : Str → Option Value} {base : Heap} {x : Str} {j k : Nat} {ps : List Str} {sp sp' : Sp} (D : Own P w K mg base x j ps sp) (h : j ≤ k)
    (hi : ∀ vs H Q E, sp' vs H Q E → sp vs H Q E) : Own P w K mg base x k ps sp' := by
  obtain ⟨f, fd, F, m, kp, b⟩ := D.ex
  exact ⟨f, fd, (F.mono h).imp hi, m, kp, b⟩
/-- where a def of the text stands -/
structure At (K : PySem.W.Frag) (mg : Str → Option Value) (x : Str) (st : Stmt) (ps : List Str) : Prop where
  ex : ∃ (f : Addr) (fd : FuncData), Fun K x x st f fd ∧ mg x = some (.ref f) ∧ Binds K fd ps []
theorem At.own {P : Program} {w : World} {K : PySem.W.Frag} {mg : Str → Option Value} {base : Heap} {x : Str} {st : Stmt} {ps : List Str} {k : Nat} {sp : Sp} (D : At K mg x st ps)
    (h : ∀ f fd, Fun K x x st f fd → FnOk P w K mg base CX0 k f fd ps sp) : Own P w K mg base x k ps sp := by
  obtain ⟨f, fd, F, m, b⟩ := D.ex
  exact ⟨f, fd, h f fd F, m, F.kp, b⟩

/-! ### the built-ins that no name of the text hides -/
structure Bn (mg : Str → Option Value) : Prop where
  len : mg "len" = none
  int_ : mg "int" = none
  list_ : mg "list" = none
  tuple_ : mg "tuple" = none
  bool_ : mg "bool" = none
  str_ : mg "str" = none
  range : mg "range" = none
  enumerate : mg "enumerate" = none
  zip : mg "zip" = none
  isinstance : mg "isinstance" = none
  sum : mg "sum" = none
  all : mg "all" = none
  min : mg "min" = none
  max : mg "max" = none
  repr : mg "repr" = none
  sorted : mg "sorted" = none
  set : mg "set" = none

/-! ### a heap without one address -/
def wo (p : Addr) (H : Hp) : Hp := fun b => if b = p then none else H b
theorem wo_ne {p b : Addr} {H : Hp} (h : b ≠ p) : wo p H b = H b := by unfold wo; rw [if_neg h]
theorem wo_some {p b : Addr} {H : Hp} {o : HO} (h : wo p H b = some o) : b ≠ p ∧ H b = some o := by
  unfold wo at h
  by_cases e : b = p
  · rw [if_pos e] at h; cases h
  · rw [if_neg e] at h; exact ⟨e, h⟩
theorem wo_le {p : Addr} {H : Hp} : Same (wo p H) H := fun b o h => (wo_some h).2
theorem Same.wo {p : Addr} {H H' : Hp} (s : Same H H') : Same (wo p H) (wo p H') := fun b o h => by
  obtain ⟨n, e⟩ := wo_some h
  rw [wo_ne n]
  exact s _ _ e
theorem Same.new {H : Hp} {p : Addr} {o : HO} (h : H p = none) : Same H (upd H p o) := fun b x e => by
  rw [upd_ne (ne_of_none e h)]
  exact e
theorem Same.sqt {K : PySem.W.Frag} {H H' : Hp} {a : Addr} {xs : List V} (e : Same H H') (h : SqT K H a xs) : SqT K H' a xs := by
  rcases h with (h | ⟨o, h⟩) | h
  · exact .inl (.inl (e _ _ h))
  · exact .inl (.inr ⟨o, e _ _ h⟩)
  · exact .inr h
/-- the object at p is changed -/
theorem Same.put {p : Addr} {H : Hp} {o : HO} : Same (My.wo p H) (My.wo p (upd H p o)) := fun b x h => by
  obtain ⟨n, e⟩ := wo_some h
  rw [wo_ne n, upd_ne n]
  exact e

/-! ### the pen -/
def Pen (H : Hp) (p : Addr) (n : Nat) : Prop := ∃ (c : Addr) (cs : List Int) (k left : Int), H p = some (.lst [.ref c, .int k, .int left]) ∧ H c = some (.lst (cs.map V.int)) ∧ cs.length ≤ 12 ∧ 0 ≤ k ∧ k ≤ n ∧ 0 ≤ left
theorem Pen.same {H H' : Hp} {p : Addr} {n : Nat} (s : Same H H') (h : Pen H p n) : Pen H' p n := by
  obtain ⟨c, cs, k, left, h1, h2, h3⟩ := h
  exact ⟨c, cs, k, left, s _ _ h1, s _ _ h2, h3⟩
theorem Pen.mono {H : Hp} {p : Addr} {n m : Nat} (h : Pen H p n) (l : n ≤ m) : Pen H p m := by
  obtain ⟨c, cs, k, left, h1, h2, h3, h4, h5, h6⟩ := h
  exact ⟨c, cs, k, left, h1, h2, h3, h4, by omega, h6⟩
theorem mul_bd {a b A B : Int} (h1 : 0 ≤ a) (h2 : a ≤ A) (h3 : 0 ≤ b) (h4 : b ≤ B) : 0 ≤ a * b ∧ a * b ≤ A * B :=
  ⟨Int.mul_nonneg h1 h3, Int.mul_le_mul h2 h4 h3 (Int.le_trans h1 h2)⟩
theorem small {n : Nat} (h : n ≤ 100000) : n ≤ sizeLine := Nat.le_trans h (by decide)
theorem smallT {n : Nat} (h : n ≤ 100000) : n < sizeLine := Nat.lt_of_le_of_lt h (by decide)
theorem dT {p : Prop} [Decidable p] (h : decide p = true) : p := of_decide_eq_true h
theorem dF {p : Prop} [Decidable p] (h : ¬ decide p = true) : ¬ p := fun q => h (decide_eq_true q)

theorem at_get {xs : List V} {i : Int} (h0 : 0 ≤ i) (h1 : i < xs.length) : ∃ v, xs[i.toNat]? = some v ∧ atI xs i = some v := by
  refine ⟨xs[i.toNat]'(by omega), List.getElem?_eq_getElem (by omega), ?_⟩
  have e : ((i.toNat : Nat) : Int) = i := by omega
  have h := atI_nat (xs := xs) (j := i.toNat) (List.getElem?_eq_getElem (by omega))
  rw [e] at h
  exact h
theorem at_int {cs : List Int} {i : Int} (h0 : 0 ≤ i) (h1 : i < cs.length) : ∃ z, cs[i.toNat]? = some z ∧ atI (cs.map V.int) i = some (.int z) := by
  obtain ⟨v, e, h⟩ := at_get (xs := cs.map V.int) h0 (by rw [List.length_map]; exact h1)
  rw [List.getElem?_map] at e
  cases q : cs[i.toNat]? with
  | none => rw [q] at e; cases e
  | some z =>
    rw [q] at e
    cases e
    exact ⟨z, rfl, h⟩

/-! ### promises of the law's own helpers -/
def spOpen (K : PySem.W.Frag) : Sp := fun vs H Q _ => ∃ (a : Addr) (ns : List Int), vs = [.ref a] ∧ SqL K H a (ns.map V.int) ∧ ns.length ≤ 63 ∧
  ∀ H' p, Same H H' → H p = none → Pen H' p 0 → Q (.ref p) H'
def spSpread : Sp := fun vs H Q _ => ∃ (cell k : Int), vs = [.int cell, .int k] ∧ 0 ≤ k ∧ k ≤ 1000000 ∧ ∀ H' r, Same H H' → 0 ≤ r → Q (.int r) H'
def spTake : Sp := fun vs H Q _ => ∃ (p : Addr) (m : Int) (n : Nat), vs = [.ref p, .int m] ∧ Pen H p n ∧ n ≤ 1000000 ∧ 1 ≤ m ∧ m ≤ 1000000 ∧
  ∀ r H', 0 ≤ r → r < m → Pen H' p (n + 1) → Same (wo p H) (wo p H') → Q (.int r) H'
/-- the thirteen primes -/
def primes : List Int := [2147483629, 2147483587, 2147483579, 2147483563, 2147483549, 2147483543, 2147483497, 2147483489, 2147483477, 2147483423, 2147483399, 2147483353, 2147483323]
theorem prime_at {i : Int} (h0 : 0 ≤ i) (h1 : i < 13) : ∃ q : Int, atI (primes.map V.int) i = some (.int q) ∧ 0 < q ∧ q < 2147483648 := by
  have c : i = 0 ∨ i = 1 ∨ i = 2 ∨ i = 3 ∨ i = 4 ∨ i = 5 ∨ i = 6 ∨ i = 7 ∨ i = 8 ∨ i = 9 ∨ i = 10 ∨ i = 11 ∨ i = 12 := by omega
  rcases c with e | e | e | e | e | e | e | e | e | e | e | e | e <;> subst e <;> exact ⟨_, rfl, by decide, by decide⟩

/-! ### loops over enumerate, by a word -/
theorem for_enumL {K : PySem.W.Frag} {a : Addr} {xs : List V} {g : TG} {tb : TS} {D : Ends} {σ : L2.St} {H : Hp} (Pv : Nat → L2.St → Hp → Prop) (h0 : Pv 0 σ H) (hq : ∀ i σ H, i ≤ xs.length → Pv i σ H → SqL K H a xs)
    (hs : ∀ (i : Nat) (x : V) (T : Addr) (σ : L2.St) (H : Hp), xs[i]? = some x → Pv i σ H → H T = none → g (.ref T) σ (upd H T (.tup [.int (i : Nat), x])) fun σ2 H2 => tb { D with nx := Pv (i + 1), ct := Pv (i + 1), bk := D.nx } σ2 H2) (hd : ∀ σ H, Pv xs.length σ H → D.nx σ H) :
    ∃ W : Nat → Nat → L2.St → Hp → Prop, (∃ m, W 0 m σ H) ∧ ∀ i m σ H, W i m σ H →
      ((Ite K a).stop i H ∧ D.nx σ H) ∨ ((Ite K a).go i H ∧ ∃ N : L2.St → Hp → Prop, (∀ σ' H', N σ' H' → ∃ m', m' < m ∧ W (i + 1) m' σ' H') ∧ ∀ v H', (Ite K a).yld i H v H' → g v σ H' fun σ2 H2 => tb { D with nx := N, ct := N, bk := D.nx } σ2 H2) := by
  refine ⟨fun i m σ H => m = xs.length - i ∧ i ≤ xs.length ∧ Pv i σ H, ⟨xs.length, rfl, Nat.zero_le _, h0⟩, ?_⟩
  rintro i m σ H ⟨rfl, hi, p⟩
  have qx := hq i σ H hi p
  by_cases hlt : i < xs.length
  · have hx : xs[i]? = some xs[i] := List.getElem?_eq_getElem hlt
    refine .inr ⟨⟨xs, _, qx, hx⟩, Pv (i + 1), fun σ' H' p' => ⟨xs.length - (i + 1), by omega, rfl, hlt, p'⟩, fun v H' y => ?_⟩
    obtain ⟨T, x', rfl, hT, rfl, f1⟩ := y
    exact hs i x' T σ H (f1 xs qx) p hT
  · have e : i = xs.length := by omega
    subst e
    exact .inl ⟨⟨xs, qx, Nat.le_refl _⟩, hd σ H p⟩
/-- an item changed by place -/
theorem set_mapI {cs : List Int} {j : Nat} {z : Int} : (cs.map V.int).set j (.int z) = (cs.set j z).map V.int := by
  rw [List.map_set]

/-! ### sum of a tuple -/
def rSumT (K : PySem.W.Frag) : List V → Hp → VK → Prop := fun vs H Q => ∃ (a : Addr) (ns : List Int), vs = [V.ref a] ∧ SqT K H a (ns.map V.int) ∧ Q (.int ns.sum) H
theorem cr_sumT {X : Cx} (hc : X.calm = true) : CallR X (.builtin "sum") (rSumT X.K) := by
  intro pins s σ H vs us Q I r h
  obtain ⟨a, ns, rfl, hs, q⟩ := h
  obtain ⟨its, rv, hl, _⟩ := I.tuple hs
  rw [Vals.ref1 r]
  obtain ⟨xs, e⟩ := rv.ints.allInts.items
  have hn : numsOf (intItems xs).toList = ns := by rw [← e]; exact rv.ints.numsOf
  rw [nums_intItems] at hn
  have hl2 : s.heap.IsTuple a its.toArray := hl
  rw [e] at hl2
  refine PySem.W.ktm_sumG (I.ok.hd hc) hl2 fun h' tk t' hk => ?_
  rw [preSum_eq, List.take_of_length_le (by simp), hn]
  exact ⟨.int _, H, I.kept hk, ⟨_, rfl⟩, q⟩
end My

set_option Elab.async false
set_option linter.all false
set_option maxRecDepth 100000
set_option maxHeartbeats 4000000
namespace My
open PySem PySem.Spec PyProof.Rows L2

/-! ### comprehensions over zip and enumerate, by a word -/
theorem lc_zipL {K : PySem.W.Frag} {a b : Addr} {xs ys : List V} {g : TG} {tt : TT} {te : TE} {vs : List Nat} {σ : L2.St} {H1 : Hp} {D : Addr} {Qd : Hp → Prop} (hl : xs.length = ys.length) (Pv : Nat → Hp → Prop) (h0 : Pv 0 (upd H1 D (.lst [])))
    (hq : ∀ i H, Pv i H → SqL K H a xs ∧ SqL K H b ys)
    (hs : ∀ (i : Nat) (x y : V) (T : Addr) (H : Hp), xs[i]? = some x → ys[i]? = some y → Pv i H → H T = none → g (.ref T) (wipe σ vs) (upd H T (.tup [x, y])) fun σ2 H2 => wipe σ2 vs = wipe σ vs ∧ tt σ2 H2 fun b H3 =>
      if b = true then te σ2 H3 fun z H4 => ∃ acc, H4 D = some (.lst acc) ∧ acc.length < sizeLine ∧ Pv (i + 1) (upd H4 D (.lst (acc ++ [z]))) else Pv (i + 1) H3) (hd : ∀ H, Pv xs.length H → Qd H) :
    ∃ W : Nat → Nat → Hp → Prop, (∃ m, W 0 m (upd H1 D (.lst []))) ∧ ∀ i m H, W i m H →
      ((Itz K a b).stop i H ∧ Qd H) ∨ ((Itz K a b).go i H ∧ ∃ Nx : Hp → Prop, (∀ H', Nx H' → ∃ m', m' < m ∧ W (i + 1) m' H') ∧ ∀ x H', (Itz K a b).yld i H x H' → g x (wipe σ vs) H' fun σ2 H2 => wipe σ2 vs = wipe σ vs ∧ tt σ2 H2 fun b H3 =>
        if b = true then te σ2 H3 fun y H4 => ∃ acc, H4 D = some (.lst acc) ∧ acc.length < sizeLine ∧ Nx (upd H4 D (.lst (acc ++ [y]))) else Nx H3) := by
  refine ⟨fun i m H => m = xs.length - i ∧ i ≤ xs.length ∧ Pv i H, ⟨xs.length, rfl, Nat.zero_le _, h0⟩, ?_⟩
  rintro i m H ⟨rfl, hi, p⟩
  obtain ⟨qx, qy⟩ := hq i H p
  by_cases hlt : i < xs.length
  · have hx : xs[i]? = some xs[i] := List.getElem?_eq_getElem hlt
    have hlt2 : i < ys.length := by omega
    have hy : ys[i]? = some ys[i] := List.getElem?_eq_getElem hlt2
    refine .inr ⟨⟨xs, ys, _, _, qx, qy, hx, hy⟩, Pv (i + 1), fun H' p' => ⟨xs.length - (i + 1), by omega, rfl, hlt, p'⟩, fun v H' y => ?_⟩
    obtain ⟨T, x', y', rfl, hT, rfl, f1, f2⟩ := y
    exact hs i x' y' T H (f1 xs qx) (f2 ys qy) p hT
  · have e : i = xs.length := by omega
    subst e
    exact .inl ⟨⟨xs, ys, qx, qy, Or.inl (Nat.le_refl _)⟩, hd H p⟩
theorem lc_zipT {K : PySem.W.Frag} {a b : Addr} {xs ys : List V} {g : TG} {tt : TT} {te : TE} {vs : List Nat} {σ : L2.St} {H1 : Hp} {D : Addr} {Qd : Hp → Prop} (n : Nat) (hl : n = min xs.length ys.length) (Pv : Nat → Hp → Prop) (h0 : Pv 0 (upd H1 D (.lst [])))
    (hq : ∀ i H, Pv i H → SqT K H a xs ∧ SqT K H b ys)
    (hs : ∀ (i : Nat) (x y : V) (T : Addr) (H : Hp), xs[i]? = some x → ys[i]? = some y → Pv i H → H T = none → g (.ref T) (wipe σ vs) (upd H T (.tup [x, y])) fun σ2 H2 => wipe σ2 vs = wipe σ vs ∧ tt σ2 H2 fun b H3 =>
      if b = true then te σ2 H3 fun z H4 => ∃ acc, H4 D = some (.lst acc) ∧ acc.length < sizeLine ∧ Pv (i + 1) (upd H4 D (.lst (acc ++ [z]))) else Pv (i + 1) H3) (hd : ∀ H, Pv n H → Qd H) :
    ∃ W : Nat → Nat → Hp → Prop, (∃ m, W 0 m (upd H1 D (.lst []))) ∧ ∀ i m H, W i m H →
      ((RZ.ItzT K a b).stop i H ∧ Qd H) ∨ ((RZ.ItzT K a b).go i H ∧ ∃ Nx : Hp → Prop, (∀ H', Nx H' → ∃ m', m' < m ∧ W (i + 1) m' H') ∧ ∀ x H', (RZ.ItzT K a b).yld i H x H' → g x (wipe σ vs) H' fun σ2 H2 => wipe σ2 vs = wipe σ vs ∧ tt σ2 H2 fun b H3 =>
        if b = true then te σ2 H3 fun y H4 => ∃ acc, H4 D = some (.lst acc) ∧ acc.length < sizeLine ∧ Nx (upd H4 D (.lst (acc ++ [y]))) else Nx H3) := by
  refine ⟨fun i m H => m = n - i ∧ i ≤ n ∧ Pv i H, ⟨n, rfl, Nat.zero_le _, h0⟩, ?_⟩
  rintro i m H ⟨rfl, hi, p⟩
  obtain ⟨qx, qy⟩ := hq i H p
  by_cases hlt : i < n
  · have hlt1 : i < xs.length := by omega
    have hx : xs[i]? = some xs[i] := List.getElem?_eq_getElem hlt1
    have hlt2 : i < ys.length := by omega
    have hy : ys[i]? = some ys[i] := List.getElem?_eq_getElem hlt2
    refine .inr ⟨⟨xs, ys, _, _, qx, qy, hx, hy⟩, Pv (i + 1), fun H' p' => ⟨n - (i + 1), by omega, rfl, hlt, p'⟩, fun v H' y => ?_⟩
    obtain ⟨T, x', y', rfl, hT, rfl, f1, f2⟩ := y
    exact hs i x' y' T H (f1 xs qx) (f2 ys qy) p hT
  · have e : i = n := by omega
    subst e
    exact .inl ⟨⟨xs, ys, qx, qy, by omega⟩, hd H p⟩

/-! ### kinds -/
inductive Kd where
  | non | bl | int | str | lst | tup | dct
  deriving DecidableEq
def Kd.nm : Kd → String
  | .non => "NoneType" | .bl => "bool" | .int => "int" | .str => "str" | .lst => "list" | .tup => "tuple" | .dct => "dict"
/-- is a value of kind a an instance of the class of kind b -/
def Kd.is : Kd → Kd → Bool
  | .bl, .int => true
  | .non, .non => true | .bl, .bl => true | .int, .int => true | .str, .str => true | .lst, .lst => true | .tup, .tup => true | .dct, .dct => true
  | _, _ => false
def kd : PyData → Kd
  | .none => .non | .bool _ => .bl | .int _ => .int | .str _ => .str | .list _ => .lst | .tuple _ => .tup | .dict _ => .dct
section
variable {K : PySem.W.Frag} {H H' : Hp} {v : V}
abbrev Knd (K : PySem.W.Frag) (H : Hp) (v : V) (k : Kd) : Prop := TyX K H v (.type k.nm)
theorem kNon : Knd K H .non .non := .base .non
theorem kBl (b : Bool) : Knd K H (.bl b) .bl := .base (.bl b)
theorem kInt (i : Int) : Knd K H (.int i) .int := .base (.int i)
theorem kStr (x : Str) : Knd K H (.str x) .str := .base (.str x)
theorem kit_k (k c : Kd) : PySem.W.kitOne K (.type k.nm) (.type c.nm) = some (k.is c) := by
  cases k <;> cases c <;> exact kit_ty (by decide +kernel)
theorem isi_k {k : Kd} (c : Kd) {Q : VK} (h : Knd K H v k) (q : Q (.bl (k.is c)) H) : rIsi K [v, .ty c.nm] H Q :=
  ⟨v, .ty c.nm, .type k.nm, .type c.nm, k.is c, rfl, .ty _, h, kit_k k c, q⟩
theorem isi_k2 {k : Kd} (c d : Kd) {tp : Addr} {Q : VK} (ht : H tp = some (.tup [.ty c.nm, .ty d.nm])) (h : Knd K H v k) (q : Q (.bl (k.is c || k.is d)) H) : rIsiT K [v, .ref tp] H Q := by
  refine ⟨v, tp, _, .type k.nm, [.type c.nm, .type d.nm], k.is c || k.is d, rfl, ht, .cons (.ty _) (.cons (.ty _) .nil), h, ?_, q⟩
  refine kitAny_cons (kit_k k c) (fun e => ?_) (fun e => by rw [e]; rfl)
  rw [e]
  refine kitAny_cons (kit_k k d) (fun e => ?_) (fun e => by rw [e]; rfl)
  rw [e]
  rfl
theorem isiV {k : Kd} (c : Kd) {σ : L2.St} {i : Nat} {Q : VK} (hv : σ[i]? = some (some v)) (h : Knd K H v k) (q : Q (.bl (k.is c)) H) : tCB (rIsi K) (tCons (tVar i) (tCons (tC (.ty c.nm)) tNil)) σ H Q :=
  ⟨v, hv, isi_k c h q⟩
theorem sql_knd {a : Addr} {xs : List V} (h : SqL K H a xs) : Knd K H (.ref a) .lst := by
  rcases h with (h | ⟨o, h⟩) | ⟨o, its, n, hk, hc, _⟩
  · exact .base (.lst h)
  · exact .base (.frz h)
  · exact .kList hk hc
theorem sqt_knd {a : Addr} {xs : List V} (h : SqT K H a xs) : Knd K H (.ref a) .tup := by
  rcases h with (h | ⟨o, h⟩) | ⟨o, its, n, hk, hc, _⟩
  · exact .base (.tup h)
  · exact .fTuple h
  · exact .kTuple hk hc
theorem Dp.knd {d : PyData} (h : Dp K H v d) : Knd K H v (kd d) := by
  cases h with
  | non => exact .base .non
  | bl b => exact .base (.bl b)
  | int i => exact .base (.int i)
  | str x => exact .base (.str x)
  | lst h _ => exact sql_knd h
  | tup h _ => exact sqt_knd h
theorem tyx_same {t : Value} (s : Same H H') (h : TyX K H v t) : TyX K H' v t := by
  cases h with
  | base b =>
    cases b with
    | non => exact .base .non
    | bl b => exact .base (.bl b)
    | int i => exact .base (.int i)
    | str x => exact .base (.str x)
    | flt x => exact .base (.flt x)
    | lst e => exact .base (.lst (s _ _ e))
    | frz e => exact .base (.frz (s _ _ e))
    | tup e => exact .base (.tup (s _ _ e))
    | dK e => exact .base (.dK (s _ _ e))
    | dT e => exact .base (.dT (s _ _ e))
    | ins e c1 c2 c3 c4 c5 => exact .base (.ins (s _ _ e) c1 c2 c3 c4 c5)
  | byt b => exact .byt b
  | set e => exact .set (s _ _ e)
  | kList e c => exact .kList e c
  | kTuple e c => exact .kTuple e c
  | kDict e c => exact .kDict e c
  | fTuple e => exact .fTuple (s _ _ e)
  | fDict e => exact .fDict (s _ _ e)
theorem isiV2 {k : Kd} (c d : Kd) {σ : L2.St} {i : Nat} {Q : VK} (hv : σ[i]? = some (some v)) (h : Knd K H v k) (q : ∀ H', Same H H' → Q (.bl (k.is c || k.is d)) H') :
    tCB (rIsiT K) (tCons (tVar i) (tCons (tTup (tCons (tC (.ty c.nm)) (tCons (tC (.ty d.nm)) tNil))) tNil)) σ H Q :=
  ⟨v, hv, by show 2 ≤ sizeLine; decide, fun t n => isi_k2 c d upd_same (tyx_same (Same.new n) h) (q _ (Same.new n))⟩
mutual
theorem Dp.same (s : Same H H') : ∀ {d : PyData} {v : V}, Dp K H v d → Dp K H' v d
  | _, _, .non => .non
  | _, _, .bl b => .bl b
  | _, _, .int i => .int i
  | _, _, .str x => .str x
  | _, _, .lst h a => .lst (s.seq h) (DpAll.same s a)
  | _, _, .tup h a => .tup (My.Same.sqt s h) (DpAll.same s a)
theorem DpAll.same (s : Same H H') : ∀ {ds : List PyData} {vs : List V}, DpAll K H vs ds → DpAll K H' vs ds
  | _, _, .nil => .nil
  | _, _, .cons h t => .cons (Dp.same s h) (DpAll.same s t)
end
theorem DpAll.len : ∀ {ds : List PyData} {vs : List V}, DpAll K H vs ds → vs.length = ds.length
  | _, _, .nil => rfl
  | _, _, .cons _ t => congrArg (· + 1) (DpAll.len t)
theorem DpAll.get : ∀ {ds : List PyData} {vs : List V} {i : Nat} {v : V}, DpAll K H vs ds → vs[i]? = some v → ∃ d, ds[i]? = some d ∧ Dp K H v d
  | _, _, i, v, .nil, e => by simp at e
  | d :: ds, _, 0, v, .cons h t, e => by
    simp at e
    subst e
    exact ⟨d, rfl, h⟩
  | _ :: ds, _, i + 1, v, .cons h t, e => by
    obtain ⟨d, e1, e2⟩ := DpAll.get (i := i) t (by simpa using e)
    exact ⟨d, by simpa using e1, e2⟩
theorem DpAll.mk : ∀ {ds : List PyData} {vs : List V}, vs.length = ds.length → (∀ (i : Nat) (v : V) (d : PyData), vs[i]? = some v → ds[i]? = some d → Dp K H v d) → DpAll K H vs ds
  | [], [], _, _ => DpAll.nil
  | d :: ds, v :: vs, l, h => .cons (h 0 v d rfl rfl) (DpAll.mk (by simpa using l) fun i v d e1 e2 => h (i + 1) v d (by simpa using e1) (by simpa using e2))
  | [], _ :: _, l, _ => by simp at l
  | _ :: _, [], l, _ => by simp at l
theorem DpAll.ints (ns : List Int) : DpAll K H (ns.map V.int) (ns.map PyData.int) := by
  induction ns with
  | nil => exact .nil
  | cons n ns ih => exact .cons (.int n) ih
end
/-- data of fewer than n levels, no dicts -/
def Fit : Nat → PyData → Prop
  | 0, _ => False
  | n + 1, d => match d with
    | .list ds => ds.length ≤ 100000 ∧ ∀ e ∈ ds, Fit n e
    | .tuple ds => ds.length ≤ 100000 ∧ ∀ e ∈ ds, Fit n e
    | .dict _ => False
    | _ => True
theorem Fit.mono : ∀ {n m : Nat} {d : PyData}, Fit n d → n ≤ m → Fit m d
  | 0, _, _, h, _ => h.elim
  | n + 1, 0, _, _, l => by omega
  | n + 1, m + 1, d, h, l => by
    cases d with
    | list ds => exact ⟨h.1, fun e he => (h.2 e he).mono (by omega)⟩
    | tuple ds => exact ⟨h.1, fun e he => (h.2 e he).mono (by omega)⟩
    | dict _ => exact h.elim
    | _ => trivial
/-- _law_same of equal data -/
def spSame (K : PySem.W.Frag) (n : Nat) : Sp := fun vs H Q _ => ∃ (x y : V) (d : PyData), vs = [x, y] ∧ Dp K H x d ∧ Dp K H y d ∧ Fit n d ∧ ∀ H', Same H H' → Q (.bl true) H'
theorem iteTT {A B : Prop} {c : Bool} (e : c = true) (h : A) : if c = true then A else B := by rw [if_pos e]; exact h
theorem iteFF {A B : Prop} {c : Bool} (e : c = false) (h : B) : if c = true then A else B := by
  rw [e]
  exact iteF h
theorem notIn_all (n : Nat) : ∀ bs : List V, (∀ b ∈ bs, b = V.bl true) → inV (.bl false) bs = false ∧ bs.all flatV = true
  | [], _ => ⟨rfl, rfl⟩
  | b :: r, h => by
    obtain ⟨e1, e2⟩ := notIn_all n r fun c hc => h c (List.mem_cons_of_mem _ hc)
    have e := h b List.mem_cons_self
    subst e
    unfold inV at e1 ⊢
    rw [List.any_cons, e1, List.all_cons, e2]
    exact ⟨rfl, rfl⟩
/-! ### the rules with the written part named: within a comprehension's block too -/
section
variable {X : Cx} (K : PySem.W.Frag)
def rLenQ (K : PySem.W.Frag) : List V → Hp → VK → Prop := fun xs H Q => ∃ p ys, xs = [.ref p] ∧ (SqL K H p ys ∨ SqT K H p ys) ∧ Q (.int ys.length) H
def rListOf (K : PySem.W.Frag) : List V → Hp → VK → Prop := fun xs H Q => ∃ p ys, xs = [.ref p] ∧ (SqL K H p ys ∨ SqT K H p ys) ∧ ∀ l, H l = none → Q (.ref l) (upd H l (.lst ys))
def rTupleOf (K : PySem.W.Frag) : List V → Hp → VK → Prop := fun xs H Q => ∃ p ys, xs = [.ref p] ∧ ((SqL K H p ys ∧ ∀ l, H l = none → Q (.ref l) (upd H l (.tup ys))) ∨ (SqT K H p ys ∧ Q (.ref p) H))
theorem ixL (h : X.K = K := by rfl) : IxR X (rIxL K) := by subst h; exact ix_list
theorem ixT (h : X.K = K := by rfl) : IxR X (rIxT K) := by subst h; exact ix_tup
theorem slL (h : X.K = K := by rfl) : SlR X (rSlL K) := by subst h; exact sl_list
theorem slT (h : X.K = K := by rfl) : SlR X (rSlA K) := by subst h; exact sl_tupA
theorem catA (h : X.K = K := by rfl) : OpR X (binaryOp .Add) (rCatA K) := by subst h; exact op_catA
theorem eqD (hu : X.A.units + 64 < cLine) (h : X.K = K := by rfl) : OpR X (compareOp .Eq) (rEqD K) := by subst h; exact op_eqD hu
theorem neD (hu : X.A.units + 64 < cLine) (h : X.K = K := by rfl) : OpR X (compareOp .NotEq) (rNeD K) := by subst h; exact op_neD hu
theorem ltT (hu : X.A.units < cLine) (h : X.K = K := by rfl) : OpR X (compareOp .Lt) (rLtT K) := by subst h; exact op_ltT hu
theorem inQ (h : X.K = K := by rfl) : OpR X (compareOp .In) (rIn K false) := by subst h; exact op_in_seq
theorem notInQ (h : X.K = K := by rfl) : OpR X (compareOp .NotIn) (rIn K true) := by subst h; exact op_notIn_seq
theorem lenQ (h : X.K = K := by rfl) : CallR X (.builtin "len") (rLenQ K) := by subst h; exact call_len_seq
theorem listOf (h : X.K = K := by rfl) : CallR X (.type "list") (rListOf K) := by subst h; exact call_list_of
theorem tupleOf (h : X.K = K := by rfl) : CallR X (.type "tuple") (rTupleOf K) := by subst h; exact call_tuple_of
theorem isi (h : X.K = K := by rfl) : CallR X (.builtin "isinstance") (rIsi K) := by subst h; exact call_isi
theorem isiT (h : X.K = K := by rfl) : CallR X (.builtin "isinstance") (rIsiT K) := by subst h; exact call_isiT
theorem sumL (hc : X.calm = true) (h : X.K = K := by rfl) : CallR X (.builtin "sum") (rSum K) := by subst h; exact cr_sum hc
theorem sumT (hc : X.calm = true) (h : X.K = K := by rfl) : CallR X (.builtin "sum") (rSumT K) := by subst h; exact cr_sumT hc
theorem allL (hc : X.calm = true) (h : X.K = K := by rfl) : CallR X (.builtin "all") (rAll K) := by subst h; exact cr_all hc
theorem pi_listK {tg l : Expr} {tl : TE} (hl : PE X l tl) (h : X.K = K := by rfl) : PI X tg l (iList K tl) := by subst h; exact pi_list hl
theorem pi_tupK {tg l : Expr} {tl : TE} (hl : PE X l tl) (h : X.K = K := by rfl) : PI X tg l (iTup K tl) := by subst h; exact pi_tup hl
theorem pi_zipK {e e2 : Expr} {ta : TA} {p pos tpos : Pos} {elts : List Expr} {kk : Nat} (hg : Gl X "zip") (hm : X.mg "zip" = none) (ha : PA X [e, e2] ta) (h : X.K = K := by rfl)
    (hs : starEach [e, e2] X.env = (false, eval e X.env) :: starEach [e2] X.env := by rfl) (hpl : (backTo pos (starEach [e2] X.env)).any (·.1) = false := by rfl) :
    PI X (.Tuple elts kk tpos) (.Call (.Name "zip" p) [e, e2] [] pos) (RZ.iZipA K ta) := by subst h; exact RZ.pi_zipA hg hm ha hs hpl
theorem pi_enumK {e : Expr} {ta : TA} {p pos tpos : Pos} {elts : List Expr} {kk : Nat} (hg : Gl X "enumerate") (hm : X.mg "enumerate" = none) (ha : PA X [e] ta) (h : X.K = K := by rfl) (hs : starEach [e] X.env = [(false, eval e X.env)] := by rfl) :
    PI X (.Tuple elts kk tpos) (.Call (.Name "enumerate" p) [e] [] pos) (iEnum K ta) := by subst h; exact pi_enum hg hm ha hs
theorem pg_tupK (n : Nat) {es : List Expr} {k : Nat} {t : TGs} {pos : Pos} (hc : X.calm = true) (h : PGs X es t) (hK : X.K = K := by rfl)
    (hn : (assignEach es X.env).length = n := by rfl) (hst : (assignEach es X.env).findIdx? (·.1) = none := by rfl) : PG X (.Tuple es k pos) (gTup K n t) := by subst hK; exact pg_tup hc h hn hst
theorem pe_bmK {o e : Expr} {es : List Expr} {to : TE} {t : TA} {name : Str} {apos cpos : Pos} {T id : String} {r : V → List V → Hp → VK → Prop}
    (pa : PlainAttrs T) (slot : Slot T name id) (hty : typeOf (.builtin id) = pure (.type "method_descriptor")) (hm : MtR X id r) (ho : PE X o to) (ha : PA X (e :: es) t) (hK : X.K = K := by rfl)
    (hbase : attributeBase o name X.env (eval o X.env) = eval o X.env := by rfl)
    (hfew : ((backTo cpos (starEach (e :: es) X.env)).all (fun x => !x.1) && (backToKw cpos (keywordEach [] X.env)).all (fun x => x.1.isSome)
      && decide ((e :: es).length + ([] : List Keyword).length + (if ([] : List Keyword).isEmpty then 0 else 1) < 30)) = true := by rfl)
    (hline : (apos.endLine == cpos.line) = true := by rfl) (hs : starEach (e :: es) X.env = (false, eval e X.env) :: starEach es X.env := by rfl) (hplain : (backTo cpos (starEach es X.env)).any (·.1) = false := by rfl) :
    PE X (.Call (.Attribute o name apos) (e :: es) [] cpos) (tBM K T r to t) := by subst hK; exact pe_bm pa slot hty hm ho ha hbase hfew hline hs hplain
end
end My

set_option Elab.async false
set_option linter.all false
set_option maxRecDepth 100000
set_option maxHeartbeats 4000000
namespace My
open PySem PySem.Spec PyProof.Rows L2

/-! ### comprehensions with two clauses -/
theorem lc2_range {lo : Int} {n : Nat} {D : Addr} {H1 : Hp} {Qd : Hp → Prop} {T : (Hp → Prop) → V → Hp → Prop} (Pv : Nat → Hp → Prop) (h0 : Pv 0 (upd H1 D (.lst [])))
    (hs : ∀ i H, i < n → Pv i H → T (Pv (i + 1)) (.int (lo + i)) H) (hd : ∀ H, Pv n H → Qd H) :
    ∃ W : Nat → Nat → Hp → Prop, (∃ m, W 0 m (upd H1 D (.lst []))) ∧ ∀ i m H, W i m H →
      ((Itr lo n).stop i H ∧ Qd H) ∨ ((Itr lo n).go i H ∧ ∃ Nx : Hp → Prop, (∀ H', Nx H' → ∃ m', m' < m ∧ W (i + 1) m' H') ∧ ∀ x H', (Itr lo n).yld i H x H' → T Nx x H') := by
  refine ⟨fun i m H => m = n - i ∧ i ≤ n ∧ Pv i H, ⟨n, by simp, Nat.zero_le _, h0⟩, ?_⟩
  rintro i m H ⟨rfl, hi, p⟩
  by_cases hlt : i < n
  · refine .inr ⟨hlt, Pv (i + 1), fun H' p' => ⟨n - (i + 1), by omega, rfl, hlt, p'⟩, fun x H' y => ?_⟩
    obtain ⟨e, y⟩ := y
    subst e y
    exact hs i _ hlt p
  · have e : i = n := by omega
    subst e
    exact .inl ⟨Nat.le_refl _, hd H p⟩
theorem in_list {K : PySem.W.Frag} {a : Addr} {xs : List V} {H4 : Hp} {Qd : Hp → Prop} {T : (Hp → Prop) → V → Hp → Prop} (Pv : Nat → Hp → Prop) (h0 : Pv 0 H4) (hl : ∀ i H, i ≤ xs.length → Pv i H → SqL K H a xs)
    (hs : ∀ (i : Nat) (x : V) H, xs[i]? = some x → Pv i H → T (Pv (i + 1)) x H) (hd : ∀ H, Pv xs.length H → Qd H) :
    ∃ W : Nat → Nat → Hp → Prop, (∃ m, W 0 m H4) ∧ ∀ i m H, W i m H →
      ((Itl K a).stop i H ∧ Qd H) ∨ ((Itl K a).go i H ∧ ∃ Nx : Hp → Prop, (∀ H', Nx H' → ∃ m', m' < m ∧ W (i + 1) m' H') ∧ ∀ x H', (Itl K a).yld i H x H' → T Nx x H') := by
  refine ⟨fun i m H => m = xs.length - i ∧ i ≤ xs.length ∧ Pv i H, ⟨xs.length, by simp, Nat.zero_le _, h0⟩, ?_⟩
  rintro i m H ⟨rfl, hi, p⟩
  have q := hl i H hi p
  by_cases hlt : i < xs.length
  · refine .inr ⟨⟨xs, xs[i], q, by simp [hlt]⟩, Pv (i + 1), fun H' p' => ⟨xs.length - (i + 1), by omega, rfl, hlt, p'⟩, fun x H' y => ?_⟩
    obtain ⟨e, y⟩ := y
    subst e
    exact hs i x _ (y xs q) p
  · have e : i = xs.length := by omega
    subst e
    exact .inl ⟨⟨xs, q, Nat.le_refl _⟩, hd H p⟩
theorem in_range {lo : Int} {n : Nat} {H4 : Hp} {Qd : Hp → Prop} {T : (Hp → Prop) → V → Hp → Prop} (Pv : Nat → Hp → Prop) (h0 : Pv 0 H4)
    (hs : ∀ i H, i < n → Pv i H → T (Pv (i + 1)) (.int (lo + i)) H) (hd : ∀ H, Pv n H → Qd H) :
    ∃ W : Nat → Nat → Hp → Prop, (∃ m, W 0 m H4) ∧ ∀ i m H, W i m H →
      ((Itr lo n).stop i H ∧ Qd H) ∨ ((Itr lo n).go i H ∧ ∃ Nx : Hp → Prop, (∀ H', Nx H' → ∃ m', m' < m ∧ W (i + 1) m' H') ∧ ∀ x H', (Itr lo n).yld i H x H' → T Nx x H') := by
  refine ⟨fun i m H => m = n - i ∧ i ≤ n ∧ Pv i H, ⟨n, by simp, Nat.zero_le _, h0⟩, ?_⟩
  rintro i m H ⟨rfl, hi, p⟩
  by_cases hlt : i < n
  · refine .inr ⟨hlt, Pv (i + 1), fun H' p' => ⟨n - (i + 1), by omega, rfl, hlt, p'⟩, fun x H' y => ?_⟩
    obtain ⟨e, y⟩ := y
    subst e y
    exact hs i _ hlt p
  · have e : i = n := by omega
    subst e
    exact .inl ⟨Nat.le_refl _, hd H p⟩

/-! ### data -/
section
variable {K : PySem.W.Frag} {H H' : Hp}
theorem DpAll.append : ∀ {ds es : List PyData} {vs us : List V}, DpAll K H vs ds → DpAll K H us es → DpAll K H (vs ++ us) (ds ++ es)
  | _, _, _, _, .nil, h => h
  | _, _, _, _, .cons h t, g => .cons h (DpAll.append t g)
theorem DpAll.snoc {ds : List PyData} {d : PyData} {vs : List V} {v : V} (h : DpAll K H vs ds) (g : Dp K H v d) : DpAll K H (vs ++ [v]) (ds ++ [d]) := DpAll.append h (.cons g .nil)
/-- an open place of a heap without D -/
theorem wo_none {D : Addr} {p : Addr} (h : H p = none) : wo D H p = none := by
  unfold wo
  by_cases e : p = D
  · rw [if_pos e]
  · rw [if_neg e]; exact h
theorem wo_new {D : Addr} {o : HO} (h : H D = none) : Same H (wo D (upd H D o)) := fun b x e => by
  have hb := ne_of_none e h
  rw [wo_ne hb, upd_ne hb]
  exact e
/-- a new tuple, seen without D -/
theorem tup_wo {D p : Addr} {xs : List V} {ds : List PyData} {o : HO} (hD : H D = some o) (hp : H p = none) (h : DpAll K (wo D H) xs ds) : Dp K (wo D (upd H p (.tup xs))) (.ref p) (.tuple ds) := by
  have hne : p ≠ D := (ne_of_none hD hp).symm
  refine .tup (SqT.of ((wo_ne hne).trans upd_same)) (DpAll.same ?_ h)
  exact Same.wo (Same.new hp)
theorem tup_new {p : Addr} {xs : List V} {ds : List PyData} (hp : H p = none) (h : DpAll K H xs ds) : Dp K (upd H p (.tup xs)) (.ref p) (.tuple ds) := .tup (SqT.of upd_same) (DpAll.same (Same.new hp) h)
theorem DpAll.int_vals : ∀ {ns : List Int} {vs : List V}, DpAll K H vs (ns.map PyData.int) → vs = ns.map V.int
  | [], _, .nil => rfl
  | n :: ns, _, .cons h t => by
    cases h
    rw [DpAll.int_vals t]
    rfl
/-- a tuple of ints as a datum -/
def tI (ns : List Int) : PyData := .tuple (ns.map PyData.int)
theorem Dp.tI {v : V} {ns : List Int} (h : Dp K H v (tI ns)) : ∃ a, v = .ref a ∧ SqT K H a (ns.map V.int) := by
  cases h with
  | tup q l =>
    rw [DpAll.int_vals l] at q
    exact ⟨_, rfl, q⟩
theorem Dp.ofTI {a : Addr} {ns : List Int} (h : SqT K H a (ns.map V.int)) : Dp K H (.ref a) (My.tI ns) := .tup h (DpAll.ints ns)
theorem sqt_wo {a D : Addr} {xs us : List V} (h : SqT K H a xs) (hD : H D = some (.lst us)) : SqT K (wo D H) a xs := by
  rcases h with (h | ⟨o, h⟩) | h
  · have hne : a ≠ D := ne_of h hD (by intro z; cases z)
    exact .inl (.inl ((wo_ne hne).trans h))
  · have hne : a ≠ D := ne_of h hD (by intro z; cases z)
    exact .inl (.inr ⟨o, (wo_ne hne).trans h⟩)
  · exact .inr h
theorem tI_wo {D : Addr} {us : List V} (hD : H D = some (.lst us)) : ∀ {L : List (List Int)} {vs : List V}, DpAll K H vs (L.map tI) → DpAll K (wo D H) vs (L.map tI)
  | [], _, .nil => .nil
  | s :: L, _, .cons h t => by
    obtain ⟨a, rfl, q⟩ := Dp.tI h
    exact .cons (Dp.ofTI (sqt_wo q hD)) (tI_wo hD t)
theorem Same.updD {D : Addr} {o : HO} (s : Same H H') (n : H D = none) : Same H (upd H' D o) := fun b x e => by
  rw [upd_ne (ne_of_none e n)]
  exact s _ _ e
theorem push {D : Addr} {us : List V} {y : V} {ds : List PyData} {d : PyData} (hus : DpAll K (wo D H) us ds) (hy : Dp K (wo D H) y d) :
    upd H D (.lst (us ++ [y])) D = some (.lst (us ++ [y])) ∧ DpAll K (wo D (upd H D (.lst (us ++ [y])))) (us ++ [y]) (ds ++ [d]) :=
  ⟨upd_same, DpAll.snoc (DpAll.same Same.put hus) (Dp.same Same.put hy)⟩
theorem DpAll.getD {ds : List PyData} {vs : List V} {i : Nat} {v : V} (h : DpAll K H vs ds) (e : vs[i]? = some v) : ∃ d, ds[i]? = some d ∧ Dp K H v d := DpAll.get h e
theorem tI_get {L : List (List Int)} {vs : List V} {i : Nat} {v : V} (h : DpAll K H vs (L.map tI)) (e : vs[i]? = some v) : ∃ s a, L[i]? = some s ∧ v = .ref a ∧ SqT K H a (s.map V.int) := by
  obtain ⟨d, e1, e2⟩ := DpAll.get h e
  rw [List.getElem?_map] at e1
  cases q : L[i]? with
  | none => rw [q] at e1; cases e1
  | some s =>
    rw [q] at e1
    cases e1
    obtain ⟨a, r, t⟩ := Dp.tI e2
    exact ⟨s, a, rfl, r, t⟩
end
end My

set_option Elab.async false
set_option linter.all false
set_option maxRecDepth 100000
set_option maxHeartbeats 4000000
namespace M05
/-! ### the mathematics of sizes -/
def every : Nat → Int → List (List Int)
  | 0, n => if n = 0 then [[]] else []
  | k + 1, n => (List.range (n - k).toNat).flatMap fun (i : Nat) => (every k (n - (1 + i))).map fun r => (1 + (i : Int)) :: r
def stepL (n c : Int) (found : List (List Int)) : List (List Int) := found.flatMap fun s => (List.range (n - s.sum - c).toNat).map fun (i : Nat) => s ++ [1 + (i : Int)]
def foundL (n : Int) (k : Nat) : Nat → List (List Int)
  | 0 => [[]]
  | t + 1 => stepL n ((k : Int) - 1 - t) (foundL n k t)
def sizesL (n : Int) (k : Nat) : List (List Int) := (foundL n k k).filter fun s => decide (s.sum = n)
theorem flat_flat {α β γ : Type} (f : α → List β) (g : β → List γ) : ∀ l : List α, (l.flatMap f).flatMap g = l.flatMap fun x => (f x).flatMap g
  | [] => rfl
  | x :: r => by
    rw [List.flatMap_cons, List.flatMap_append, flat_flat f g r, List.flatMap_cons]
theorem map_flat {α β γ : Type} (f : α → List β) (g : β → γ) : ∀ l : List α, (l.flatMap f).map g = l.flatMap fun x => (f x).map g
  | [] => rfl
  | x :: r => by
    rw [List.flatMap_cons, List.map_append, map_flat f g r, List.flatMap_cons]
theorem flat_map {α β γ : Type} (f : α → β) (g : β → List γ) : ∀ l : List α, (l.map f).flatMap g = l.flatMap fun x => g (f x)
  | [] => rfl
  | x :: r => by
    rw [List.map_cons, List.flatMap_cons, flat_map f g r, List.flatMap_cons]
theorem flat_congr {α β : Type} {f g : α → List β} : ∀ {l : List α}, (∀ x ∈ l, f x = g x) → l.flatMap f = l.flatMap g
  | [], _ => rfl
  | x :: r, h => by
    rw [List.flatMap_cons, List.flatMap_cons, h x List.mem_cons_self, flat_congr fun y hy => h y (List.mem_cons_of_mem _ hy)]
theorem sum_snoc (s : List Int) (x : Int) : (s ++ [x]).sum = s.sum + x := by
  rw [List.sum_append, List.sum_cons]
  simp
theorem inv (n : Int) (k : Nat) : ∀ t, t ≤ k → every k n = (foundL n k t).flatMap fun s => (every (k - t) (n - s.sum)).map fun r => s ++ r
  | 0, _ => by
    rw [foundL, List.flatMap_cons]
    simp
  | t + 1, h => by
    rw [inv n k t (by omega), foundL, stepL, flat_flat]
    refine flat_congr fun s _ => ?_
    rw [flat_map]
    obtain ⟨c, hc⟩ : ∃ c, k - t = c + 1 := ⟨k - t - 1, by omega⟩
    have hc2 : k - (t + 1) = c := by omega
    rw [hc, hc2, every, map_flat]
    rw [show (n - s.sum - ((k : Int) - 1 - (t : Int))) = n - s.sum - (c : Int) by omega]
    refine flat_congr fun i _ => ?_
    rw [List.map_map, sum_snoc, show n - (s.sum + (1 + (i : Int))) = n - s.sum - (1 + i) by omega]
    refine List.map_congr_left fun r _ => ?_
    show s ++ ((1 + (i : Int)) :: r) = (s ++ [1 + (i : Int)]) ++ r
    rw [List.append_assoc]
    rfl
theorem sizes_eq (n : Int) (k : Nat) : every k n = sizesL n k := by
  rw [inv n k k (Nat.le_refl k), sizesL, Nat.sub_self]
  induction foundL n k k with
  | nil => rfl
  | cons s r ih =>
    rw [List.flatMap_cons, ih, every, List.filter_cons]
    by_cases e : s.sum = n
    · rw [if_pos (by omega), decide_eq_true e]
      simp
    · rw [if_neg (by omega), decide_eq_false e]
      simp
theorem every_len : ∀ (k : Nat) (n : Int), ∀ r ∈ every k n, r.length = k
  | 0, n, r, h => by
    rw [every] at h
    by_cases e : n = 0
    · rw [if_pos e] at h
      rw [List.mem_singleton.mp h]
      rfl
    · rw [if_neg e] at h
      cases h
  | k + 1, n, r, h => by
    rw [every, List.mem_flatMap] at h
    obtain ⟨i, _, h⟩ := h
    obtain ⟨r', h', rfl⟩ := List.mem_map.mp h
    rw [List.length_cons, every_len k _ r' h']
theorem found_len : ∀ (n : Int) (k t : Nat), ∀ s ∈ foundL n k t, s.length = t
  | n, k, 0, s, h => by
    rw [foundL] at h
    rw [List.mem_singleton.mp h]
    rfl
  | n, k, t + 1, s, h => by
    rw [foundL, stepL, List.mem_flatMap] at h
    obtain ⟨s', h1, h⟩ := h
    obtain ⟨i, _, rfl⟩ := List.mem_map.mp h
    rw [List.length_append, found_len n k t _ h1]
    rfl
theorem found_sum : ∀ (n : Int) (k t : Nat), 0 ≤ n → t ≤ k → ∀ s ∈ foundL n k t, 0 ≤ s.sum ∧ s.sum ≤ n
  | n, k, 0, hn, _, s, h => by
    rw [foundL] at h
    rw [List.mem_singleton.mp h]
    exact ⟨Int.le_refl _, hn⟩
  | n, k, t + 1, hn, hk, s, h => by
    rw [foundL, stepL, List.mem_flatMap] at h
    obtain ⟨s', h1, h⟩ := h
    obtain ⟨i, hi, rfl⟩ := List.mem_map.mp h
    have ih := found_sum n k t hn (by omega) _ h1
    have h2 := List.mem_range.mp hi
    rw [sum_snoc]
    omega
def waysL (n : Int) (k : Nat) : Nat → Int
  | 0 => if (k : Int) ≤ n then 1 else 0
  | t + 1 => waysL n k t * (n - 1 - t) / (t + 1)
theorem ways_all : ∀ n < 12, ∀ k < 12, ((every (k + 1) ((n : Nat) + 1)).length : Int) = waysL ((n : Nat) + 1) (k + 1) k ∧ (every (k + 1) ((n : Nat) + 1)).length ≤ 1000 := by decide +kernel
theorem found_all : ∀ n < 12, ∀ k < 12, ∀ t < k + 2, (foundL ((n : Nat) + 1) (k + 1) t).length ≤ 10000 := by decide +kernel
theorem every_all : ∀ n < 13, ∀ k < 13, (every k (n : Nat)).length ≤ 1000 := by decide +kernel
end M05

set_option Elab.async false
set_option linter.all false
set_option maxRecDepth 100000
set_option maxHeartbeats 4000000
namespace K05
open PySem PySem.Spec PyProof.Rows L2 My
def topS (i : Nat) : Stmt := PySem.Challenge.pw_rootparts_k05_sizes_listed.main.body.getD i (.Pass ⟨0, 0, 0, 0⟩)
abbrev s_law_spread : Stmt := topS 4
theorem sc_law_spread : FnScope ["cell", "at", "primes", "one", "two", "three"] ["cell", "at"] (defScope s_law_spread) := ⟨rfl, rfl, rfl, by decide +kernel, rfl, by decide +kernel, by decide +kernel⟩
abbrev s_law_take : Stmt := topS 5
theorem sc_law_take : FnScope ["pen", "amount", "at", "cell", "found"] ["pen", "amount"] (defScope s_law_take) := ⟨rfl, rfl, rfl, by decide +kernel, rfl, by decide +kernel, by decide +kernel⟩
abbrev s_law_open : Stmt := topS 3
theorem sc_law_open : FnScope ["script", "cells", "k", "cell"] ["script"] (defScope s_law_open) := ⟨rfl, rfl, rfl, by decide +kernel, rfl, by decide +kernel, by decide +kernel⟩
section
variable {P : Program} {w : World} {K : PySem.W.Frag} {mg : Str → Option Value} {base : Heap}
theorem ok_spread {f : Addr} {fd : FuncData} {k : Nat} (F : Fun K "_law_spread" "_law_spread" s_law_spread f fd) (B : Bn mg) : FnOk P w K mg base CX0 (k + 1) f fd ["cell", "at"] spSpread := by
  refine F.ok sc_law_spread (fun vs H Q E h => ?_) (fun cdv A outer s H vs Q E hr h => ?_)
  · obtain ⟨a, ns, rfl, _⟩ := h
    rfl
  · obtain ⟨cell, i, rfl, i0, i1, q⟩ := h
    refine ⟨_, (pss_cons (ps_if (pt_cmpR op_ge (pv 0) (pe_op op_pow pe_int pe_int) (nomark _)) (pss_one (ps_ret (pv 0))) pss_nil)
      (pss_cons (ps_set (i := 2) sc_law_spread.nd rfl (.inl rfl) (pe_lst (pa_cons pe_int (pa_cons pe_int (pa_cons pe_int (pa_cons pe_int (pa_cons pe_int (pa_cons pe_int (pa_cons pe_int (pa_cons pe_int pa_nil))))))))))
      (pss_cons (ps_set (i := 2) sc_law_spread.nd rfl (.inl rfl) (pe_op op_cat (pv 2) (pe_lst (pa_cons pe_int (pa_cons pe_int (pa_cons pe_int (pa_cons pe_int (pa_cons pe_int pa_nil))))))))
      (pss_cons (ps_set (i := 3) sc_law_spread.nd rfl (.inl rfl) (pe_op op_add (pe_op op_add (pe_op op_mul (pe_op op_mod (pe_callTy call_int1 (by rfl) B.int_ (by decide +kernel) (pa_cons (pv 0) pa_nil)) pe_int) (pe_op op_add (pe_op op_mul pe_int (pv 1)) pe_int)) (pe_op op_mul (pv 1) pe_int)) pe_int))
      (pss_cons (ps_set (i := 3) sc_law_spread.nd rfl (.inl rfl) (pe_op op_mod (pe_callTy call_int1 (by rfl) B.int_ (by decide +kernel) (pa_cons (pe_op op_pow (pv 3) pe_int) pa_nil)) (pe_ix (ixL K) (pv 2) (pe_op op_mod (pe_callTy call_int1 (by rfl) B.int_ (by decide +kernel) (pa_cons (pv 1) pa_nil)) pe_int) (fun _ _ => rfl))))
      (pss_cons (ps_set (i := 4) sc_law_spread.nd rfl (.inl rfl) (pe_op op_mod (pe_callTy call_int1 (by rfl) B.int_ (by decide +kernel) (pa_cons (pe_op op_pow (pe_op op_add (pe_op op_add (pe_op op_mul (pv 3) (pe_op op_add (pv 1) pe_int)) (pe_op op_mod (pe_callTy call_int1 (by rfl) B.int_ (by decide +kernel) (pa_cons (pv 0) pa_nil)) pe_int)) pe_int) pe_int) pa_nil)) (pe_ix (ixL K) (pv 2) (pe_op op_mod (pe_callTy call_int1 (by rfl) B.int_ (by decide +kernel) (pa_cons (pe_op op_add (pv 1) pe_int) pa_nil)) pe_int) (fun _ _ => rfl))))
      (pss_cons (ps_set (i := 5) sc_law_spread.nd rfl (.inl rfl) (pe_op op_mod (pe_callTy call_int1 (by rfl) B.int_ (by decide +kernel) (pa_cons (pe_op op_pow (pe_op op_add (pe_op op_add (pv 4) (pe_op op_mod (pe_callTy call_int1 (by rfl) B.int_ (by decide +kernel) (pa_cons (pv 3) pa_nil)) pe_int)) (pv 1)) pe_int) pa_nil)) (pe_ix (ixL K) (pv 2) (pe_op op_mod (pe_callTy call_int1 (by rfl) B.int_ (by decide +kernel) (pa_cons (pe_op op_add (pv 1) pe_int) pa_nil)) pe_int) (fun _ _ => rfl))))
      (pss_one (ps_ret (pe_op op_add (pe_op op_mul (pe_op op_add (pe_op op_mul (pv 3) pe_int) (pv 4)) pe_int) (pv 5))))))))))), ?_⟩
    refine ⟨_, rfl, 10, 18, rfl, rfl, ⟨by decide, by decide, by decide⟩, cell, _, rfl, rfl, _, rfl, ite2 (fun e => ?_) (fun e => ?_)⟩
    · have hc : (0 : Int) ≤ cell := Int.le_trans (by decide : (0 : Int) ≤ 10 ^ (18 : Int).toNat) (dT e)
      exact ⟨_, rfl, q H cell (Same.refl H) hc⟩
    -- primes
    refine ⟨by show 8 ≤ sizeLine; decide, fun l hl => ?_⟩
    refine ⟨_, rfl, by show 5 ≤ sizeLine; decide, fun l2 hl2 => ?_⟩
    have hne : l ≠ l2 := fun z => by
      rw [← z, upd_same] at hl2
      cases hl2
    refine ⟨l, l2, _, _, rfl, rfl, (upd_ne hne).trans upd_same, upd_same, by show 13 ≤ sizeLine; decide, fun l3 hl3 => ?_⟩
    -- one
    generalize hH : upd (upd (upd H l _) l2 _) l3 _ = H3
    have s3 : Same H H3 := by
      rw [← hH]
      exact (Same.new hl).trans ((Same.new hl2).trans (Same.new hl3))
    have hp : H3 l3 = some (.lst (primes.map V.int)) := by
      rw [← hH]
      exact upd_same
    clear hH hl hl2 hl3 hne
    have a0 : 0 ≤ cell % 1000000007 := Int.emod_nonneg _ (by decide)
    have a1 : cell % 1000000007 < 1000000007 := Int.emod_lt_of_pos _ (by decide)
    have b0 : 0 ≤ cell % 65537 := Int.emod_nonneg _ (by decide)
    have b1 : cell % 65537 < 65537 := Int.emod_lt_of_pos _ (by decide)
    obtain ⟨m0, m1⟩ := mul_bd (B := 2069069) a0 (Int.le_of_lt a1) (show 0 ≤ 2 * i + 69069 by omega) (by omega)
    refine ⟨_, rfl, .inl ⟨cell, rfl, ?_⟩⟩
    refine ⟨_, 1000000007, rfl, rfl, by show (0 : Int) < _; decide, ?_⟩
    refine ⟨_, rfl, 2, i, rfl, rfl, .inl ⟨by decide, by decide⟩, ?_⟩
    refine ⟨2 * i, 69069, rfl, rfl, ?_⟩
    refine ⟨_, _, rfl, rfl, .inl ⟨by omega, by omega⟩, ?_⟩
    refine ⟨_, rfl, i, 40503, rfl, rfl, .inr ⟨by decide, by decide⟩, ?_⟩
    refine ⟨_, _, rfl, rfl, _, 977, rfl, rfl, ?_⟩
    dsimp only
    generalize ho : cell % 1000000007 * (2 * i + 69069) + i * 40503 + 977 = one
    have o0 : 0 ≤ one := by omega
    have o1 : one < 18446744073709551616 := by omega
    -- one = int(one ** 3) % primes[at % 13]
    refine ⟨_, rfl, one, 3, rfl, rfl, ⟨by decide, by decide, by omega⟩, .inl ⟨_, rfl, ?_⟩⟩
    obtain ⟨p1, e1, e10, e11⟩ := prime_at (Int.emod_nonneg i (by decide : (13 : Int) ≠ 0)) (Int.emod_lt_of_pos i (by decide))
    refine ⟨_, rfl, _, rfl, .inl ⟨i, rfl, _, 13, rfl, rfl, by show (0 : Int) < _; decide, l3, _, _, _, rfl, rfl, SqL.of hp, e1, ?_⟩⟩
    refine ⟨_, _, rfl, rfl, e10, ?_⟩
    dsimp only
    generalize ho1 : one ^ (3 : Int).toNat % p1 = one1
    have c0 : 0 ≤ one1 := ho1 ▸ Int.emod_nonneg _ (by omega)
    have c1 : one1 < p1 := ho1 ▸ Int.emod_lt_of_pos _ e10
    -- two
    obtain ⟨n0, n1⟩ := mul_bd (B := 1000003) c0 (show one1 ≤ 2147483648 by omega) (show 0 ≤ i + 3 by omega) (by omega)
    refine ⟨_, rfl, _, rfl, i, 3, rfl, rfl, _, _, rfl, rfl, .inl ⟨by omega, by omega⟩, ?_⟩
    refine ⟨_, rfl, .inl ⟨cell, rfl, _, 65537, rfl, rfl, by show (0 : Int) < _; decide, _, _, rfl, rfl, _, 5, rfl, rfl, ?_⟩⟩
    refine ⟨_, 5, rfl, rfl, ⟨by decide, by decide, by omega⟩, .inl ⟨_, rfl, ?_⟩⟩
    obtain ⟨p2, e2, e20, e21⟩ := prime_at (Int.emod_nonneg (i + 5) (by decide : (13 : Int) ≠ 0)) (Int.emod_lt_of_pos (i + 5) (by decide))
    refine ⟨_, rfl, _, rfl, i, 5, rfl, rfl, .inl ⟨i + 5, rfl, _, 13, rfl, rfl, by show (0 : Int) < _; decide, l3, _, _, _, rfl, rfl, SqL.of hp, e2, ?_⟩⟩
    refine ⟨_, _, rfl, rfl, e20, ?_⟩
    dsimp only
    generalize ho2 : (one1 * (i + 3) + cell % 65537 + 5) ^ (5 : Int).toNat % p2 = two
    have d0 : 0 ≤ two := ho2 ▸ Int.emod_nonneg _ (by omega)
    have d1 : two < p2 := ho2 ▸ Int.emod_lt_of_pos _ e20
    -- three
    have f0 : 0 ≤ one1 % 1009 := Int.emod_nonneg _ (by decide)
    have f1 : one1 % 1009 < 1009 := Int.emod_lt_of_pos _ (by decide)
    refine ⟨_, rfl, _, rfl, .inl ⟨one1, rfl, _, 1009, rfl, rfl, by show (0 : Int) < _; decide, _, _, rfl, rfl, _, rfl, _, i, rfl, rfl, ?_⟩⟩
    refine ⟨_, 3, rfl, rfl, ⟨by decide, by decide, by omega⟩, .inl ⟨_, rfl, ?_⟩⟩
    obtain ⟨p3, e3, e30, e31⟩ := prime_at (Int.emod_nonneg (i + 7) (by decide : (13 : Int) ≠ 0)) (Int.emod_lt_of_pos (i + 7) (by decide))
    refine ⟨_, rfl, _, rfl, i, 7, rfl, rfl, .inl ⟨i + 7, rfl, _, 13, rfl, rfl, by show (0 : Int) < _; decide, l3, _, _, _, rfl, rfl, SqL.of hp, e3, ?_⟩⟩
    refine ⟨_, _, rfl, rfl, e30, ?_⟩
    dsimp only
    generalize ho3 : (two + one1 % 1009 + i) ^ (3 : Int).toNat % p3 = three
    have g0 : 0 ≤ three := ho3 ▸ Int.emod_nonneg _ (by omega)
    -- return
    refine ⟨_, rfl, one1, 2147483647, rfl, rfl, .inr ⟨by decide, by decide⟩, ?_⟩
    refine ⟨_, rfl, one1 * 2147483647, two, rfl, rfl, ?_⟩
    refine ⟨_, 2147483647, rfl, rfl, .inr ⟨by decide, by decide⟩, ?_⟩
    refine ⟨_, rfl, _, three, rfl, rfl, ?_⟩
    exact q _ _ s3 (by omega)
theorem ok_take {f : Addr} {fd : FuncData} {k : Nat} (F : Fun K "_law_take" "_law_take" s_law_take f fd) (B : Bn mg) (D_law_spread : Own P w K mg base "_law_spread" k ["cell", "at"] spSpread) : FnOk P w K mg base CX0 (k + 1) f fd ["pen", "amount"] spTake := by
  refine F.ok sc_law_take (fun vs H Q E h => ?_) (fun cdv A outer s H vs Q E hr h => ?_)
  · obtain ⟨p, m, n, rfl, _⟩ := h
    rfl
  · obtain ⟨p, m, n, rfl, pen, hn, m0, m1, q⟩ := h
    refine ⟨_, (C8.pss_cut (ps_if (pt_cmpR op_lt (pe_ix (ixL K) (pv 0) pe_int (fun _ _ => rfl)) (pv 1) (nomark _)) (pss_cons (ps_set (i := 2) sc_law_take.nd rfl (.inl rfl) (pe_ix (ixL K) (pv 0) pe_int (fun _ _ => rfl)))
      (pss_cons (ps_set (i := 3) sc_law_take.nd rfl (.inl rfl) pe_int)
      (C8.pss_cut (ps_if (pt_cmpR op_lt (pv 2) (pe_callB (lenQ K) (by rfl) B.len (by decide +kernel) (pa_cons (pe_ix (ixL K) (pv 0) pe_int (fun _ _ => rfl)) pa_nil)) (nomark _)) (pss_one (ps_set (i := 3) sc_law_take.nd rfl (.inl rfl) (pe_ix (ixL K) (pe_ix (ixL K) (pv 0) pe_int (fun _ _ => rfl)) (pv 2) (fun _ _ => rfl)))) (pss_one (ps_if (pt_cmpR op_gt (pe_callB (lenQ K) (by rfl) B.len (by decide +kernel) (pa_cons (pe_ix (ixL K) (pv 0) pe_int (fun _ _ => rfl)) pa_nil)) pe_int (nomark _)) (pss_one (ps_set (i := 3) sc_law_take.nd rfl (.inl rfl) (pe_op op_mod (pe_callTy call_int1 (by rfl) B.int_ (by decide +kernel) (pa_cons (pe_ix (ixL K) (pe_ix (ixL K) (pv 0) pe_int (fun _ _ => rfl)) (pe_op op_mod (pe_callTy call_int1 (by rfl) B.int_ (by decide +kernel) (pa_cons (pe_op op_add (pe_op op_mul (pv 2) pe_int) pe_int) pa_nil)) (pe_callB (lenQ K) (by rfl) B.len (by decide +kernel) (pa_cons (pe_ix (ixL K) (pv 0) pe_int (fun _ _ => rfl)) pa_nil))) (fun _ _ => rfl)) pa_nil)) (pe_op op_add (pe_op op_pow pe_int pe_int) (pv 2))))) pss_nil)))
      (pss_cons (ps_asg (pe_op op_add (pv 2) pe_int) (pg_sub (pv 0) pe_int set_list))
      (pss_one (ps_asg (pe_own D_law_spread hr (by rfl) (pa_cons (pv 3) (pa_cons (pv 2) pa_nil))) (pg_sub (pv 0) pe_int set_list))))))) pss_nil)
      (pss_cons (ps_set (i := 4) sc_law_take.nd rfl (.inl rfl) (pe_op op_mod (pe_callTy call_int1 (by rfl) B.int_ (by decide +kernel) (pa_cons (pe_ix (ixL K) (pv 0) pe_int (fun _ _ => rfl)) pa_nil)) (pv 1)))
      (pss_cons (ps_asg (pe_op op_fdiv (pe_ix (ixL K) (pv 0) pe_int (fun _ _ => rfl)) (pv 1)) (pg_sub (pv 0) pe_int set_list))
      (pss_one (ps_ret (pv 4)))))), ?_⟩
    obtain ⟨c, cs, i, left, hp, hc, hcs, i0, i1, l0⟩ := pen
    have hpc : c ≠ p := ne_of hc hp (by
      intro z
      injection z with z
      cases cs with
      | nil => cases z
      | cons a r => cases z)
    -- what the rest asks: the pen with some number left
    refine ⟨fun σ H1 => ∃ (x2 x3 x4 : Option V) (j l : Int), σ = [some (.ref p), some (.int m), x2, x3, x4] ∧ H1 p = some (.lst [.ref c, .int j, .int l]) ∧ H1 c = some (.lst (cs.map V.int)) ∧ 0 ≤ j ∧ j ≤ n + 1 ∧ 0 ≤ l ∧ Same (wo p H) (wo p H1), ?_, ?_⟩
    · -- if pen[2] < amount
      refine ⟨_, rfl, p, _, 2, _, rfl, rfl, SqL.of hp, rfl, ?_⟩
      refine ⟨_, rfl, left, m, rfl, rfl, _, rfl, ite2 (fun e => ?_) (fun e => ?_)⟩
      · -- at = pen[1]; cell = 0
        refine ⟨_, rfl, p, _, 1, _, rfl, rfl, SqL.of hp, rfl, ?_⟩
        show (∃ Mid, _)
        refine ⟨fun σ H1 => ∃ (cell : Int), σ = [some (.ref p), some (.int m), some (.int i), some (.int cell), none] ∧ H1 = H, ?_, ?_⟩
        · -- if at < len(pen[0])
          refine ⟨_, rfl, _, rfl, p, _, 0, _, rfl, rfl, SqL.of hp, rfl, c, _, rfl, .inl (SqL.of hc), ?_⟩
          refine ⟨i, _, rfl, rfl, _, rfl, ite2 (fun e2 => ?_) (fun e2 => ?_)⟩
          · have h1 : i < ((cs.map V.int).length : Nat) := dT e2
            rw [List.length_map] at h1
            obtain ⟨z, _, hz⟩ := at_int i0 h1
            exact ⟨_, rfl, p, _, 0, _, rfl, rfl, SqL.of hp, rfl, _, rfl, c, _, i, .int z, rfl, rfl, SqL.of hc, hz, _, rfl, rfl⟩
          · refine ⟨_, rfl, p, _, 0, _, rfl, rfl, SqL.of hp, rfl, c, _, rfl, .inl (SqL.of hc), ?_⟩
            refine ⟨_, 0, rfl, rfl, _, rfl, ite2 (fun e3 => ?_) (fun e3 => ?_)⟩
            · have h3 : (0 : Int) < ((cs.map V.int).length : Nat) := dT e3
              rw [List.length_map] at h3
              have k0 : 0 ≤ (i * 5 + 3) % (cs.length : Int) := Int.emod_nonneg _ (by omega)
              have k1 : (i * 5 + 3) % (cs.length : Int) < cs.length := Int.emod_lt_of_pos _ h3
              -- cell = int(pen[0][int(at * 5 + 3) % len(pen[0])]) % (10 ** 17 + at)
              refine ⟨_, rfl, p, _, 0, _, rfl, rfl, SqL.of hp, rfl, ?_⟩
              refine ⟨_, rfl, i, 5, rfl, rfl, .inr ⟨by decide, by decide⟩, _, 3, rfl, rfl, .inl ⟨_, rfl, ?_⟩⟩
              refine ⟨_, rfl, p, _, 0, _, rfl, rfl, SqL.of hp, rfl, c, _, rfl, .inl (SqL.of hc), ?_⟩
              refine ⟨_, _, rfl, rfl, (by rw [List.length_map]; exact h3), ?_⟩
              dsimp only
              rw [List.length_map]
              obtain ⟨z, _, hz⟩ := at_int k0 k1
              refine ⟨c, _, _, .int z, rfl, rfl, SqL.of hc, hz, .inl ⟨_, rfl, ?_⟩⟩
              · refine ⟨10, 17, rfl, rfl, ⟨by decide, by decide, by decide⟩, _, rfl, _, i, rfl, rfl, _, _, rfl, rfl, ?_, _, rfl, rfl⟩
                have : (0 : Int) < 10 ^ (17 : Int).toNat := by decide
                show (0 : Int) < 10 ^ (17 : Int).toNat + i
                omega
            · exact ⟨0, rfl, rfl⟩
        · rintro σ1 H1 ⟨cell, rfl, rfl⟩
          -- pen[1] = at + 1
          refine ⟨_, rfl, i, 1, rfl, rfl, _, rfl, p, _, 1, 1, rfl, rfl, hp, rfl, ?_⟩
          -- pen[2] = _law_spread(cell, at)
          refine ⟨_, rfl, _, rfl, cell, i, rfl, i0, by omega, fun H2 r s2 r0 => ?_⟩
          have hp2 := s2 _ _ (upd_same (H := H1) (a := p) (o := .lst [.ref c, .int (i + 1), .int left]))
          refine ⟨_, rfl, p, _, 2, 2, rfl, rfl, hp2, rfl, ?_⟩
          refine ⟨_, _, _, i + 1, r, rfl, upd_same, ?_, by omega, by omega, r0, ?_⟩
          · rw [upd_ne hpc]
            exact s2 _ _ ((upd_ne hpc).trans hc)
          · exact (My.Same.put).trans ((My.Same.wo s2).trans My.Same.put)
      · exact ⟨_, _, _, i, left, rfl, hp, hc, i0, by omega, l0, Same.refl _⟩
    · rintro σ1 H1 ⟨x2, x3, x4, j, l, rfl, hp1, hc1, j0, j1, l0', sm⟩
      -- found = int(pen[2]) % amount
      refine ⟨_, rfl, p, _, 2, _, rfl, rfl, SqL.of hp1, rfl, .inl ⟨_, rfl, _, rfl, l, m, rfl, rfl, by show (0 : Int) < m; omega, ?_⟩⟩
      -- pen[2] = pen[2] // amount
      refine ⟨_, rfl, p, _, 2, _, rfl, rfl, SqL.of hp1, rfl, _, rfl, l, m, rfl, rfl, ⟨by show (0 : Int) < m; omega, by show m < 1073741824; omega⟩, ?_⟩
      refine ⟨_, rfl, p, _, 2, 2, rfl, rfl, hp1, rfl, ?_⟩
      refine ⟨_, rfl, q _ _ (Int.emod_nonneg _ (by omega)) (Int.emod_lt_of_pos _ (by omega)) ?_ (sm.trans My.Same.put)⟩
      refine ⟨c, cs, j, l / m, upd_same, (upd_ne hpc).trans hc1, hcs, j0, by omega, Int.ediv_nonneg l0' (by omega)⟩
theorem ok_open {f : Addr} {fd : FuncData} {k : Nat} (F : Fun K "_law_open" "_law_open" s_law_open f fd) (B : Bn mg) : FnOk P w K mg base CX0 (k + 1) f fd ["script"] (spOpen K) := by
  refine F.ok sc_law_open (fun vs H Q E h => ?_) (fun cdv A outer s H vs Q E hr h => ?_)
  · obtain ⟨p, m, rfl, _⟩ := h
    rfl
  · obtain ⟨a, ns, rfl, hS, hn, q⟩ := h
    refine ⟨_, (pss_cons (ps_set (i := 1) sc_law_open.nd rfl (.inl rfl) (pe_callTy (listOf K) (by rfl) B.list_ (by decide +kernel) (pa_cons (pe_slice (slL K) (pv 0) po_none (po_some pe_int)) pa_nil)))
      (pss_cons (ps_for PassesOwn.never rfl (pi_enumK K (by rfl) B.enumerate (pa_cons (pe_slice (slL K) (pv 0) (po_some pe_int) (po_some pe_int)) pa_nil)) (pg_tupK K 2 (by rfl) (pgs_cons (pg_name (i := 2) sc_law_open.nd rfl (.inl rfl)) (pgs_cons (pg_name (i := 3) sc_law_open.nd rfl (.inl rfl)) pgs_nil))) (pss_one (ps_asg (pe_op op_add (pe_ix (ixL K) (pv 1) (pe_op op_mod (pe_callTy call_int1 (by rfl) B.int_ (by decide +kernel) (pa_cons (pv 2) pa_nil)) pe_int) (fun _ _ => rfl)) (pv 3)) (pg_sub (pv 1) (pe_op op_mod (pe_callTy call_int1 (by rfl) B.int_ (by decide +kernel) (pa_cons (pv 2) pa_nil)) pe_int) set_list))))
      (pss_one (ps_ret (pe_lst (pa_cons (pv 1) (pa_cons pe_int (pa_cons pe_int pa_nil)))))))), ?_⟩
    -- cells = list(script[:12])
    refine ⟨_, rfl, 12, rfl, a, _, rfl, hS, fun c1 n1 => ?_⟩
    refine ⟨c1, _, rfl, .inl (SqL.of upd_same), fun c n2 => ?_⟩
    -- enumerate(script[12:63])
    have s1 : Same H (upd (upd H c1 (.lst (cutV (ns.map V.int) none (some 12)))) c (.lst (cutV (ns.map V.int) none (some 12)))) := (My.Same.new n1).trans (My.Same.new n2)
    refine ⟨_, rfl, 12, rfl, 63, rfl, a, _, rfl, s1.seq hS, fun d n3 => ?_⟩
    have hcut : ∀ lo hi, ∃ cs : List Int, cutV (ns.map V.int) lo hi = cs.map V.int := fun lo hi => by
      unfold cutV
      exact ⟨(ns.drop _).take _, by rw [List.map_take, List.map_drop]⟩
    obtain ⟨cs, ecs⟩ := hcut none (some 12)
    have hlen : cs.length = min 12 ns.length := by
      have := congrArg List.length ecs
      rw [List.length_map] at this
      rw [← this]
      unfold cutV
      rw [List.length_take, List.length_drop, List.length_map, HT.sIx_none]
      rw [show HT.sIx ns.length ns.length (some 12) = min 12 ns.length from HT.sIx_nat ns.length ns.length 12]
      omega
    have hdl : (cutV (ns.map V.int) (some 12) (some 63)).length = ns.length - 12 := by
      unfold cutV
      rw [List.length_take, List.length_drop, List.length_map]
      rw [show HT.sIx ns.length ns.length (some 63) = min 63 ns.length from HT.sIx_nat ns.length ns.length 63, show HT.sIx ns.length 0 (some 12) = min 12 ns.length from HT.sIx_nat ns.length 0 12]
      omega
    obtain ⟨ds, eds⟩ := hcut (some 12) (some 63)
    rw [eds] at hdl
    rw [List.length_map] at hdl
    have n3' := n3
    rw [ecs] at n3'
    have hcd : c ≠ d := fun z => by
      rw [← z, upd_same] at n3
      cases n3
    refine ⟨d, ds.map V.int, rfl, SqL.of (by rw [upd_same, eds]), ?_⟩
    refine for_enumL (xs := ds.map V.int) (fun i σ H1 => ∃ (x2 x3 : Option V) (zs : List Int), σ = [some (.ref a), some (.ref c), x2, x3] ∧ H1 c = some (.lst (zs.map V.int)) ∧ zs.length = cs.length ∧ H1 d = some (.lst (ds.map V.int)) ∧ Same H H1) ?_ ?_ ?_ ?_
    · refine ⟨none, none, cs, rfl, ?_, rfl, by rw [upd_same, eds], s1.trans (My.Same.new n3)⟩
      rw [upd_ne hcd, upd_same, ecs]
    · rintro i σ H1 hi ⟨x2, x3, zs, _, _, _, hd, _⟩
      exact SqL.of hd
    · rintro i x T σ H1 hx ⟨x2, x3, zs, rfl, hc, hz, hd, sm⟩ hT
      have hi : i < ds.length := by
        have := (List.getElem?_eq_some_iff.mp hx).1
        rwa [List.length_map] at this
      have h12 : cs.length = 12 := by omega
      obtain ⟨y, hy⟩ : ∃ y, x = .int y := by
        rw [List.getElem?_map] at hx
        cases e : ds[i]? with
        | none => rw [e] at hx; cases hx
        | some y => rw [e] at hx; exact ⟨y, (Option.some.inj hx).symm⟩
      subst hy
      have sT : Same H1 (upd H1 T (.tup [.int (i : Nat), .int y])) := My.Same.new hT
      have hc2 := sT _ _ hc
      have k0 : 0 ≤ ((i : Nat) : Int) % 12 := Int.emod_nonneg _ (by decide)
      have k1 : ((i : Nat) : Int) % 12 < 12 := Int.emod_lt_of_pos _ (by decide)
      obtain ⟨z, hz1, hz2⟩ := at_int (cs := zs) k0 (by omega)
      refine ⟨T, _, rfl, SqT.of upd_same, rfl, _, _, rfl, _, _, rfl, rfl, ?_⟩
      -- cells[int(k) % 12] + cell
      refine ⟨_, rfl, _, rfl, .inl ⟨_, rfl, _, 12, rfl, rfl, by show (0 : Int) < _; decide, c, _, _, _, rfl, rfl, SqL.of hc2, hz2, ?_⟩⟩
      refine ⟨_, rfl, z, y, rfl, rfl, ?_⟩
      refine ⟨_, rfl, _, rfl, .inl ⟨_, rfl, _, 12, rfl, rfl, by show (0 : Int) < _; decide, c, _, _, (((i : Nat) : Int) % 12).toNat, rfl, rfl, hc2, ?_, ?_⟩⟩
      · unfold ixN
        rw [List.length_map, if_pos k0, if_pos (by omega)]
      · refine ⟨_, _, zs.set (((i : Nat) : Int) % 12).toNat (z + y), rfl, ?_, ?_, ?_, ?_⟩
        · rw [upd_same, set_mapI]
        · rw [List.length_set, hz]
        · rw [upd_ne hcd.symm]
          exact sT _ _ hd
        · intro b o e
          have hb : b ≠ c := ne_of_none e ((My.Same.new n1).free n2)
          rw [upd_ne hb]
          exact sT _ _ (sm _ _ e)
    · rintro σ H1 ⟨x2, x3, zs, rfl, hc, hz, hd, sm⟩
      refine ⟨_, rfl, by show 3 ≤ sizeLine; decide, fun p hp => ?_⟩
      refine q _ p (sm.trans (My.Same.new hp)) (sm.free hp) ⟨c, zs, 0, 0, upd_same, ?_, by omega, Int.le_refl 0, Int.le_refl 0, Int.le_refl 0⟩
      rw [upd_ne (ne_of_none hc hp)]
      exact hc
end
end K05

set_option Elab.async false
set_option linter.all false
set_option maxRecDepth 100000
set_option maxHeartbeats 4000000
namespace K05
open PySem PySem.Spec PyProof.Rows L2 My
abbrev s_law_same : Stmt := topS 6
theorem sc_law_same : FnScope ["found", "due", "one", "other"] ["found", "due"] (defScope s_law_same) := ⟨rfl, rfl, rfl, by decide +kernel, rfl, by decide +kernel, by decide +kernel⟩
section
variable {P : Program} {w : World} {K : PySem.W.Frag} {mg : Str → Option Value} {base : Heap}
theorem ok_same {f : Addr} {fd : FuncData} {n : Nat} (F : Fun K "_law_same" "_law_same" s_law_same f fd) (B : Bn mg) (D_law_same : Own P w K mg base "_law_same" n ["found", "due"] (spSame K n)) : FnOk P w K mg base CX0 (n + 1) f fd ["found", "due"] (spSame K (n + 1)) := by
  refine F.ok sc_law_same (fun vs H Q E h => ?_) (fun cdv A outer s H vs Q E hr h => ?_)
  · obtain ⟨p, m, d, rfl, _⟩ := h
    rfl
  · obtain ⟨x, y, d, rfl, hx, hy, fit, q⟩ := h
    refine ⟨_, (pss_cons (ps_if ((pw_or (pt_cmpR op_isN (pv 1) pe_non (nomark _)) (pw_or1 (pt_cmpR op_isN (pv 0) pe_non (nomark _))))).pt (pss_one (ps_ret (pe_and (pe_cmpR op_isN (pv 1) pe_non (nomark _)) (pe_one (pe_cmpR op_isN (pv 0) pe_non (nomark _)))))) pss_nil)
      (pss_cons (ps_if ((pw_or (pt_val (pe_callB (isi K) (by rfl) B.isinstance (by decide +kernel) (pa_cons (pv 1) (pa_cons (pe_bltn (v := .ty "bool") (by rfl) B.bool_ (by decide +kernel) rfl) pa_nil)))) (pw_or1 (pt_val (pe_callB (isi K) (by rfl) B.isinstance (by decide +kernel) (pa_cons (pv 0) (pa_cons (pe_bltn (v := .ty "bool") (by rfl) B.bool_ (by decide +kernel) rfl) pa_nil))))))).pt (pss_one (ps_ret (pe_and (pe_callB (isi K) (by rfl) B.isinstance (by decide +kernel) (pa_cons (pv 1) (pa_cons (pe_bltn (v := .ty "bool") (by rfl) B.bool_ (by decide +kernel) rfl) pa_nil))) (pe_and (pe_callB (isi K) (by rfl) B.isinstance (by decide +kernel) (pa_cons (pv 0) (pa_cons (pe_bltn (v := .ty "bool") (by rfl) B.bool_ (by decide +kernel) rfl) pa_nil))) (pe_one (pe_cmpR op_eq (pv 0) (pv 1) (nomark _))))))) pss_nil)
      (pss_cons (ps_if (pt_val (pe_callB (isiT K) (by rfl) B.isinstance (by decide +kernel) (pa_cons (pv 1) (pa_cons (pe_tup (pa_cons (pe_bltn (v := .ty "int") (by rfl) B.int_ (by decide +kernel) rfl) (pa_cons (pe_bltn (v := .ty "str") (by rfl) B.str_ (by decide +kernel) rfl) pa_nil))) pa_nil)))) (pss_cons (ps_if (pt_cmpR op_ne (pe_callB (isi K) (by rfl) B.isinstance (by decide +kernel) (pa_cons (pv 0) (pa_cons (pe_bltn (v := .ty "int") (by rfl) B.int_ (by decide +kernel) rfl) pa_nil))) (pe_callB (isi K) (by rfl) B.isinstance (by decide +kernel) (pa_cons (pv 1) (pa_cons (pe_bltn (v := .ty "int") (by rfl) B.int_ (by decide +kernel) rfl) pa_nil))) (nomark _)) (pss_one (ps_ret pe_bl)) pss_nil)
      (pss_one (ps_ret (pe_and (pe_callB (isiT K) (by rfl) B.isinstance (by decide +kernel) (pa_cons (pv 0) (pa_cons (pe_tup (pa_cons (pe_bltn (v := .ty "int") (by rfl) B.int_ (by decide +kernel) rfl) (pa_cons (pe_bltn (v := .ty "str") (by rfl) B.str_ (by decide +kernel) rfl) pa_nil))) pa_nil))) (pe_one (pe_cmpR op_eq (pv 0) (pv 1) (nomark _))))))) pss_nil)
      (pss_cons (ps_if ((pw_or (pt_cmpR op_ne (pe_callB (isi K) (by rfl) B.isinstance (by decide +kernel) (pa_cons (pv 1) (pa_cons (pe_bltn (v := .ty "tuple") (by rfl) B.tuple_ (by decide +kernel) rfl) pa_nil))) (pe_callB (isi K) (by rfl) B.isinstance (by decide +kernel) (pa_cons (pv 0) (pa_cons (pe_bltn (v := .ty "tuple") (by rfl) B.tuple_ (by decide +kernel) rfl) pa_nil))) (nomark _)) (pw_or1 (pt_cmpR op_ne (pe_callB (isi K) (by rfl) B.isinstance (by decide +kernel) (pa_cons (pv 1) (pa_cons (pe_bltn (v := .ty "list") (by rfl) B.list_ (by decide +kernel) rfl) pa_nil))) (pe_callB (isi K) (by rfl) B.isinstance (by decide +kernel) (pa_cons (pv 0) (pa_cons (pe_bltn (v := .ty "list") (by rfl) B.list_ (by decide +kernel) rfl) pa_nil))) (nomark _))))).pt (pss_one (ps_ret pe_bl)) pss_nil)
      (pss_cons (ps_if (pt_cmpR op_ne (pe_callB (lenQ K) (by rfl) B.len (by decide +kernel) (pa_cons (pv 0) pa_nil)) (pe_callB (lenQ K) (by rfl) B.len (by decide +kernel) (pa_cons (pv 1) pa_nil)) (nomark _)) (pss_one (ps_ret pe_bl)) pss_nil)
      (pss_one (ps_ret (pe_cmpR (notInQ K) pe_bl (pe_lc (own := [("one", 2), ("other", 3)]) (by rfl) sc_law_same.nd (pi_zipK K (by rfl) B.zip (pa_cons (pv 0) (pa_cons (pv 1) pa_nil))) (blkOk_by (own := [("one", 2), ("other", 3)]) (N := ["found", "due", "one", "other"]) (sc := (defScope s_law_same)) (by decide +kernel)) (fun _ _ _ _ _ => (pg_tupK K 2 (by rfl) (pgs_cons (pg_name (i := 2) sc_law_same.nd rfl (.inl rfl)) (pgs_cons (pg_name (i := 3) sc_law_same.nd rfl (.inl rfl)) pgs_nil)))) (fun _ _ _ _ _ => pts_nil) (fun _ _ _ _ _ => (pe_own D_law_same hr (by rfl) (pa_cons (pv 2) (pa_cons (pv 3) pa_nil))))) (by rfl))))))))), ?_⟩
    -- if due is None or found is None
    refine ⟨_, rfl, rfl, decide (y = .non), rfl, ?_⟩
    cases d with
    | none =>
      cases hx
      cases hy
      exact iteT (iteT ⟨_, rfl, rfl, true, rfl, iteT ⟨_, rfl, rfl, q H (Same.refl H)⟩⟩)
    | bool b =>
      cases hx
      cases hy
      refine iteFF rfl ⟨_, rfl, rfl, false, rfl, iteF ?_⟩
      refine isiV .bl rfl (kBl b) ⟨true, rfl, ?_⟩
      refine iteT (iteT ?_)
      refine isiV .bl rfl (kBl b) ⟨true, rfl, iteT ?_⟩
      refine isiV .bl rfl (kBl b) ⟨true, rfl, iteT ?_⟩
      refine ⟨_, rfl, _, rfl, rfl, ?_⟩
      rw [decide_eq_true rfl]
      exact q H (Same.refl H)
    | int i =>
      cases hx
      cases hy
      refine iteFF rfl ⟨_, rfl, rfl, false, rfl, iteF ?_⟩
      refine isiV .bl rfl (kInt i) ⟨false, rfl, iteF ?_⟩
      refine isiV .bl rfl (kInt i) ⟨false, rfl, iteF ?_⟩
      refine isiV2 .int .str rfl (kInt i) fun H1 s1 => ⟨true, rfl, iteT ?_⟩
      refine isiV .int rfl (kInt i) ?_
      refine isiV .int rfl (kInt i) ⟨rfl, false, rfl, iteF ?_⟩
      refine isiV2 .int .str rfl (kInt i) fun H2 s2 => ⟨true, rfl, iteT ?_⟩
      refine ⟨_, rfl, _, rfl, rfl, ?_⟩
      rw [decide_eq_true rfl]
      exact q _ (s1.trans s2)
    | str i =>
      cases hx
      cases hy
      refine iteFF rfl ⟨_, rfl, rfl, false, rfl, iteF ?_⟩
      refine isiV .bl rfl (kStr i) ⟨false, rfl, iteF ?_⟩
      refine isiV .bl rfl (kStr i) ⟨false, rfl, iteF ?_⟩
      refine isiV2 .int .str rfl (kStr i) fun H1 s1 => ⟨true, rfl, iteT ?_⟩
      refine isiV .int rfl (kStr i) ?_
      refine isiV .int rfl (kStr i) ⟨rfl, false, rfl, iteF ?_⟩
      refine isiV2 .int .str rfl (kStr i) fun H2 s2 => ⟨true, rfl, iteT ?_⟩
      refine ⟨_, rfl, _, rfl, rfl, ?_⟩
      rw [decide_eq_true rfl]
      exact q _ (s1.trans s2)
    | dict _ => exact fit.elim
    | list ds =>
      obtain ⟨hf, hfit⟩ := fit
      have k1 := Dp.knd hx
      have k2 := Dp.knd hy
      cases hx with
      | @lst a xs _ qa la =>
      cases hy with
      | @lst b ys _ qb lb =>
      refine iteFF rfl ⟨_, rfl, rfl, false, rfl, iteF ?_⟩
      refine isiV .bl rfl k2 ⟨false, rfl, iteF ?_⟩
      refine isiV .bl rfl k1 ⟨false, rfl, iteF ?_⟩
      refine isiV2 .int .str rfl k2 fun H1 s1 => ⟨false, rfl, iteF ?_⟩
      have qa1 := s1.seq qa
      have qb1 := s1.seq qb
      refine isiV .tup rfl (sql_knd qb1) ?_
      refine isiV .tup rfl (sql_knd qa1) ⟨rfl, false, rfl, iteF ?_⟩
      refine isiV .lst rfl (sql_knd qb1) ?_
      refine isiV .lst rfl (sql_knd qa1) ⟨rfl, false, rfl, iteF ?_⟩
      refine ⟨_, rfl, a, xs, rfl, .inl qa1, ?_⟩
      refine ⟨_, rfl, b, ys, rfl, .inl qb1, rfl, false, ?_, iteF ?_⟩
      · rw [My.DpAll.len la, My.DpAll.len lb, decide_eq_true rfl]
        rfl
      refine ⟨_, rfl, _, rfl, a, b, xs, ys, rfl, .inl ⟨qa1, qb1, ?_⟩⟩
      intro D hD
      refine lc_zipL (xs := xs) (ys := ys) (by rw [My.DpAll.len la, My.DpAll.len lb]) (fun i H3 => Same H1 H3 ∧ ∃ bs : List V, H3 D = some (.lst bs) ∧ bs.length = i ∧ ∀ b ∈ bs, b = V.bl true) ?_ ?_ ?_ ?_
      · exact ⟨My.Same.new hD, [], upd_same, rfl, fun b hb => nomatch hb⟩
      · rintro i H3 ⟨sm, _⟩
        exact ⟨sm.seq qa1, sm.seq qb1⟩
      · rintro i u v T H3 eu ev ⟨sm, bs, eD, lD, hbs⟩ hT
        obtain ⟨d1, e1, p1⟩ := My.DpAll.get la eu
        obtain ⟨d2, e2, p2⟩ := My.DpAll.get lb ev
        cases e1.symm.trans e2
        have sT := My.Same.new (o := HO.tup [u, v]) hT
        refine ⟨T, _, rfl, SqT.of upd_same, rfl, _, _, rfl, _, _, rfl, rfl, rfl, ?_⟩
        refine ⟨_, rfl, _, rfl, u, v, d1, rfl, Dp.same (s1.trans (sm.trans sT)) p1, Dp.same (s1.trans (sm.trans sT)) p2, hfit _ (List.mem_of_getElem? e1), fun H4 s4 => ?_⟩
        have hi : i < ds.length := (List.getElem?_eq_some_iff.mp e1).1
        refine ⟨bs, s4 _ _ (sT _ _ eD), smallT (by omega), ?_, bs ++ [V.bl true], upd_same, by rw [List.length_append, lD]; rfl, ?_⟩
        · intro z o e
          have hz : z ≠ D := ne_of_none e hD
          rw [upd_ne hz]
          exact s4 _ _ (sT _ _ (sm _ _ e))
        · intro z hz
          rcases List.mem_append.mp hz with hz | hz
          · exact hbs z hz
          · exact List.mem_singleton.mp hz
      · rintro H3 ⟨sm, bs, eD, lD, hbs⟩
        obtain ⟨i1, i2⟩ := notIn_all 0 bs hbs
        refine ⟨D, bs, rfl, .inl (SqL.of eD), rfl, i2, ?_⟩
        rw [i1]
        exact q H3 (s1.trans sm)
    | tuple ds =>
      obtain ⟨hf, hfit⟩ := fit
      have k1 := Dp.knd hx
      have k2 := Dp.knd hy
      cases hx with
      | @tup a xs _ qa la =>
      cases hy with
      | @tup b ys _ qb lb =>
      refine iteFF rfl ⟨_, rfl, rfl, false, rfl, iteF ?_⟩
      refine isiV .bl rfl k2 ⟨false, rfl, iteF ?_⟩
      refine isiV .bl rfl k1 ⟨false, rfl, iteF ?_⟩
      refine isiV2 .int .str rfl k2 fun H1 s1 => ⟨false, rfl, iteF ?_⟩
      have qa1 := My.Same.sqt s1 qa
      have qb1 := My.Same.sqt s1 qb
      refine isiV .tup rfl (sqt_knd qb1) ?_
      refine isiV .tup rfl (sqt_knd qa1) ⟨rfl, false, rfl, iteF ?_⟩
      refine isiV .lst rfl (sqt_knd qb1) ?_
      refine isiV .lst rfl (sqt_knd qa1) ⟨rfl, false, rfl, iteF ?_⟩
      refine ⟨_, rfl, a, xs, rfl, .inr qa1, ?_⟩
      refine ⟨_, rfl, b, ys, rfl, .inr qb1, rfl, false, ?_, iteF ?_⟩
      · rw [My.DpAll.len la, My.DpAll.len lb, decide_eq_true rfl]
        rfl
      refine ⟨_, rfl, _, rfl, a, b, xs, ys, rfl, .inr ⟨qa1, qb1, ?_⟩⟩
      intro D hD
      refine lc_zipT (xs := xs) (ys := ys) xs.length (by rw [My.DpAll.len la, My.DpAll.len lb]; omega) (fun i H3 => Same H1 H3 ∧ ∃ bs : List V, H3 D = some (.lst bs) ∧ bs.length = i ∧ ∀ b ∈ bs, b = V.bl true) ?_ ?_ ?_ ?_
      · exact ⟨My.Same.new hD, [], upd_same, rfl, fun b hb => nomatch hb⟩
      · rintro i H3 ⟨sm, _⟩
        exact ⟨My.Same.sqt sm qa1, My.Same.sqt sm qb1⟩
      · rintro i u v T H3 eu ev ⟨sm, bs, eD, lD, hbs⟩ hT
        obtain ⟨d1, e1, p1⟩ := My.DpAll.get la eu
        obtain ⟨d2, e2, p2⟩ := My.DpAll.get lb ev
        cases e1.symm.trans e2
        have sT := My.Same.new (o := HO.tup [u, v]) hT
        refine ⟨T, _, rfl, SqT.of upd_same, rfl, _, _, rfl, _, _, rfl, rfl, rfl, ?_⟩
        refine ⟨_, rfl, _, rfl, u, v, d1, rfl, Dp.same (s1.trans (sm.trans sT)) p1, Dp.same (s1.trans (sm.trans sT)) p2, hfit _ (List.mem_of_getElem? e1), fun H4 s4 => ?_⟩
        have hi : i < ds.length := (List.getElem?_eq_some_iff.mp e1).1
        refine ⟨bs, s4 _ _ (sT _ _ eD), smallT (by omega), ?_, bs ++ [V.bl true], upd_same, by rw [List.length_append, lD]; rfl, ?_⟩
        · intro z o e
          have hz : z ≠ D := ne_of_none e hD
          rw [upd_ne hz]
          exact s4 _ _ (sT _ _ (sm _ _ e))
        · intro z hz
          rcases List.mem_append.mp hz with hz | hz
          · exact hbs z hz
          · exact List.mem_singleton.mp hz
      · rintro H3 ⟨sm, bs, eD, lD, hbs⟩
        obtain ⟨i1, i2⟩ := notIn_all 0 bs hbs
        refine ⟨D, bs, rfl, .inl (SqL.of eD), rfl, i2, ?_⟩
        rw [i1]
        exact q H3 (s1.trans sm)
theorem same_all (S : At K mg "_law_same" s_law_same ["found", "due"]) (B : Bn mg) : ∀ n, Own P w K mg base "_law_same" n ["found", "due"] (spSame K n)
  | 0 => S.own fun f fd F => ⟨fun vs H Q E ⟨_, _, _, _, _, _, h, _⟩ => h.elim, fun _ _ _ _ _ _ _ _ _ _ _ _ _ ⟨_, _, _, _, _, _, h, _⟩ => h.elim⟩
  | n + 1 => S.own fun f fd F => ok_same F B (same_all S B n)
end
end K05

set_option Elab.async false
set_option linter.all false
set_option maxRecDepth 100000
set_option maxHeartbeats 4000000
namespace K05
open PySem PySem.Spec PyProof.Rows L2 My
abbrev s_law_sizes : Stmt := topS 7
theorem sc_law_sizes : FnScope ["n", "k", "found", "turn", "later", "sizes", "size"] ["n", "k"] (defScope s_law_sizes) := ⟨rfl, rfl, rfl, by decide +kernel, rfl, by decide +kernel, by decide +kernel⟩
abbrev s_every_sizes : Stmt := topS 1
theorem sc_every_sizes : FnScope ["n", "k", "size", "rest"] ["n", "k"] (defScope s_every_sizes) := ⟨rfl, rfl, rfl, by decide +kernel, rfl, by decide +kernel, by decide +kernel⟩
/-- the promise of both -/
def spList (K : PySem.W.Frag) (L : Int → Nat → List (List Int)) (most : Nat) : Sp := fun vs H Q _ => ∃ (n : Int) (k : Nat), vs = [.int n, .int k] ∧ 0 ≤ n ∧ n ≤ 12 ∧ k < most ∧
  ∀ H' p us, Same H H' → H p = none → H' p = some (.lst us) → DpAll K (wo p H') us ((L n k).map tI) → Q (.ref p) H'
section
variable {P : Program} {w : World} {K : PySem.W.Frag} {mg : Str → Option Value} {base : Heap}
theorem ok_every {f : Addr} {fd : FuncData} {m : Nat} (F : Fun K "every_sizes" "every_sizes" s_every_sizes f fd) (B : Bn mg) (D_every_sizes : Own P w K mg base "every_sizes" m ["n", "k"] (spList K (fun n k => M05.every k n) m))
    (hm : m ≤ 12) : FnOk P w K mg base CX0 (m + 1) f fd ["n", "k"] (spList K (fun n k => M05.every k n) (m + 1)) := by
  refine F.ok sc_every_sizes (fun vs H Q E h => ?_) (fun cdv A outer s H vs Q E hr h => ?_)
  · obtain ⟨n, k, rfl, _⟩ := h
    rfl
  · obtain ⟨n, k, rfl, n0, n1, hk, q⟩ := h
    refine ⟨_, (pss_cons (ps_if (pt_cmpR op_lt (pv 1) pe_int (nomark _)) (pss_one (ps_ret (pe_ifExp (pt_cmpR op_eq (pv 0) pe_int (nomark _)) (pe_lst (pa_cons (pe_tup pa_nil) pa_nil)) (pe_lst pa_nil)))) pss_nil)
      (pss_one (ps_ret (pe_lc2 (own := [("size", 2), ("rest", 3)]) (vs1 := [3]) (by rfl) sc_every_sizes.nd (pi_range2 (by rfl) B.range (pa_cons pe_int (pa_cons (pe_op op_add (pe_op op_sub (pv 0) (pv 1)) pe_int) pa_nil))) (blkOk_by (own := [("size", 2), ("rest", 3)]) (N := ["n", "k", "size", "rest"]) (sc := (defScope s_every_sizes)) (by decide +kernel)) (by decide) (fun _ _ _ _ _ => (pg_name (i := 2) sc_every_sizes.nd rfl (.inl rfl))) (fun _ _ _ _ _ => pts_nil) (fun _ _ _ _ _ => (pi_listK K (pe_own D_every_sizes hr (by rfl) (pa_cons (pe_op op_sub (pv 0) (pv 2)) (pa_cons (pe_op op_sub (pv 1) pe_int) pa_nil))))) (fun _ _ _ _ _ => (pg_name (i := 3) sc_every_sizes.nd rfl (.inl rfl))) (fun _ _ _ _ _ => pts_nil) (fun _ _ _ _ _ => (pe_op (catA K) (pe_tup (pa_cons (pv 2) pa_nil)) (pv 3))))))), ?_⟩
    refine ⟨_, rfl, k, 1, rfl, rfl, _, rfl, ite2 (fun e => ?_) (fun e => ?_)⟩
    · have hk0 : k = 0 := by
        have := dT e
        omega
      subst hk0
      refine ⟨_, rfl, rfl, _, rfl, ite2 (fun e2 => ?_) (fun e2 => ?_)⟩
      · have hn : n = 0 := V.int.inj (dT e2)
        refine ⟨by show 0 ≤ sizeLine; decide, fun t ht => ?_⟩
        refine ⟨by show 1 ≤ sizeLine; decide, fun p hp => ?_⟩
        refine q _ p [.ref t] ((Same.new ht).trans (Same.new hp)) ((Same.new ht).free hp) upd_same ?_
        show DpAll K _ [.ref t] ((M05.every 0 n).map tI)
        rw [M05.every, if_pos hn]
        have hpt : p ≠ t := fun z => by
          rw [z, upd_same] at hp
          cases hp
        refine .cons (.tup (SqT.of ((wo_ne hpt.symm).trans ((upd_ne hpt.symm).trans upd_same))) .nil) .nil
      · have hn : ¬ n = 0 := fun z => e2 (decide_eq_true (congrArg V.int z))
        refine ⟨by show 0 ≤ sizeLine; decide, fun p hp => ?_⟩
        refine q _ p [] (Same.new hp) hp upd_same ?_
        show DpAll K _ [] ((M05.every 0 n).map tI)
        rw [M05.every, if_neg hn]
        exact .nil
    · have hk1 : ¬ ((k : Nat) : Int) < 1 := dF e
      obtain ⟨c, rfl⟩ : ∃ c, k = c + 1 := ⟨k - 1, by omega⟩
      -- the rows
      have hev : M05.every (c + 1) n = (List.range (n - c).toNat).flatMap fun (i : Nat) => (M05.every c (n - (1 + i))).map fun r => (1 + (i : Int)) :: r := rfl
      have hlen : (M05.every (c + 1) n).length ≤ 1000 := by
        have := M05.every_all n.toNat (by omega) (c + 1) (by omega)
        rwa [show ((n.toNat : Nat) : Int) = n by omega] at this
      refine ⟨_, rfl, _, rfl, n, ((c + 1 : Nat) : Int), rfl, rfl, _, 2, rfl, rfl, 1, _, rfl, ⟨by decide, by decide, by omega, by omega⟩, ?_⟩
      intro D hD
      have hcnt : (n - ((c + 1 : Nat) : Int) + 2 - 1).toNat = (n - c).toNat := by omega
      dsimp only
      rw [hcnt]
      let out : Nat → List (List Int) := fun i => (List.range i).flatMap fun (i : Nat) => (M05.every c (n - (1 + i))).map fun r => (1 + (i : Int)) :: r
      have hout : ∀ i, out (i + 1) = out i ++ (M05.every c (n - (1 + i))).map fun r => (1 + (i : Int)) :: r := fun i => by
        show (List.range (i + 1)).flatMap _ = _
        rw [List.range_succ, List.flatMap_append]
        simp [out]
      have hmono : ∀ i j, i ≤ j → (out i).length ≤ (out j).length := fun i j h => by
        induction j with
        | zero => rw [show i = 0 by omega]; exact Nat.le_refl _
        | succ j ih =>
          by_cases e : i = j + 1
          · rw [e]; exact Nat.le_refl _
          · have h1 := ih (by omega)
            rw [hout j, List.length_append]
            omega
      refine lc2_range (fun i H3 => Same H H3 ∧ ∃ us, H3 D = some (.lst us) ∧ DpAll K (wo D H3) us ((out i).map tI)) ⟨Same.new hD, [], upd_same, .nil⟩ ?_ ?_
      · rintro i H3 hi ⟨sm, us, eD, hus⟩
        refine ⟨rfl, ?_⟩
        have hc : ((c + 1 : Nat) : Int) - 1 = ((c : Nat) : Int) := by omega
        refine ⟨_, rfl, _, rfl, n, 1 + (i : Int), rfl, rfl, _, rfl, ((c + 1 : Nat) : Int), 1, rfl, rfl, ?_⟩
        refine ⟨n - (1 + i), c, by rw [← hc]; rfl, by omega, by omega, by omega, fun H4 p rs s4 hp e4 hrs => ?_⟩
        have hpD : p ≠ D := (ne_of_none eD hp).symm
        refine ⟨p, rfl, ⟨rs, SqL.of e4⟩, ?_⟩
        have hrs0 : DpAll K (wo p H4) rs ((M05.every c (n - (1 + i))).map tI) := hrs
        have lrs : rs.length = (M05.every c (n - (1 + i))).length := by
          rw [My.DpAll.len hrs0, List.length_map]
        refine in_list (xs := rs) (fun j H5 => Same H H5 ∧ H5 p = some (.lst rs) ∧ DpAll K (wo D H5) rs ((M05.every c (n - (1 + i))).map tI) ∧ ∃ us, H5 D = some (.lst us) ∧ DpAll K (wo D H5) us ((out i ++ ((M05.every c (n - (1 + i))).take j).map fun r => (1 + (i : Int)) :: r).map tI)) ?_ ?_ ?_ ?_
        · refine ⟨sm.trans s4, e4, ?_, us, s4 _ _ eD, ?_⟩
          · exact tI_wo (s4 _ _ eD) (DpAll.same wo_le hrs0)
          · rw [List.take_zero, List.map_nil, List.append_nil]
            exact DpAll.same (Same.wo s4) hus
        · rintro j H5 _ ⟨_, h, _⟩
          exact SqL.of h
        · rintro j x H5 ex ⟨sm5, ep, hr5, us5, eD5, hus5⟩
          obtain ⟨r, b, er, rfl, qb⟩ := tI_get hr5 ex
          have qb5 := My.Same.sqt wo_le qb
          refine ⟨rfl, ?_⟩
          have hlen5 : us5.length < sizeLine := by
            rw [My.DpAll.len hus5, List.length_map]
            have h1 : ((M05.every c (n - (1 + (i : Int)))).take j).length ≤ (M05.every c (n - (1 + (i : Int)))).length := by
              rw [List.length_take]
              exact Nat.min_le_right _ _
            have h2 := hmono (i + 1) _ hi
            rw [hout i, List.length_append, List.length_map] at h2
            have h3 : (out (n - (c : Int)).toNat).length ≤ 1000 := hlen
            rw [List.length_append, List.length_map]
            exact smallT (by omega)
          have hstep : ∀ (y : V) (H6 : Hp), Same H5 H6 → Dp K (wo D H6) y (tI ((1 + (i : Int)) :: r)) → (∃ acc, H6 D = some (.lst acc) ∧ acc.length < sizeLine ∧
              (Same H (upd H6 D (.lst (acc ++ [y]))) ∧ upd H6 D (.lst (acc ++ [y])) p = some (.lst rs) ∧ DpAll K (wo D (upd H6 D (.lst (acc ++ [y])))) rs ((M05.every c (n - (1 + i))).map tI) ∧
                ∃ us, upd H6 D (.lst (acc ++ [y])) D = some (.lst us) ∧ DpAll K (wo D (upd H6 D (.lst (acc ++ [y])))) us ((out i ++ ((M05.every c (n - (1 + i))).take (j + 1)).map fun r => (1 + (i : Int)) :: r).map tI))) := by
            intro y H6 s6 hy
            refine ⟨us5, s6 _ _ eD5, hlen5, (My.Same.updD (sm5.trans s6) hD), ?_, ?_, ?_⟩
            · rw [upd_ne hpD]
              exact s6 _ _ ep
            · exact DpAll.same Same.put (DpAll.same (Same.wo s6) hr5)
            · obtain ⟨g1, g2⟩ := push (DpAll.same (Same.wo s6) hus5) hy
              refine ⟨_, g1, ?_⟩
              have el : (out i ++ ((M05.every c (n - (1 + (i : Int)))).take (j + 1)).map fun r => (1 + (i : Int)) :: r).map tI = (out i ++ ((M05.every c (n - (1 + (i : Int)))).take j).map fun r => (1 + (i : Int)) :: r).map tI ++ [tI ((1 + (i : Int)) :: r)] := by
                rw [List.take_add_one, er]
                simp
              rw [el]
              exact g2
          refine ⟨_, rfl, by show 1 ≤ sizeLine; decide, fun t ht => ?_⟩
          refine ⟨_, rfl, ?_⟩
          have sT := My.Same.new (o := HO.tup [V.int (1 + (i : Int))]) ht
          have htD : t ≠ D := (ne_of_none eD5 ht).symm
          refine ⟨t, b, _, r.map V.int, rfl, rfl, SqT.of upd_same, My.Same.sqt sT qb5, ?_, fun z => absurd z (by simp), fun _ z => ?_, fun _ z p2 hp2 => ?_⟩
          · rw [List.length_map, M05.every_len c _ r (List.mem_of_getElem? er)]
            exact small (by show 1 + c ≤ 100000; omega)
          · refine hstep _ _ sT ?_
            have hr0 : r = [] := List.map_eq_nil_iff.mp z
            subst hr0
            exact .tup (SqT.of ((wo_ne htD).trans upd_same)) (DpAll.ints [_])
          · refine hstep _ _ (sT.trans (Same.new hp2)) ?_
            have hp2D : p2 ≠ D := (ne_of_none (sT _ _ eD5) hp2).symm
            exact .tup (SqT.of ((wo_ne hp2D).trans upd_same)) (DpAll.ints (_ :: r))
        · rintro H5 ⟨sm5, ep, hr5, us5, eD5, hus5⟩
          refine ⟨sm5, us5, eD5, ?_⟩
          rw [hout i]
          rw [lrs, List.take_length] at hus5
          exact hus5
      · rintro H3 ⟨sm, us, eD, hus⟩
        exact q H3 D us sm hD eD hus
theorem every_all (S : At K mg "every_sizes" s_every_sizes ["n", "k"]) (B : Bn mg) : ∀ m, m ≤ 13 → Own P w K mg base "every_sizes" m ["n", "k"] (spList K (fun n k => M05.every k n) m)
  | 0, _ => S.own fun f fd F => ⟨fun vs H Q E ⟨_, _, _, _, _, h, _⟩ => absurd h (Nat.not_lt_zero _), fun _ _ _ _ _ _ _ _ _ _ _ _ _ ⟨_, _, _, _, _, h, _⟩ => absurd h (Nat.not_lt_zero _)⟩
  | m + 1, h => S.own fun f fd F => ok_every F B (every_all S B m (by omega)) (by omega)
end
end K05

set_option Elab.async false
set_option linter.all false
set_option maxRecDepth 100000
set_option maxHeartbeats 4000000
namespace K05
open PySem PySem.Spec PyProof.Rows L2 My
def spSizes (K : PySem.W.Frag) : Sp := fun vs H Q _ => ∃ (n : Int) (k : Nat), vs = [.int n, .int k] ∧ 1 ≤ n ∧ n ≤ 12 ∧ 1 ≤ k ∧ k ≤ 12 ∧
  ∀ H' p us, Same H H' → H p = none → H' p = some (.lst us) → DpAll K (wo p H') us ((M05.sizesL n k).map tI) → Q (.ref p) H'
section
variable {P : Program} {w : World} {K : PySem.W.Frag} {mg : Str → Option Value} {base : Heap}
theorem ok_sizes {f : Addr} {fd : FuncData} {m : Nat} (F : Fun K "_law_sizes" "_law_sizes" s_law_sizes f fd) (B : Bn mg) : FnOk P w K mg base CX0 (m + 1) f fd ["n", "k"] (spSizes K) := by
  refine F.ok sc_law_sizes (fun vs H Q E h => ?_) (fun cdv A outer s H vs Q E hr h => ?_)
  · obtain ⟨n, k, rfl, _⟩ := h
    rfl
  · obtain ⟨n, k, rfl, n0, n1, k0, k1, q⟩ := h
    refine ⟨_, (pss_cons (ps_set (i := 2) sc_law_sizes.nd rfl (.inl rfl) (pe_lst (pa_cons (pe_tup pa_nil) pa_nil)))
      (pss_cons (ps_for PassesOwn.never rfl (pi_range1 (by rfl) B.range (pa_cons (pv 1) pa_nil)) (pg_name (i := 3) sc_law_sizes.nd rfl (.inl rfl)) (pss_cons (ps_set (i := 4) sc_law_sizes.nd rfl (.inl rfl) (pe_lst pa_nil))
      (pss_cons (ps_for PassesOwn.never rfl (pi_listK K (pv 2)) (pg_name (i := 5) sc_law_sizes.nd rfl (.inr rfl)) (pss_one (ps_set (i := 4) sc_law_sizes.nd rfl (.inl rfl) (pe_op op_cat (pv 4) (pe_lc (own := [("size", 6)]) (by rfl) sc_law_sizes.nd (pi_range2 (by rfl) B.range (pa_cons pe_int (pa_cons (pe_op op_add (pe_op op_sub (pe_op op_sub (pv 0) (pe_callB (sumT K rfl) (by rfl) B.sum (by decide +kernel) (pa_cons (pv 5) pa_nil))) (pe_op op_sub (pe_op op_sub (pv 1) pe_int) (pv 3))) pe_int) pa_nil))) (blkOk_by (own := [("size", 6)]) (N := ["n", "k", "found", "turn", "later", "sizes", "size"]) (sc := (defScope s_law_sizes)) (by decide +kernel)) (fun _ _ _ _ _ => (pg_name (i := 6) sc_law_sizes.nd rfl (.inl rfl))) (fun _ _ _ _ _ => pts_nil) (fun _ _ _ _ _ => (pe_op (catA K) (pv 5) (pe_tup (pa_cons (pv 6) pa_nil)))))))))
      (pss_one (ps_set (i := 2) sc_law_sizes.nd rfl (.inl rfl) (pv 4))))))
      (pss_one (ps_ret (pe_lc (own := [("sizes", 5)]) (by rfl) sc_law_sizes.nd (pi_listK K (pv 2)) (blkOk_by (own := [("sizes", 5)]) (N := ["n", "k", "found", "turn", "later", "sizes", "size"]) (sc := (defScope s_law_sizes)) (by decide +kernel)) (fun _ _ _ _ _ => (pg_name (i := 5) sc_law_sizes.nd rfl (.inl rfl))) (fun _ _ _ _ _ => (pts_one (pt_cmpR op_eq (pe_callB (sumT K rfl) (by rfl) B.sum (by decide +kernel) (pa_cons (pv 5) pa_nil)) (pv 0) (nomark _)))) (fun _ _ _ _ _ => (pv 5))))))), ?_⟩
    -- found = [()]
    refine ⟨by show 0 ≤ sizeLine; decide, fun t ht => ?_⟩
    refine ⟨by show 1 ≤ sizeLine; decide, fun fa hfa => ?_⟩
    have hft : fa ≠ t := fun z => by
      rw [z, upd_same] at hfa
      cases hfa
    have s0 := (My.Same.new (o := HO.tup []) ht).trans (My.Same.new (o := HO.lst [V.ref t]) hfa)
    -- for turn in range(k)
    refine ⟨_, rfl, _, rfl, by omega, by omega, ?_⟩
    refine for_range (fun i σ H1 => ∃ (fa : Addr) (us : List V) (x3 x4 x5 : Option V), σ = [some (.int n), some (.int k), some (.ref fa), x3, x4, x5, none] ∧ Same H H1 ∧ H1 fa = some (.lst us) ∧ DpAll K H1 us ((M05.foundL n k i).map tI)) ?_ ?_ ?_
    · refine ⟨fa, _, none, none, none, rfl, s0, upd_same, ?_⟩
      exact .cons (.tup (SqT.of ((upd_ne hft.symm).trans upd_same)) .nil) .nil
    · rintro i σ H1 hi ⟨fa, us, x3, x4, x5, rfl, sm, ef, hus⟩
      have hik : i < k := by omega
      have hfl : (M05.foundL n k (i + 1)).length ≤ 10000 := by
        have := M05.found_all (n - 1).toNat (by omega) (k - 1) (by omega) (i + 1) (by omega)
        rwa [show (((n - 1).toNat : Nat) : Int) + 1 = n by omega, show k - 1 + 1 = k by omega] at this
      let st : List Int → List (List Int) := fun s => (List.range (n - s.sum - ((k : Int) - 1 - i)).toNat).map fun (j : Nat) => s ++ [1 + (j : Int)]
      have hst : M05.foundL n k (i + 1) = (M05.foundL n k i).flatMap st := rfl
      -- later = []
      refine ⟨by show 0 ≤ sizeLine; decide, fun la hla => ?_⟩
      -- for sizes in found
      refine ⟨_, rfl, fa, rfl, ⟨us, SqL.of ((My.Same.new hla) _ _ ef)⟩, ?_⟩
      refine for_list (xs := us) (fun j σ H2 => ∃ (la : Addr) (vs : List V) (x5 : Option V), σ = [some (.int n), some (.int k), some (.ref fa), some (.int (0 + (i : Int))), some (.ref la), x5, none] ∧ Same H1 H2 ∧ H2 la = some (.lst vs) ∧ DpAll K H2 vs ((((M05.foundL n k i).take j).flatMap st).map tI)) ?_ ?_ ?_ ?_
      · exact ⟨la, [], x5, rfl, My.Same.new hla, upd_same, .nil⟩
      · rintro j σ H2 _ ⟨_, _, _, _, s2, _, _⟩
        exact SqL.of (s2 _ _ ef)
      · rintro j x σ H2 ex ⟨la, vs, x5, rfl, s2, el, hvs⟩
        obtain ⟨s, a, es, rfl, qa⟩ := tI_get (DpAll.same s2 hus) ex
        have hsum := M05.found_sum n k i (by omega) (by omega) s (List.mem_of_getElem? es)
        have hslen := M05.found_len n k i s (List.mem_of_getElem? es)
        have hvl : vs.length + (st s).length ≤ 10000 := by
          rw [My.DpAll.len hvs, List.length_map]
          have h1 : (((M05.foundL n k i).take (j + 1)).flatMap st).length ≤ ((M05.foundL n k i).flatMap st).length := by
            conv => rhs; rw [← List.take_append_drop (j + 1) (M05.foundL n k i), List.flatMap_append, List.length_append]
            omega
          rw [← hst, List.take_add_one, es, List.flatMap_append, List.length_append] at h1
          simp only [Option.toList, List.flatMap_cons, List.flatMap_nil, List.append_nil] at h1
          omega
        have hcnt : (n - s.sum - ((k : Int) - 1 - (0 + (i : Int))) + 1 - 1).toNat = (n - s.sum - ((k : Int) - 1 - i)).toNat := by omega
        -- later + [..]
        refine ⟨_, rfl, _, rfl, _, rfl, a, s, rfl, qa, n, s.sum, rfl, rfl, _, rfl, (k : Int), 1, rfl, rfl, _, rfl, _, _, rfl, rfl, _, _, rfl, rfl, _, 1, rfl, rfl, 1, _, rfl, ⟨by decide, by decide, by omega, by omega⟩, ?_⟩
        intro D hD
        dsimp only
        rw [hcnt]
        refine lc_range (fun t H3 => Same H2 H3 ∧ ∃ ws, H3 D = some (.lst ws) ∧ DpAll K (wo D H3) ws (((List.range t).map fun (j : Nat) => s ++ [1 + (j : Int)]).map tI)) ⟨My.Same.new hD, [], upd_same, .nil⟩ ?_ ?_
        · rintro t H3 ht3 ⟨s3, ws, eD, hws⟩
          refine ⟨rfl, ?_⟩
          have hlen : ws.length < sizeLine := by
            rw [My.DpAll.len hws, List.length_map, List.length_map, List.length_range]
            exact smallT (by omega)
          have hstep : ∀ (y : V) (H6 : Hp), Same H3 H6 → Dp K (wo D H6) y (tI (s ++ [1 + (t : Int)])) → (∃ acc, H6 D = some (.lst acc) ∧ acc.length < sizeLine ∧
              (Same H2 (upd H6 D (.lst (acc ++ [y]))) ∧ ∃ ws, upd H6 D (.lst (acc ++ [y])) D = some (.lst ws) ∧ DpAll K (wo D (upd H6 D (.lst (acc ++ [y])))) ws (((List.range (t + 1)).map fun (j : Nat) => s ++ [1 + (j : Int)]).map tI))) := by
            intro y H6 s6 hy
            obtain ⟨g1, g2⟩ := push (DpAll.same (Same.wo s6) hws) hy
            refine ⟨ws, s6 _ _ eD, hlen, My.Same.updD (s3.trans s6) hD, _, g1, ?_⟩
            rw [List.range_succ, List.map_append, List.map_append]
            exact g2
          refine ⟨_, rfl, _, rfl, by show 1 ≤ sizeLine; decide, fun p hp => ?_⟩
          have sT := My.Same.new (o := HO.tup [V.int (1 + (t : Int))]) hp
          have hpD : p ≠ D := (ne_of_none eD hp).symm
          refine ⟨a, p, s.map V.int, _, rfl, rfl, My.Same.sqt (s3.trans sT) qa, SqT.of upd_same, ?_, fun z => ?_, fun _ z => absurd z (by simp), fun _ z p2 hp2 => ?_⟩
          · rw [List.length_map, hslen]
            exact small (by show i + 1 ≤ 100000; omega)
          · refine hstep _ _ sT ?_
            have hs0 : s = [] := List.map_eq_nil_iff.mp z
            rw [hs0]
            exact .tup (SqT.of ((wo_ne hpD).trans upd_same)) (DpAll.ints [_])
          · refine hstep _ _ (sT.trans (Same.new hp2)) ?_
            have hp2D : p2 ≠ D := (ne_of_none (sT _ _ eD) hp2).symm
            refine .tup (SqT.of ((wo_ne hp2D).trans upd_same)) ?_
            rw [List.map_append]
            exact DpAll.append (DpAll.ints s) (DpAll.ints [_])
        · rintro H3 ⟨s3, ws, eD, hws⟩
          have lws : ws.length = (st s).length := by
            rw [My.DpAll.len hws, List.length_map]
          refine ⟨la, D, vs, ws, rfl, rfl, s3 _ _ el, eD, small (by omega), fun p hp => ?_⟩
          refine ⟨p, _, _, rfl, s2.trans (s3.trans (Same.new hp)), upd_same, ?_⟩
          rw [List.take_add_one, es, List.flatMap_append, List.map_append]
          refine DpAll.append (DpAll.same (s3.trans (Same.new hp)) hvs) ?_
          simp only [Option.toList, List.flatMap_cons, List.flatMap_nil, List.append_nil]
          exact DpAll.same (wo_le.trans (Same.new hp)) hws
      · rintro σ H2 ⟨la, vs, x5, rfl, s2, el, hvs⟩
        refine ⟨_, rfl, la, vs, _, _, _, rfl, sm.trans s2, el, ?_⟩
        rw [My.DpAll.len hus, List.length_map, List.take_length] at hvs
        exact hvs
    · rintro σ H1 ⟨fa, us, x3, x4, x5, rfl, sm, ef, hus⟩
      rw [Int.toNat_natCast] at hus
      have hfl : (M05.foundL n k k).length ≤ 10000 := by
        have := M05.found_all (n - 1).toNat (by omega) (k - 1) (by omega) k (by omega)
        rwa [show (((n - 1).toNat : Nat) : Int) + 1 = n by omega, show k - 1 + 1 = k by omega] at this
      -- return [sizes for sizes in found if sum(sizes) == n]
      refine ⟨_, rfl, fa, rfl, ⟨us, SqL.of ef⟩, ?_⟩
      intro D hD
      refine lc_list (xs := us) (fun j H3 => Same H1 H3 ∧ ∃ ws, H3 D = some (.lst ws) ∧ DpAll K (wo D H3) ws ((((M05.foundL n k k).take j).filter fun s => decide (s.sum = n)).map tI)) ⟨My.Same.new hD, [], upd_same, .nil⟩ ?_ ?_ ?_
      · rintro j H3 _ ⟨s3, _⟩
        exact SqL.of (s3 _ _ ef)
      · rintro j x H3 ex ⟨s3, ws, eD, hws⟩
        obtain ⟨s, a, es, rfl, qa⟩ := tI_get (DpAll.same s3 hus) ex
        have hnext : ((M05.foundL n k k).take (j + 1)).filter (fun s => decide (s.sum = n)) = ((M05.foundL n k k).take j).filter (fun s => decide (s.sum = n)) ++ if s.sum = n then [s] else [] := by
          rw [List.take_add_one, es, List.filter_append]
          congr 1
          show [s].filter _ = _
          rw [List.filter_cons]
          by_cases e : s.sum = n
          · rw [decide_eq_true e, if_pos e]
            rfl
          · rw [decide_eq_false e, if_neg e]
            rfl
        refine ⟨rfl, ?_⟩
        refine ⟨_, rfl, a, s, rfl, qa, _, rfl, rfl, _, rfl, ite2 (fun e => ?_) (fun e => ?_)⟩
        · have hs : s.sum = n := V.int.inj (dT e)
          have hlen : ws.length < sizeLine := by
            rw [My.DpAll.len hws, List.length_map]
            have h1 := List.length_filter_le (fun s => decide (s.sum = n)) ((M05.foundL n k k).take j)
            have h2 : ((M05.foundL n k k).take j).length ≤ (M05.foundL n k k).length := by
              rw [List.length_take]
              exact Nat.min_le_right _ _
            exact smallT (by omega)
          obtain ⟨g1, g2⟩ := push hws (Dp.ofTI (sqt_wo qa eD))
          refine ⟨_, rfl, ws, eD, hlen, My.Same.updD s3 hD, _, g1, ?_⟩
          rw [hnext, if_pos hs, List.map_append]
          exact g2
        · have hs : ¬ s.sum = n := fun z => e (decide_eq_true (congrArg V.int z))
          refine ⟨s3, ws, eD, ?_⟩
          rw [hnext, if_neg hs, List.append_nil]
          exact hws
      · rintro H3 ⟨s3, ws, eD, hws⟩
        refine q H3 D ws (sm.trans s3) (sm.free hD) eD ?_
        rw [My.DpAll.len hus, List.length_map, List.take_length] at hws
        exact hws
end
end K05

set_option Elab.async false
set_option linter.all false
set_option maxRecDepth 100000
set_option maxHeartbeats 4000000
namespace K05
open PySem PySem.Spec PyProof.Rows L2 My
abbrev s_law : Stmt := topS 8
theorem sc_law : FnScope ["script", "pen", "some", "n", "k", "ways", "turn", "due", "told"] ["script"] (defScope s_law) := ⟨rfl, rfl, rfl, by decide +kernel, rfl, by decide +kernel, by decide +kernel⟩
def spLaw (K : PySem.W.Frag) : Sp := fun vs H Q _ => ∃ (a : Addr) (ns : List Int), vs = [.ref a] ∧ SqL K H a (ns.map V.int) ∧ ns.length ≤ 63 ∧ ∀ H', Q (.bl true) H'
theorem fit_rows (L : List (List Int)) (hL : L.length ≤ 1000) (h : ∀ s ∈ L, s.length ≤ 1000) : Fit 4 (.list (L.map tI)) := by
  refine ⟨by rw [List.length_map]; omega, fun e he => ?_⟩
  obtain ⟨s, hs, rfl⟩ := List.mem_map.mp he
  refine ⟨by rw [List.length_map]; have := h s hs; omega, fun e he => ?_⟩
  obtain ⟨i, _, rfl⟩ := List.mem_map.mp he
  trivial
section
variable {P : Program} {w : World} {K : PySem.W.Frag} {mg : Str → Option Value} {base : Heap}
theorem ok_law {f : Addr} {fd : FuncData} {m : Nat} (F : Fun K "law" "law" s_law f fd) (B : Bn mg) (D_law_open : Own P w K mg base "_law_open" m ["script"] (spOpen K)) (D_law_take : Own P w K mg base "_law_take" m ["pen", "amount"] spTake)
    (D_law_same : Own P w K mg base "_law_same" m ["found", "due"] (spSame K 4)) (D_law_sizes : Own P w K mg base "_law_sizes" m ["n", "k"] (spSizes K)) (D_every_sizes : Own P w K mg base "every_sizes" m ["n", "k"] (spList K (fun n k => M05.every k n) 13)) :
    FnOk P w K mg base CX0 (m + 1) f fd ["script"] (spLaw K) := by
  refine F.ok sc_law (fun vs H Q E h => ?_) (fun cdv A outer s H vs Q E hr h => ?_)
  · obtain ⟨n, k, rfl, _⟩ := h
    rfl
  · obtain ⟨a, ns, rfl, hS, hlen, q⟩ := h
    refine ⟨_, (pss_cons (ps_set (i := 1) sc_law.nd rfl (.inl rfl) (pe_own D_law_open hr (by rfl) (pa_cons (pv 0) pa_nil)))
      (pss_cons (ps_set (i := 2) sc_law.nd rfl (.inl rfl) (pe_lst (pa_cons (pe_tup (pa_cons (pe_op op_add pe_int (pe_own D_law_take hr (by rfl) (pa_cons (pv 1) (pa_cons pe_int pa_nil)))) (pa_cons (pe_op op_add pe_int (pe_own D_law_take hr (by rfl) (pa_cons (pv 1) (pa_cons pe_int pa_nil)))) pa_nil))) (pa_cons (pe_tup (pa_cons (pe_op op_add pe_int (pe_own D_law_take hr (by rfl) (pa_cons (pv 1) (pa_cons pe_int pa_nil)))) (pa_cons (pe_op op_add pe_int (pe_own D_law_take hr (by rfl) (pa_cons (pv 1) (pa_cons pe_int pa_nil)))) pa_nil))) pa_nil))))
      (pss_cons (ps_for PassesOwn.never rfl (pi_listK K (pe_op op_cat (pv 2) (pe_lst (pa_cons (pe_tup (pa_cons pe_int (pa_cons pe_int pa_nil))) (pa_cons (pe_tup (pa_cons (pe_op op_add pe_int (pe_own D_law_take hr (by rfl) (pa_cons (pv 1) (pa_cons pe_int pa_nil)))) (pa_cons (pe_op op_add pe_int (pe_own D_law_take hr (by rfl) (pa_cons (pv 1) (pa_cons pe_int pa_nil)))) pa_nil))) pa_nil))))) (pg_tupK K 2 (by rfl) (pgs_cons (pg_name (i := 3) sc_law.nd rfl (.inl rfl)) (pgs_cons (pg_name (i := 4) sc_law.nd rfl (.inl rfl)) pgs_nil))) (pss_cons (ps_par (i := 7) (j := 8) (by rfl) sc_law.nd rfl rfl (by decide) rfl rfl (pa_cons (pe_own D_law_sizes hr (by rfl) (pa_cons (pv 3) (pa_cons (pv 4) pa_nil))) (pa_cons (pe_own D_every_sizes hr (by rfl) (pa_cons (pv 3) (pa_cons (pv 4) pa_nil))) pa_nil)) (by rfl))
      (pss_cons (ps_if (pt_not (pt_val (pe_own D_law_same hr (by rfl) (pa_cons (pv 8) (pa_cons (pv 7) pa_nil))))) (pss_one (ps_ret pe_bl)) pss_nil)
      (pss_cons (ps_set (i := 5) sc_law.nd rfl (.inl rfl) (pe_callTy call_int1 (by rfl) B.int_ (by decide +kernel) (pa_cons (pe_cmpR op_le (pv 4) (pv 3) (nomark _)) pa_nil)))
      (pss_cons (ps_for PassesOwn.never rfl (pi_range1 (by rfl) B.range (pa_cons (pe_op op_sub (pv 4) pe_int) pa_nil)) (pg_name (i := 6) sc_law.nd rfl (.inl rfl)) (pss_one (ps_set (i := 5) sc_law.nd rfl (.inl rfl) (pe_op op_fdiv (pe_op op_mul (pv 5) (pe_op op_sub (pe_op op_sub (pv 3) pe_int) (pv 6))) (pe_op op_add (pv 6) pe_int)))))
      (pss_cons (ps_if (pt_cmpR op_ne (pe_callB (lenQ K) (by rfl) B.len (by decide +kernel) (pa_cons (pv 7) pa_nil)) (pv 5) (nomark _)) (pss_one (ps_ret pe_bl)) pss_nil)
      (pss_cons (ps_expr (pe_bmK K PySem.F.plainAttrs_list PySem.F.slot_list_append PySem.F.type_list_append mt_append (pv 8) (pa_cons pe_non pa_nil)))
      (pss_one (ps_if (pt_not (pt_val (pe_own D_law_same hr (by rfl) (pa_cons (pe_own D_every_sizes hr (by rfl) (pa_cons (pv 3) (pa_cons (pv 4) pa_nil))) (pa_cons (pv 7) pa_nil))))) (pss_one (ps_ret pe_bl)) pss_nil)))))))))
      (pss_one (ps_ret pe_bl))))), ?_⟩
    refine ⟨_, rfl, a, ns, rfl, hS, hlen, fun H1 p s1 hp pen => ?_⟩
    -- the pairs
    refine ⟨_, rfl, p, 12, 0, rfl, pen, by decide, by decide, by decide, fun r1 H2 r10 r11 pen2 w2 => ⟨1, r1, rfl, rfl, ?_⟩⟩
    refine ⟨_, rfl, p, 3, 1, rfl, pen2, by decide, by decide, by decide, fun r2 H3 r20 r21 pen3 w3 => ⟨1, r2, rfl, rfl, ?_⟩⟩
    refine ⟨by show 2 ≤ sizeLine; decide, fun t1 ht1 => ?_⟩
    obtain ⟨o3, e3⟩ : ∃ o, H3 p = some o := by
      obtain ⟨c, cs, k, l, h, _⟩ := pen3
      exact ⟨_, h⟩
    have d1 : Dp K (wo p (upd H3 t1 (.tup [.int (1 + r1), .int (1 + r2)]))) (.ref t1) (tI [1 + r1, 1 + r2]) := tup_wo e3 ht1 (DpAll.ints [_, _])
    have pen4 := Pen.same (My.Same.new (o := HO.tup [.int (1 + r1), .int (1 + r2)]) ht1) pen3
    generalize upd H3 t1 (.tup [.int (1 + r1), .int (1 + r2)]) = H4 at d1 pen4 ⊢
    refine ⟨_, rfl, p, 7, 2, rfl, pen4, by decide, by decide, by decide, fun r3 H5 r30 r31 pen5 w5 => ⟨1, r3, rfl, rfl, ?_⟩⟩
    refine ⟨_, rfl, p, 12, 3, rfl, pen5, by decide, by decide, by decide, fun r4 H6 r40 r41 pen6 w6 => ⟨1, r4, rfl, rfl, ?_⟩⟩
    refine ⟨by show 2 ≤ sizeLine; decide, fun t2 ht2 => ?_⟩
    obtain ⟨o6, e6⟩ : ∃ o, H6 p = some o := by
      obtain ⟨c, cs, k, l, h, _⟩ := pen6
      exact ⟨_, h⟩
    have d2 : Dp K (wo p (upd H6 t2 (.tup [.int (1 + r3), .int (1 + r4)]))) (.ref t2) (tI [1 + r3, 1 + r4]) := tup_wo e6 ht2 (DpAll.ints [_, _])
    have s7 := My.Same.new (o := HO.tup [.int (1 + r3), .int (1 + r4)]) ht2
    have d1 := Dp.same (w5.trans (w6.trans (My.Same.wo s7))) d1
    have pen7 := Pen.same s7 pen6
    generalize upd H6 t2 (.tup [.int (1 + r3), .int (1 + r4)]) = H7 at d1 d2 pen7 s7 ⊢
    refine ⟨by show 2 ≤ sizeLine; decide, fun sa hsa => ?_⟩
    have s8 := My.Same.new (o := HO.lst [.ref t1, .ref t2]) hsa
    have esa : upd H7 sa (.lst [.ref t1, .ref t2]) sa = some (.lst [.ref t1, .ref t2]) := upd_same
    have hsp : sa ≠ p := by
      obtain ⟨c, cs, k, l, h, _⟩ := pen7
      exact (ne_of_none h hsa).symm
    have d1 := Dp.same (My.Same.wo s8) d1
    have d2 := Dp.same (My.Same.wo s8) d2
    have pen8 := Pen.same s8 pen7
    generalize upd H7 sa (.lst [.ref t1, .ref t2]) = H8 at d1 d2 pen8 s8 esa ⊢
    -- some + [(12, 12), (8 + .., 4 + ..)]
    refine ⟨_, rfl, by show 2 ≤ sizeLine; decide, fun t3 ht3 => ?_⟩
    obtain ⟨o8, e8⟩ : ∃ o, H8 p = some o := by
      obtain ⟨c, cs, k, l, h, _⟩ := pen8
      exact ⟨_, h⟩
    have d3 : Dp K (wo p (upd H8 t3 (.tup [.int 12, .int 12]))) (.ref t3) (tI [12, 12]) := tup_wo e8 ht3 (DpAll.ints [_, _])
    have s9 := My.Same.new (o := HO.tup [.int 12, .int 12]) ht3
    have d1 := Dp.same (My.Same.wo s9) d1
    have d2 := Dp.same (My.Same.wo s9) d2
    have pen9 := Pen.same s9 pen8
    have esa9 := s9 _ _ esa
    generalize upd H8 t3 (.tup [.int 12, .int 12]) = H9 at d1 d2 d3 pen9 s9 esa9 ⊢
    refine ⟨_, rfl, p, 5, 4, rfl, pen9, by decide, by decide, by decide, fun r5 H10 r50 r51 pen10 w10 => ⟨8, r5, rfl, rfl, ?_⟩⟩
    refine ⟨_, rfl, p, 5, 5, rfl, pen10, by decide, by decide, by decide, fun r6 H11 r60 r61 pen11 w11 => ⟨4, r6, rfl, rfl, ?_⟩⟩
    refine ⟨by show 2 ≤ sizeLine; decide, fun t4 ht4 => ?_⟩
    obtain ⟨o11, e11⟩ : ∃ o, H11 p = some o := by
      obtain ⟨c, cs, k, l, h, _⟩ := pen11
      exact ⟨_, h⟩
    have d4 : Dp K (wo p (upd H11 t4 (.tup [.int (8 + r5), .int (4 + r6)]))) (.ref t4) (tI [8 + r5, 4 + r6]) := tup_wo e11 ht4 (DpAll.ints [_, _])
    have s12 := My.Same.new (o := HO.tup [.int (8 + r5), .int (4 + r6)]) ht4
    have w12 := w10.trans (w11.trans (My.Same.wo s12))
    have d1 := Dp.same w12 d1
    have d2 := Dp.same w12 d2
    have d3 := Dp.same w12 d3
    have esa12 : upd H11 t4 (.tup [.int (8 + r5), .int (4 + r6)]) sa = some (.lst [.ref t1, .ref t2]) := by
      have h := w12 sa _ ((wo_ne hsp).trans esa9)
      exact (wo_some h).2
    have all : DpAll K (upd H11 t4 (.tup [.int (8 + r5), .int (4 + r6)])) [.ref t1, .ref t2, .ref t3, .ref t4] ([[1 + r1, 1 + r2], [1 + r3, 1 + r4], [12, 12], [8 + r5, 4 + r6]].map tI) :=
      .cons (Dp.same wo_le d1) (.cons (Dp.same wo_le d2) (.cons (Dp.same wo_le d3) (.cons (Dp.same wo_le d4) .nil)))
    generalize upd H11 t4 (.tup [.int (8 + r5), .int (4 + r6)]) = H12 at all esa12 ⊢
    refine ⟨by show 2 ≤ sizeLine; decide, fun l4 hl4 => ?_⟩
    refine ⟨sa, l4, _, _, rfl, rfl, (My.Same.new hl4) _ _ esa12, upd_same, by show 4 ≤ sizeLine; decide, fun la hla => ?_⟩
    have all := DpAll.same ((My.Same.new (o := HO.lst [V.ref t3, V.ref t4]) hl4).trans (My.Same.new (o := HO.lst ([V.ref t1, V.ref t2] ++ [V.ref t3, V.ref t4])) hla)) all
    have ela : upd (upd H12 l4 (.lst [V.ref t3, V.ref t4])) la (.lst ([V.ref t1, V.ref t2] ++ [V.ref t3, V.ref t4])) la = some (.lst [V.ref t1, V.ref t2, V.ref t3, V.ref t4]) := upd_same
    have hb : ∀ s ∈ [[1 + r1, 1 + r2], [1 + r3, 1 + r4], [(12 : Int), 12], [8 + r5, 4 + r6]], ∃ n k : Nat, s = [(n : Int) + 1, (k : Int) + 1] ∧ n < 12 ∧ k < 12 := by
      have one : ∀ x y : Int, 1 ≤ x → x ≤ 12 → 1 ≤ y → y ≤ 12 → ∃ n k : Nat, [x, y] = [(n : Int) + 1, (k : Int) + 1] ∧ n < 12 ∧ k < 12 := fun x y h1 h2 h3 h4 =>
        ⟨(x - 1).toNat, (y - 1).toNat, by rw [show ((x - 1).toNat : Int) + 1 = x by omega, show ((y - 1).toNat : Int) + 1 = y by omega], by omega, by omega⟩
      intro s hs
      simp only [List.mem_cons, List.not_mem_nil, or_false] at hs
      rcases hs with e | e | e | e <;> subst e <;> refine one _ _ ?_ ?_ ?_ ?_ <;> omega
    generalize upd (upd H12 l4 (.lst [V.ref t3, V.ref t4])) la (.lst ([V.ref t1, V.ref t2] ++ [V.ref t3, V.ref t4])) = H13 at all ela ⊢
    clear d1 d2 d3 d4 pen4 pen5 pen6 pen7 pen8 pen9 pen10 pen11 pen pen2 pen3
    refine ⟨la, rfl, ⟨_, SqL.of ela⟩, ?_⟩
    refine for_list (xs := [V.ref t1, V.ref t2, V.ref t3, V.ref t4]) (fun i σ H' => ∃ x3 x4 x5 x6 x7 x8, σ = [some (.ref a), some (.ref p), some (.ref sa), x3, x4, x5, x6, x7, x8] ∧ Same H13 H') ?_ ?_ ?_ ?_
    · exact ⟨none, none, none, none, none, none, rfl, Same.refl _⟩
    · rintro i σ H' _ ⟨_, _, _, _, _, _, _, sm⟩
      exact SqL.of (sm _ _ ela)
    · rintro i x σ H' ex ⟨x3, x4, x5, x6, x7, x8, rfl, sm⟩
      obtain ⟨s, b, es, rfl, qb⟩ := tI_get (DpAll.same sm all) ex
      obtain ⟨n, k, rfl, hn, hk⟩ := hb s (List.mem_of_getElem? es)
      have hrows : ∀ r ∈ M05.every (k + 1) ((n : Int) + 1), r.length ≤ 1000 := fun r hr => by
        rw [M05.every_len _ _ r hr]
        omega
      obtain ⟨hways, hle⟩ := M05.ways_all n hn k hk
      have hfit := fit_rows _ hle hrows
      -- for n, k in ..
      refine ⟨b, _, rfl, qb, rfl, _, _, rfl, _, _, rfl, rfl, ?_⟩
      -- due, told
      refine ⟨_, rfl, _, rfl, (n : Int) + 1, k + 1, rfl, by omega, by omega, by omega, by omega, fun H14 dp us s14 ndp edp hdue => ?_⟩
      refine ⟨_, rfl, _, rfl, (n : Int) + 1, k + 1, rfl, by omega, by omega, by omega, fun H15 tp vs s15 ntp etp htold => ?_⟩
      rw [← M05.sizes_eq] at hdue
      refine ⟨_, _, rfl, ?_⟩
      -- if not _law_same(told, due)
      have hdp : tp ≠ dp := (ne_of_none edp ntp).symm
      have dtold : Dp K H15 (.ref tp) (.list ((M05.every (k + 1) ((n : Int) + 1)).map tI)) := .lst (SqL.of etp) (DpAll.same wo_le htold)
      have ddue : Dp K H15 (.ref dp) (.list ((M05.every (k + 1) ((n : Int) + 1)).map tI)) := .lst (SqL.of (s15 _ _ edp)) (DpAll.same (wo_le.trans s15) hdue)
      refine ⟨_, rfl, _, rfl, _, _, _, rfl, dtold, ddue, hfit, fun H16 s16 => ⟨true, rfl, ?_⟩⟩
      refine iteF ?_
      -- ways
      refine ⟨_, rfl, _, rfl, _, _, rfl, rfl, .inr ⟨_, rfl, ?_⟩⟩
      refine ⟨_, rfl, _, 1, rfl, rfl, _, rfl, by omega, by omega, ?_⟩
      refine for_range (fun i σ H' => ∃ x6, σ = [some (.ref a), some (.ref p), some (.ref sa), some (.int ((n : Int) + 1)), some (.int ((k : Int) + 1)), some (.int (M05.waysL ((n : Int) + 1) (k + 1) i)), x6, some (.ref dp), some (.ref tp)] ∧ H' = H16) ?_ ?_ ?_
      · have hw0 : M05.waysL ((n : Int) + 1) (k + 1) 0 = if decide ((k : Int) + 1 ≤ (n : Int) + 1) = true then 1 else 0 := by
          rw [M05.waysL]
          by_cases e : (k : Int) + 1 ≤ (n : Int) + 1
          · rw [decide_eq_true e, if_pos rfl, if_pos (by omega)]
          · rw [decide_eq_false e, if_neg (by omega)]
            rfl
        rw [hw0]
        exact ⟨x6, rfl, rfl⟩
      · rintro i σ H' hi ⟨x6, rfl, rfl⟩
        refine ⟨_, rfl, _, rfl, _, 1, rfl, rfl, _, rfl, _, _, rfl, rfl, _, _, rfl, rfl, .inr ⟨by omega, by omega⟩, _, rfl, _, 1, rfl, rfl, _, _, rfl, rfl, ⟨by omega, by omega⟩, ?_⟩
        have hw : M05.waysL ((n : Int) + 1) (k + 1) (i + 1) = M05.waysL ((n : Int) + 1) (k + 1) i * ((n : Int) + 1 - 1 - (0 + (i : Int))) / (0 + (i : Int) + 1) := by
          rw [M05.waysL, Int.zero_add]
        rw [hw]
        exact ⟨_, rfl, rfl⟩
      · rintro σ H' ⟨x6, rfl, rfl⟩
        -- if len(due) != ways
        refine ⟨_, rfl, dp, us, rfl, .inl (SqL.of (s16 _ _ (s15 _ _ edp))), _, rfl, rfl, _, rfl, ?_⟩
        refine iteNS ?_ ?_
        · rw [My.DpAll.len hdue, List.length_map, hways, show ((k : Int) + 1 - 1).toNat = k by omega]
        -- told.append(None)
        refine ⟨_, rfl, .inl ⟨rfl, _, SqL.of (s16 _ _ etp)⟩, tp, vs, .non, rfl, rfl, s16 _ _ etp, ?_, ?_⟩
        · rw [My.DpAll.len htold, List.length_map]
          show (M05.every (k + 1) ((n : Int) + 1)).length < sizeLine
          exact smallT (by omega)
        -- if not _law_same(every_sizes(n, k), due)
        refine ⟨_, rfl, _, rfl, (n : Int) + 1, k + 1, rfl, by omega, by omega, by omega, fun H17 tq ws s17 ntq etq hagain => ?_⟩
        have hdue2 : DpAll K (wo tp H') us ((M05.every (k + 1) ((n : Int) + 1)).map tI) := tI_wo (s16 _ _ etp) (DpAll.same (wo_le.trans (s15.trans s16)) hdue)
        have hdue3 : DpAll K H17 us ((M05.every (k + 1) ((n : Int) + 1)).map tI) := DpAll.same ((My.Same.put).trans (wo_le.trans s17)) hdue2
        have edp17 : H17 dp = some (.lst us) := s17 _ _ ((upd_ne hdp.symm).trans (s16 _ _ (s15 _ _ edp)))
        have dq : Dp K H17 (.ref tq) (.list ((M05.every (k + 1) ((n : Int) + 1)).map tI)) := .lst (SqL.of etq) (DpAll.same wo_le hagain)
        refine ⟨_, rfl, _, _, _, rfl, dq, .lst (SqL.of edp17) hdue3, hfit, fun H18 s18 => ⟨true, rfl, ?_⟩⟩
        refine iteF ?_
        refine ⟨_, _, _, _, _, _, rfl, ?_⟩
        exact (My.Same.updD (sm.trans (s14.trans (s15.trans s16))) ((sm.trans s14).free ntp)).trans (s17.trans s18)
    · rintro σ H' ⟨x3, x4, x5, x6, x7, x8, rfl, sm⟩
      exact q H'
end
end K05

set_option Elab.async false
set_option linter.all false
set_option maxRecDepth 100000
set_option maxHeartbeats 4000000
namespace K05
open PySem PySem.Spec PyProof.Rows L2 My
theorem all_mk {l : PySem.W.OpenLaw} {w : World} {K : PySem.W.Frag} {h : Heap} {mg : Str → Option Value} {fa : Addr} (X : K.In h) (G : h.Ns mainGlobals mg) (hfa : mg "law" = some (.ref fa))
    {f0 : Addr} {od0 an0 : Option Addr} {sl0 : Array (Option Value)} {oc0 kV0 dc0 pm0 cd0 ct0 : Value}
    (a0 : PySem.W.nsIn K mainGlobals "_law_open" = some (some (.ref f0))) (l0 : K.lookup f0 = some ⟨oc0, od0, .func (PySem.W.fnOf "_law_open" "_law_open" (defArgs s_law_open) (defBody s_law_open) (defScope s_law_open) .none kV0 dc0 pm0 an0 cd0 ct0), sl0⟩) (c0 : PySem.W.codeIn K cd0 "_law_open" = true) (k0 : PySem.W.keepIn K (.ref f0) = true)
    {f1 : Addr} {od1 an1 : Option Addr} {sl1 : Array (Option Value)} {oc1 kV1 dc1 pm1 cd1 ct1 : Value}
    (a1 : PySem.W.nsIn K mainGlobals "_law_spread" = some (some (.ref f1))) (l1 : K.lookup f1 = some ⟨oc1, od1, .func (PySem.W.fnOf "_law_spread" "_law_spread" (defArgs s_law_spread) (defBody s_law_spread) (defScope s_law_spread) .none kV1 dc1 pm1 an1 cd1 ct1), sl1⟩) (c1 : PySem.W.codeIn K cd1 "_law_spread" = true) (k1 : PySem.W.keepIn K (.ref f1) = true)
    {f2 : Addr} {od2 an2 : Option Addr} {sl2 : Array (Option Value)} {oc2 kV2 dc2 pm2 cd2 ct2 : Value}
    (a2 : PySem.W.nsIn K mainGlobals "_law_take" = some (some (.ref f2))) (l2 : K.lookup f2 = some ⟨oc2, od2, .func (PySem.W.fnOf "_law_take" "_law_take" (defArgs s_law_take) (defBody s_law_take) (defScope s_law_take) .none kV2 dc2 pm2 an2 cd2 ct2), sl2⟩) (c2 : PySem.W.codeIn K cd2 "_law_take" = true) (k2 : PySem.W.keepIn K (.ref f2) = true)
    {f3 : Addr} {od3 an3 : Option Addr} {sl3 : Array (Option Value)} {oc3 kV3 dc3 pm3 cd3 ct3 : Value}
    (a3 : PySem.W.nsIn K mainGlobals "_law_same" = some (some (.ref f3))) (l3 : K.lookup f3 = some ⟨oc3, od3, .func (PySem.W.fnOf "_law_same" "_law_same" (defArgs s_law_same) (defBody s_law_same) (defScope s_law_same) .none kV3 dc3 pm3 an3 cd3 ct3), sl3⟩) (c3 : PySem.W.codeIn K cd3 "_law_same" = true) (k3 : PySem.W.keepIn K (.ref f3) = true)
    {f4 : Addr} {od4 an4 : Option Addr} {sl4 : Array (Option Value)} {oc4 kV4 dc4 pm4 cd4 ct4 : Value}
    (a4 : PySem.W.nsIn K mainGlobals "_law_sizes" = some (some (.ref f4))) (l4 : K.lookup f4 = some ⟨oc4, od4, .func (PySem.W.fnOf "_law_sizes" "_law_sizes" (defArgs s_law_sizes) (defBody s_law_sizes) (defScope s_law_sizes) .none kV4 dc4 pm4 an4 cd4 ct4), sl4⟩) (c4 : PySem.W.codeIn K cd4 "_law_sizes" = true) (k4 : PySem.W.keepIn K (.ref f4) = true)
    {f5 : Addr} {od5 an5 : Option Addr} {sl5 : Array (Option Value)} {oc5 kV5 dc5 pm5 cd5 ct5 : Value}
    (a5 : PySem.W.nsIn K mainGlobals "every_sizes" = some (some (.ref f5))) (l5 : K.lookup f5 = some ⟨oc5, od5, .func (PySem.W.fnOf "every_sizes" "every_sizes" (defArgs s_every_sizes) (defBody s_every_sizes) (defScope s_every_sizes) .none kV5 dc5 pm5 an5 cd5 ct5), sl5⟩) (c5 : PySem.W.codeIn K cd5 "every_sizes" = true) (k5 : PySem.W.keepIn K (.ref f5) = true)
    {f6 : Addr} {od6 an6 : Option Addr} {sl6 : Array (Option Value)} {oc6 kV6 dc6 pm6 cd6 ct6 : Value}
    (a6 : PySem.W.nsIn K mainGlobals "law" = some (some (.ref f6))) (l6 : K.lookup f6 = some ⟨oc6, od6, .func (PySem.W.fnOf "law" "law" (defArgs s_law) (defBody s_law) (defScope s_law) .none kV6 dc6 pm6 an6 cd6 ct6), sl6⟩) (c6 : PySem.W.codeIn K cd6 "law" = true) (k6 : PySem.W.keepIn K (.ref f6) = true)
    (z_len : PySem.W.nsIn K mainGlobals "len" = some none)
    (z_int : PySem.W.nsIn K mainGlobals "int" = some none)
    (z_list : PySem.W.nsIn K mainGlobals "list" = some none)
    (z_tuple : PySem.W.nsIn K mainGlobals "tuple" = some none)
    (z_bool : PySem.W.nsIn K mainGlobals "bool" = some none)
    (z_str : PySem.W.nsIn K mainGlobals "str" = some none)
    (z_range : PySem.W.nsIn K mainGlobals "range" = some none)
    (z_enumerate : PySem.W.nsIn K mainGlobals "enumerate" = some none)
    (z_zip : PySem.W.nsIn K mainGlobals "zip" = some none)
    (z_isinstance : PySem.W.nsIn K mainGlobals "isinstance" = some none)
    (z_sum : PySem.W.nsIn K mainGlobals "sum" = some none)
    (z_all : PySem.W.nsIn K mainGlobals "all" = some none)
    (z_min : PySem.W.nsIn K mainGlobals "min" = some none)
    (z_max : PySem.W.nsIn K mainGlobals "max" = some none)
    (z_repr : PySem.W.nsIn K mainGlobals "repr" = some none)
    (z_sorted : PySem.W.nsIn K mainGlobals "sorted" = some none)
    (z_set : PySem.W.nsIn K mainGlobals "set" = some none)
    : ∃ fd : FuncData, (∀ (s : Shared) (v : Value), BindsTo s fd ⟨[v], []⟩ [("script", v)]) ∧ ∀ base : Heap, K.In base → base.Ns mainGlobals mg → FnOk l.prog w K mg base CX0 14 fa fd ["script"] (spLaw K) := by
  have e := hfa.symm.trans (PySem.W.mg_of X G a6)
  cases e
  have B : Bn mg := ⟨PySem.W.mg_none_of X G z_len, PySem.W.mg_none_of X G z_int, PySem.W.mg_none_of X G z_list, PySem.W.mg_none_of X G z_tuple, PySem.W.mg_none_of X G z_bool, PySem.W.mg_none_of X G z_str, PySem.W.mg_none_of X G z_range, PySem.W.mg_none_of X G z_enumerate, PySem.W.mg_none_of X G z_zip, PySem.W.mg_none_of X G z_isinstance, PySem.W.mg_none_of X G z_sum, PySem.W.mg_none_of X G z_all, PySem.W.mg_none_of X G z_min, PySem.W.mg_none_of X G z_max, PySem.W.mg_none_of X G z_repr, PySem.W.mg_none_of X G z_sorted, PySem.W.mg_none_of X G z_set⟩
  have A_law_open : At K mg "_law_open" s_law_open ["script"] := by
    have F := fun_mk (st := s_law_open) l0 c0 k0
    exact ⟨_, _, F, PySem.W.mg_of X G a0, F.binds (ps := ["script"]) fun _ _ _ _ _ _ us hl => match us, hl with | [_], _ => rfl⟩
  have A_law_spread : At K mg "_law_spread" s_law_spread ["cell", "at"] := by
    have F := fun_mk (st := s_law_spread) l1 c1 k1
    exact ⟨_, _, F, PySem.W.mg_of X G a1, F.binds (ps := ["cell", "at"]) fun _ _ _ _ _ _ us hl => match us, hl with | [_, _], _ => rfl⟩
  have A_law_take : At K mg "_law_take" s_law_take ["pen", "amount"] := by
    have F := fun_mk (st := s_law_take) l2 c2 k2
    exact ⟨_, _, F, PySem.W.mg_of X G a2, F.binds (ps := ["pen", "amount"]) fun _ _ _ _ _ _ us hl => match us, hl with | [_, _], _ => rfl⟩
  have A_law_same : At K mg "_law_same" s_law_same ["found", "due"] := by
    have F := fun_mk (st := s_law_same) l3 c3 k3
    exact ⟨_, _, F, PySem.W.mg_of X G a3, F.binds (ps := ["found", "due"]) fun _ _ _ _ _ _ us hl => match us, hl with | [_, _], _ => rfl⟩
  have A_law_sizes : At K mg "_law_sizes" s_law_sizes ["n", "k"] := by
    have F := fun_mk (st := s_law_sizes) l4 c4 k4
    exact ⟨_, _, F, PySem.W.mg_of X G a4, F.binds (ps := ["n", "k"]) fun _ _ _ _ _ _ us hl => match us, hl with | [_, _], _ => rfl⟩
  have A_every_sizes : At K mg "every_sizes" s_every_sizes ["n", "k"] := by
    have F := fun_mk (st := s_every_sizes) l5 c5 k5
    exact ⟨_, _, F, PySem.W.mg_of X G a5, F.binds (ps := ["n", "k"]) fun _ _ _ _ _ _ us hl => match us, hl with | [_, _], _ => rfl⟩
  have F := fun_mk (st := s_law) l6 c6 k6
  refine ⟨PySem.W.fnOf "law" "law" (defArgs s_law) (defBody s_law) (defScope s_law) .none kV6 dc6 pm6 an6 cd6 ct6, fun s v => .of_eq rfl, fun base _ _ => ?_⟩
  have D_open : Own l.prog w K mg base "_law_open" 13 ["script"] (spOpen K) := A_law_open.own fun f fd F => ok_open F B
  have D_spread : Own l.prog w K mg base "_law_spread" 12 ["cell", "at"] spSpread := A_law_spread.own fun f fd F => ok_spread F B
  have D_take : Own l.prog w K mg base "_law_take" 13 ["pen", "amount"] spTake := A_law_take.own fun f fd F => ok_take F B D_spread
  have D_same : Own l.prog w K mg base "_law_same" 13 ["found", "due"] (spSame K 4) := (same_all A_law_same B 4).imp (by decide) fun _ _ _ _ h => h
  have D_sizes : Own l.prog w K mg base "_law_sizes" 13 ["n", "k"] (spSizes K) := A_law_sizes.own fun f fd F => ok_sizes F B
  have D_every := every_all (P := l.prog) (w := w) (base := base) A_every_sizes B 13 (Nat.le_refl _)
  exact ok_law F B D_open D_take D_same D_sizes D_every
end K05
open PySem PySem.W PyProof.Rows
set_option maxRecDepth 100000 in
set_option maxHeartbeats 0 in
theorem PySem.Challenge.cw_rootparts_k05_sizes_listed_holds : PySem.Challenge.rw_rootparts_k05_sizes_listed.Holds := by
  w_on; o_law; k_head; (case hw => w_witness2)
  k_fill
  refine L2.walk_of (l := PySem.Challenge.rw_rootparts_k05_sizes_listed) (n := 63) (k := 14) (x := "script") (CX := fun _ => L2.CX0) (sp := fun w => K05.spLaw _) rfl (by decide) rfl ⟨rfl, by decide, by decide⟩ (fun w h Y => PySem.W.kIn_of Y) ?F (fun _ _ a ns hl _ hS => ⟨a, ns, rfl, hS, hl, fun _ => rfl⟩) (fun _ _ _ _ _ h => h)
  case F =>
    intro w mg fa h KX G hmg
    refine' K05.all_mk KX G hmg ?a0 ?l0 ?c0 ?k0 ?a1 ?l1 ?c1 ?k1 ?a2 ?l2 ?c2 ?k2 ?a3 ?l3 ?c3 ?k3 ?a4 ?l4 ?c4 ?k4 ?a5 ?l5 ?c5 ?k5 ?a6 ?l6 ?c6 ?k6 ?z_len ?z_int ?z_list ?z_tuple ?z_bool ?z_str ?z_range ?z_enumerate ?z_zip ?z_isinstance ?z_sum ?z_all ?z_min ?z_max ?z_repr ?z_sorted ?z_set
    (case a0 => k_is)
    (case l0 => k_is)
    (case c0 => k_is)
    (case k0 => k_is)
    (case a1 => k_is)
    (case l1 => k_is)
    (case c1 => k_is)
    (case k1 => k_is)
    (case a2 => k_is)
    (case l2 => k_is)
    (case c2 => k_is)
    (case k2 => k_is)
    (case a3 => k_is)
    (case l3 => k_is)
    (case c3 => k_is)
    (case k3 => k_is)
    (case a4 => k_is)
    (case l4 => k_is)
    (case c4 => k_is)
    (case k4 => k_is)
    (case a5 => k_is)
    (case l5 => k_is)
    (case c5 => k_is)
    (case k5 => k_is)
    (case a6 => k_is)
    (case l6 => k_is)
    (case c6 => k_is)
    (case k6 => k_is)
    (case z_len => k_is)
    (case z_int => k_is)
    (case z_list => k_is)
    (case z_tuple => k_is)
    (case z_bool => k_is)
    (case z_str => k_is)
    (case z_range => k_is)
    (case z_enumerate => k_is)
    (case z_zip => k_is)
    (case z_isinstance => k_is)
    (case z_sum => k_is)
    (case z_all => k_is)
    (case z_min => k_is)
    (case z_max => k_is)
    (case z_repr => k_is)
    (case z_sorted => k_is)
    (case z_set => k_is)

