import PyProof.Rows.All
import Wide.All
import OpenK.AllK
import Wide.FinOn
import HandS.ExcInit
import HandS.Nested
import KE.KExcSuper
import HandS.Exc
import HandS.ExcField
import HandS.ExcOwn
import HandS.Base
import HandS.Call
import HandS.List
import HandS.Comp
import HandS.Ends
import HandS.Iter
import HandS.Words
import HandS.ForMost
import HandS.IsInst
import HandS.Zip
import HandS.TupAny
import HandS.Codes
import KE.KTupSum
import HandS.TupSets
import HandS.Conv
import HandS.Style
import HandS.TupMul
import PyProof.ReprRoads
import PyProof.ReprBulk
import HandS.Sort
import HandS.SortInts
import HandS.SetFor
import KE.GoesMore
import PyProof.EnumMake
import HandS.Strs
import HandS.SortOrd
import HandS.NamedTupSort
import KE.DataMinMax
import HandS.Wide
import KE.DataFind
import PyProof.SumAnyB
import HandS.TupLe
import HandS.WordsExc
import HandS.OwnEq
import HandS.TryOnly
import KE.KFmtOwn
import PyProof.FactsAll.int
import PyProof.FactsAll.NoneType
import PyProof.EqKinds
import PyProof.FactsAll.dict
import HandS.Dict
import HandS.DictTup
import HandS.Text
import HandS.RaiseMore
import PyProof.TupleCall
import HandS.TupLen
import KE.KDictDisplayH
import KE.KDictSum
import HandS.ExcValue
import HandS.DictComp
import PyProof.SumWalkG
import PyProof.WalkInts
import PySem.Challenge.RW_rootparts_k14_whole_cuts_by_all_lots
set_option Elab.async false
set_option linter.all false
set_option maxRecDepth 100000
set_option maxHeartbeats 4000000
namespace My
open PySem PySem.Spec PyProof.Rows L2 NdefX
/-! ### an exception class over ValueError whose __init__ begins with super().__init__(a text) -/
/-- what the written part says of such a class -/
structure SupC (P : Program) (K : PySem.W.Frag) (C cc cda : Addr) : Prop where
  oex : OexC K C
  cell : ∃ a b c, K.lookup cc = some ⟨a, b, .cell (some (.ref C)), c⟩
  code : ∃ a b vs c file tf, K.lookup cda = some ⟨a, b, .fields vs, c⟩ ∧ vs[2]? = some (.str file tf) ∧ ((P.main.file : Str) == file) = true
  top : (P.main.scope.names.lookup ("super" : Str)).isSome = false
  up : PySem.W.ks_superIn K C C "__init__" = some (some (.builtin "ValueError.__init__"))
  any_ : PySem.W.nsIn K cStatics "thirdparty.any" = some none
end My
set_option Elab.async false
set_option linter.all false
set_option maxRecDepth 100000
set_option maxHeartbeats 4000000
namespace My
open PySem PySem.Spec PyProof.Rows L2
/-! ### try with several clauses 'except X as n', all of one name -/
end My
set_option Elab.async false
set_option linter.all false
set_option maxRecDepth 100000
set_option maxHeartbeats 4000000
namespace My
open PySem PySem.Spec PyProof.Rows L2
/-! ### a def of the text, ready to be called -/
structure Own (P : Program) (w : World) (K : PySem.W.Frag) (mg : Str → Option Value) (base : Heap) (x : Str) (k : Nat) (ps : List Str) (sp : Sp) : Prop where
  ex : ∃ (f : Addr) (fd : FuncData), FnOk P w K mg base CX0 k f fd ps sp ∧ mg x = some (.ref f) ∧ PySem.W.keepIn K (.ref f) = true ∧ Binds K fd ps []
theorem pe_own {X : Cx} {x : Str} {k : Nat} {ps : List Str} {sp : Sp} {p pos : Pos} {e : Expr} {es : List Expr} {t : TA} (D : Own X.prog X.w X.K X.mg X.base x k ps sp) (hr : Room k X.A) (hg : Gl X x) (ha : PA X (e :: es) t)
    (hdb : (x == ("__debug__" : Str)) = false := by decide) (he : starEach (e :: es) X.env = (false, eval e X.env) :: starEach es X.env := by rfl) (hpl : (backTo pos (starEach es X.env)).any (·.1) = false := by rfl) :
    PE X (.Call (.Name x p) (e :: es) [] pos) (tCall sp [] E0 t) := by
  obtain ⟨f, fd, F, m, kp, b⟩ := D.ex
  exact pe_call F hr hg m kp b .nil pass0 ha hdb he hpl
theorem Own.imp {P : Program} {w : World} {K : PySem.W.Frag} {mg : Str → Option Value} {base : Heap} {x : Str} {j k : Nat} {ps : List Str} {sp sp' : Sp} (D : Own P w K mg base x j ps sp) (h : j ≤ k)
    (hi : ∀ vs H Q E, sp' vs H Q E → sp vs H Q E) : Own P w K mg base x k ps sp' := by
  obtain ⟨f, fd, F, m, kp, b⟩ := D.ex
  exact ⟨f, fd, (F.mono h).imp hi, m, kp, b⟩
/-- where a def of the text stands -/
structure At (K : PySem.W.Frag) (mg : Str → Option Value) (x : Str) (st : Stmt) (ps : List Str) : Prop where
  ex : ∃ (f : Addr) (fd : FuncData), Fun K x x st f fd ∧ mg x = some (.ref f) ∧ Binds K fd ps []
theorem At.own {P : Program} {w : World} {K : PySem.W.Frag} {mg : Str → Option Value} {base : Heap} {x : Str} {st : Stmt} {ps : List Str} {k : Nat} {sp : Sp} (D : At K mg x st ps)
    (h : ∀ f fd, Fun K x x st f fd → FnOk P w K mg base CX0 k f fd ps sp) : Own P w K mg base x k ps sp := by
  obtain ⟨f, fd, F, m, b⟩ := D.ex
  exact ⟨f, fd, h f fd F, m, F.kp, b⟩
/-! ### the built-ins that no name of the text hides -/
structure Bn (mg : Str → Option Value) : Prop where
  len : mg "len" = none
  int_ : mg "int" = none
  list_ : mg "list" = none
  tuple_ : mg "tuple" = none
  bool_ : mg "bool" = none
  str_ : mg "str" = none
  range : mg "range" = none
  enumerate : mg "enumerate" = none
  zip : mg "zip" = none
  isinstance : mg "isinstance" = none
  sum : mg "sum" = none
  all : mg "all" = none
  min : mg "min" = none
  max : mg "max" = none
  repr : mg "repr" = none
  sorted : mg "sorted" = none
  set : mg "set" = none
/-! ### a heap without one address -/
def wo (p : Addr) (H : Hp) : Hp := fun b => if b = p then none else H b
theorem wo_ne {p b : Addr} {H : Hp} (h : b ≠ p) : wo p H b = H b := by unfold wo; rw [if_neg h]
theorem wo_some {p b : Addr} {H : Hp} {o : HO} (h : wo p H b = some o) : b ≠ p ∧ H b = some o := by
  unfold wo at h
  by_cases e : b = p
  · rw [if_pos e] at h; cases h
  · rw [if_neg e] at h; exact ⟨e, h⟩
theorem wo_le {p : Addr} {H : Hp} : Same (wo p H) H := fun b o h => (wo_some h).2
theorem Same.wo {p : Addr} {H H' : Hp} (s : Same H H') : Same (wo p H) (wo p H') := fun b o h => by
  obtain ⟨n, e⟩ := wo_some h
  rw [wo_ne n]
  exact s _ _ e
theorem Same.new {H : Hp} {p : Addr} {o : HO} (h : H p = none) : Same H (upd H p o) := fun b x e => by
  rw [upd_ne (ne_of_none e h)]
  exact e
theorem Same.sqt {K : PySem.W.Frag} {H H' : Hp} {a : Addr} {xs : List V} (e : Same H H') (h : SqT K H a xs) : SqT K H' a xs := by
  rcases h with (h | ⟨o, h⟩) | h
  · exact .inl (.inl (e _ _ h))
  · exact .inl (.inr ⟨o, e _ _ h⟩)
  · exact .inr h
/-- the object at p is changed -/
theorem Same.put {p : Addr} {H : Hp} {o : HO} : Same (My.wo p H) (My.wo p (upd H p o)) := fun b x h => by
  obtain ⟨n, e⟩ := wo_some h
  rw [wo_ne n, upd_ne n]
  exact e
/-! ### the pen -/
def Pen (H : Hp) (p c : Addr) (n : Nat) : Prop := ∃ (cs : List Int) (k left : Int), H p = some (.lst [.ref c, .int k, .int left]) ∧ H c = some (.lst (cs.map V.int)) ∧ cs.length ≤ 12 ∧ 0 ≤ k ∧ k ≤ n ∧ 0 ≤ left
section
variable {H H' : Hp} {p c q : Addr} {n m : Nat}
theorem Pen.same (s : Same H H') (h : Pen H p c n) : Pen H' p c n := by
  obtain ⟨cs, k, left, h1, h2, h3⟩ := h
  exact ⟨cs, k, left, s _ _ h1, s _ _ h2, h3⟩
theorem Pen.mono (h : Pen H p c n) (l : n ≤ m) : Pen H p c m := by
  obtain ⟨cs, k, left, h1, h2, h3, h4, h5, h6⟩ := h
  exact ⟨cs, k, left, h1, h2, h3, h4, by omega, h6⟩
theorem Pen.at (h : Pen H p c n) : ∃ o, H p = some o := by
  obtain ⟨cs, k, l, e, _⟩ := h
  exact ⟨_, e⟩
theorem Pen.ne (h : Pen H p c n) (hq : H q = none) : q ≠ p ∧ q ≠ c := by
  obtain ⟨cs, k, l, e, e2, _⟩ := h
  exact ⟨(ne_of_none e hq).symm, (ne_of_none e2 hq).symm⟩
/-- the pen stays where another object is changed -/
theorem Pen.upd {o : HO} (h : Pen H p c n) (hq : q ≠ p ∧ q ≠ c) : Pen (L2.upd H q o) p c n := by
  obtain ⟨cs, k, l, h1, h2, h3⟩ := h
  exact ⟨cs, k, l, (upd_ne hq.1.symm).trans h1, (upd_ne hq.2.symm).trans h2, h3⟩
end
theorem mul_bd {a b A B : Int} (h1 : 0 ≤ a) (h2 : a ≤ A) (h3 : 0 ≤ b) (h4 : b ≤ B) : 0 ≤ a * b ∧ a * b ≤ A * B :=
  ⟨Int.mul_nonneg h1 h3, Int.mul_le_mul h2 h4 h3 (Int.le_trans h1 h2)⟩
theorem small {n : Nat} (h : n ≤ 100000) : n ≤ sizeLine := Nat.le_trans h (by decide)
theorem smallT {n : Nat} (h : n ≤ 100000) : n < sizeLine := Nat.lt_of_le_of_lt h (by decide)
theorem dT {p : Prop} [Decidable p] (h : decide p = true) : p := of_decide_eq_true h
theorem at_get {xs : List V} {i : Int} (h0 : 0 ≤ i) (h1 : i < xs.length) : ∃ v, xs[i.toNat]? = some v ∧ atI xs i = some v := by
  refine ⟨xs[i.toNat]'(by omega), List.getElem?_eq_getElem (by omega), ?_⟩
  have e : ((i.toNat : Nat) : Int) = i := by omega
  have h := atI_nat (xs := xs) (j := i.toNat) (List.getElem?_eq_getElem (by omega))
  rw [e] at h
  exact h
theorem at_int {cs : List Int} {i : Int} (h0 : 0 ≤ i) (h1 : i < cs.length) : ∃ z, cs[i.toNat]? = some z ∧ atI (cs.map V.int) i = some (.int z) := by
  obtain ⟨v, e, h⟩ := at_get (xs := cs.map V.int) h0 (by rw [List.length_map]; exact h1)
  rw [List.getElem?_map] at e
  cases q : cs[i.toNat]? with
  | none => rw [q] at e; cases e
  | some z =>
    rw [q] at e
    cases e
    exact ⟨z, rfl, h⟩
/-! ### promises of the law's own helpers -/
def spOpen (K : PySem.W.Frag) : Sp := fun vs H Q _ => ∃ (a : Addr) (ns : List Int), vs = [.ref a] ∧ SqL K H a (ns.map V.int) ∧ ns.length ≤ 63 ∧
  ∀ H' p c, Same H H' → H p = none → Pen H' p c 0 → Q (.ref p) H'
def spSpread : Sp := fun vs H Q _ => ∃ (cell k : Int), vs = [.int cell, .int k] ∧ 0 ≤ k ∧ k ≤ 1000000 ∧ ∀ H' r, Same H H' → 0 ≤ r → Q (.int r) H'
def spTake : Sp := fun vs H Q _ => ∃ (p c : Addr) (m : Int) (n : Nat), vs = [.ref p, .int m] ∧ Pen H p c n ∧ n ≤ 1000000 ∧ 1 ≤ m ∧ m ≤ 1000000 ∧
  ∀ r H', 0 ≤ r → r < m → Pen H' p c (n + 1) → Same (wo p H) (wo p H') → Q (.int r) H'
/-- the thirteen primes -/
def primes : List Int := [2147483629, 2147483587, 2147483579, 2147483563, 2147483549, 2147483543, 2147483497, 2147483489, 2147483477, 2147483423, 2147483399, 2147483353, 2147483323]
theorem prime_at {i : Int} (h0 : 0 ≤ i) (h1 : i < 13) : ∃ q : Int, atI (primes.map V.int) i = some (.int q) ∧ 0 < q ∧ q < 2147483648 := by
  have c : i = 0 ∨ i = 1 ∨ i = 2 ∨ i = 3 ∨ i = 4 ∨ i = 5 ∨ i = 6 ∨ i = 7 ∨ i = 8 ∨ i = 9 ∨ i = 10 ∨ i = 11 ∨ i = 12 := by omega
  rcases c with e | e | e | e | e | e | e | e | e | e | e | e | e <;> subst e <;> exact ⟨_, rfl, by decide, by decide⟩
/-! ### loops over enumerate, by a word -/
theorem for_enumL {K : PySem.W.Frag} {a : Addr} {xs : List V} {g : TG} {tb : TS} {D : Ends} {σ : L2.St} {H : Hp} (Pv : Nat → L2.St → Hp → Prop) (h0 : Pv 0 σ H) (hq : ∀ i σ H, i ≤ xs.length → Pv i σ H → SqL K H a xs)
    (hs : ∀ (i : Nat) (x : V) (T : Addr) (σ : L2.St) (H : Hp), xs[i]? = some x → Pv i σ H → H T = none → g (.ref T) σ (upd H T (.tup [.int (i : Nat), x])) fun σ2 H2 => tb { D with nx := Pv (i + 1), ct := Pv (i + 1), bk := D.nx } σ2 H2) (hd : ∀ σ H, Pv xs.length σ H → D.nx σ H) :
    ∃ W : Nat → Nat → L2.St → Hp → Prop, (∃ m, W 0 m σ H) ∧ ∀ i m σ H, W i m σ H →
      ((Ite K a).stop i H ∧ D.nx σ H) ∨ ((Ite K a).go i H ∧ ∃ N : L2.St → Hp → Prop, (∀ σ' H', N σ' H' → ∃ m', m' < m ∧ W (i + 1) m' σ' H') ∧ ∀ v H', (Ite K a).yld i H v H' → g v σ H' fun σ2 H2 => tb { D with nx := N, ct := N, bk := D.nx } σ2 H2) := by
  refine ⟨fun i m σ H => m = xs.length - i ∧ i ≤ xs.length ∧ Pv i σ H, ⟨xs.length, rfl, Nat.zero_le _, h0⟩, ?_⟩
  rintro i m σ H ⟨rfl, hi, p⟩
  have qx := hq i σ H hi p
  by_cases hlt : i < xs.length
  · have hx : xs[i]? = some xs[i] := List.getElem?_eq_getElem hlt
    refine .inr ⟨⟨xs, _, qx, hx⟩, Pv (i + 1), fun σ' H' p' => ⟨xs.length - (i + 1), by omega, rfl, hlt, p'⟩, fun v H' y => ?_⟩
    obtain ⟨T, x', rfl, hT, rfl, f1⟩ := y
    exact hs i x' T σ H (f1 xs qx) p hT
  · have e : i = xs.length := by omega
    subst e
    exact .inl ⟨⟨xs, qx, Nat.le_refl _⟩, hd σ H p⟩
/-- an item changed by place -/
theorem set_mapI {cs : List Int} {j : Nat} {z : Int} : (cs.map V.int).set j (.int z) = (cs.set j z).map V.int := by
  rw [List.map_set]
/-! ### sum of a tuple -/
end My
set_option Elab.async false
set_option linter.all false
set_option maxRecDepth 100000
set_option maxHeartbeats 4000000
namespace My
open PySem PySem.Spec PyProof.Rows L2
/-! ### comprehensions over zip and enumerate, by a word -/
/-! ### kinds -/
inductive Kd where
  | non | bl | int | str | lst | tup | dct
  deriving DecidableEq
def Kd.nm : Kd → String
  | .non => "NoneType" | .bl => "bool" | .int => "int" | .str => "str" | .lst => "list" | .tup => "tuple" | .dct => "dict"
/-- is a value of kind a an instance of the class of kind b -/
def Kd.is : Kd → Kd → Bool
  | .bl, .int => true
  | .non, .non => true | .bl, .bl => true | .int, .int => true | .str, .str => true | .lst, .lst => true | .tup, .tup => true | .dct, .dct => true
  | _, _ => false
def kd : PyData → Kd
  | .none => .non | .bool _ => .bl | .int _ => .int | .str _ => .str | .list _ => .lst | .tuple _ => .tup | .dict _ => .dct
section
variable {K : PySem.W.Frag} {H H' : Hp} {v : V}
abbrev Knd (K : PySem.W.Frag) (H : Hp) (v : V) (k : Kd) : Prop := TyX K H v (.type k.nm)
theorem kNon : Knd K H .non .non := .base .non
theorem kBl (b : Bool) : Knd K H (.bl b) .bl := .base (.bl b)
theorem kInt (i : Int) : Knd K H (.int i) .int := .base (.int i)
theorem kStr (x : Str) : Knd K H (.str x) .str := .base (.str x)
theorem sql_knd {a : Addr} {xs : List V} (h : SqL K H a xs) : Knd K H (.ref a) .lst := by
  rcases h with (h | ⟨o, h⟩) | ⟨o, its, n, hk, hc, _⟩
  · exact .base (.lst h)
  · exact .base (.frz h)
  · exact .kList hk hc
theorem sqt_knd {a : Addr} {xs : List V} (h : SqT K H a xs) : Knd K H (.ref a) .tup := by
  rcases h with (h | ⟨o, h⟩) | ⟨o, its, n, hk, hc, _⟩
  · exact .base (.tup h)
  · exact .fTuple h
  · exact .kTuple hk hc
mutual
theorem Dp.same (s : Same H H') : ∀ {d : PyData} {v : V}, Dp K H v d → Dp K H' v d
  | _, _, .non => .non
  | _, _, .bl b => .bl b
  | _, _, .int i => .int i
  | _, _, .str x => .str x
  | _, _, .lst h a => .lst (s.seq h) (DpAll.same s a)
  | _, _, .tup h a => .tup (My.Same.sqt s h) (DpAll.same s a)
theorem DpAll.same (s : Same H H') : ∀ {ds : List PyData} {vs : List V}, DpAll K H vs ds → DpAll K H' vs ds
  | _, _, .nil => .nil
  | _, _, .cons h t => .cons (Dp.same s h) (DpAll.same s t)
end
theorem DpAll.len : ∀ {ds : List PyData} {vs : List V}, DpAll K H vs ds → vs.length = ds.length
  | _, _, .nil => rfl
  | _, _, .cons _ t => congrArg (· + 1) (DpAll.len t)
theorem DpAll.get : ∀ {ds : List PyData} {vs : List V} {i : Nat} {v : V}, DpAll K H vs ds → vs[i]? = some v → ∃ d, ds[i]? = some d ∧ Dp K H v d
  | _, _, i, v, .nil, e => by simp at e
  | d :: ds, _, 0, v, .cons h t, e => by
    simp at e
    subst e
    exact ⟨d, rfl, h⟩
  | _ :: ds, _, i + 1, v, .cons h t, e => by
    obtain ⟨d, e1, e2⟩ := DpAll.get (i := i) t (by simpa using e)
    exact ⟨d, by simpa using e1, e2⟩
theorem DpAll.mk : ∀ {ds : List PyData} {vs : List V}, vs.length = ds.length → (∀ (i : Nat) (v : V) (d : PyData), vs[i]? = some v → ds[i]? = some d → Dp K H v d) → DpAll K H vs ds
  | [], [], _, _ => DpAll.nil
  | d :: ds, v :: vs, l, h => .cons (h 0 v d rfl rfl) (DpAll.mk (by simpa using l) fun i v d e1 e2 => h (i + 1) v d (by simpa using e1) (by simpa using e2))
  | [], _ :: _, l, _ => by simp at l
  | _ :: _, [], l, _ => by simp at l
theorem DpAll.ints (ns : List Int) : DpAll K H (ns.map V.int) (ns.map PyData.int) := by
  induction ns with
  | nil => exact .nil
  | cons n ns ih => exact .cons (.int n) ih
end
/-- data of fewer than n levels, no dicts -/
def Fit : Nat → PyData → Prop
  | 0, _ => False
  | n + 1, d => match d with
    | .list ds => ds.length ≤ 100000 ∧ ∀ e ∈ ds, Fit n e
    | .tuple ds => ds.length ≤ 100000 ∧ ∀ e ∈ ds, Fit n e
    | .dict _ => False
    | _ => True
theorem Fit.mono : ∀ {n m : Nat} {d : PyData}, Fit n d → n ≤ m → Fit m d
  | 0, _, _, h, _ => h.elim
  | n + 1, 0, _, _, l => by omega
  | n + 1, m + 1, d, h, l => by
    cases d with
    | list ds => exact ⟨h.1, fun e he => (h.2 e he).mono (by omega)⟩
    | tuple ds => exact ⟨h.1, fun e he => (h.2 e he).mono (by omega)⟩
    | dict _ => exact h.elim
    | _ => trivial
/-- _law_same of equal data -/
def spSame (K : PySem.W.Frag) (n : Nat) : Sp := fun vs H Q _ => ∃ (x y : V) (d : PyData), vs = [x, y] ∧ Dp K H x d ∧ Dp K H y d ∧ Fit n d ∧ ∀ H', Same H H' → Q (.bl true) H'
theorem iteTT {A B : Prop} {c : Bool} (e : c = true) (h : A) : if c = true then A else B := by rw [if_pos e]; exact h
theorem iteFF {A B : Prop} {c : Bool} (e : c = false) (h : B) : if c = true then A else B := by
  rw [e]
  exact iteF h
/-! ### the rules with the written part named: within a comprehension's block too -/
section
variable {X : Cx} (K : PySem.W.Frag)
def rLenQ (K : PySem.W.Frag) : List V → Hp → VK → Prop := fun xs H Q => ∃ p ys, xs = [.ref p] ∧ (SqL K H p ys ∨ SqT K H p ys) ∧ Q (.int ys.length) H
def rListOf (K : PySem.W.Frag) : List V → Hp → VK → Prop := fun xs H Q => ∃ p ys, xs = [.ref p] ∧ (SqL K H p ys ∨ SqT K H p ys) ∧ ∀ l, H l = none → Q (.ref l) (upd H l (.lst ys))
def rTupleOf (K : PySem.W.Frag) : List V → Hp → VK → Prop := fun xs H Q => ∃ p ys, xs = [.ref p] ∧ ((SqL K H p ys ∧ ∀ l, H l = none → Q (.ref l) (upd H l (.tup ys))) ∨ (SqT K H p ys ∧ Q (.ref p) H))
theorem ixL (h : X.K = K := by rfl) : IxR X (rIxL K) := by subst h; exact ix_list
theorem ixT (h : X.K = K := by rfl) : IxR X (rIxT K) := by subst h; exact ix_tup
theorem slL (h : X.K = K := by rfl) : SlR X (rSlL K) := by subst h; exact sl_list
theorem slT (h : X.K = K := by rfl) : SlR X (rSlA K) := by subst h; exact sl_tupA
theorem catA (h : X.K = K := by rfl) : OpR X (binaryOp .Add) (rCatA K) := by subst h; exact op_catA
theorem neD (hu : X.A.units + 64 < cLine) (h : X.K = K := by rfl) : OpR X (compareOp .NotEq) (rNeD K) := by subst h; exact op_neD hu
theorem inQ (h : X.K = K := by rfl) : OpR X (compareOp .In) (rIn K false) := by subst h; exact op_in_seq
theorem notInQ (h : X.K = K := by rfl) : OpR X (compareOp .NotIn) (rIn K true) := by subst h; exact op_notIn_seq
theorem lenQ (h : X.K = K := by rfl) : CallR X (.builtin "len") (rLenQ K) := by subst h; exact call_len_seq
theorem listOf (h : X.K = K := by rfl) : CallR X (.type "list") (rListOf K) := by subst h; exact call_list_of
theorem tupleOf (h : X.K = K := by rfl) : CallR X (.type "tuple") (rTupleOf K) := by subst h; exact call_tuple_of
theorem pi_listK {tg l : Expr} {tl : TE} (hl : PE X l tl) (h : X.K = K := by rfl) : PI X tg l (iList K tl) := by subst h; exact pi_list hl
theorem pi_tupK {tg l : Expr} {tl : TE} (hl : PE X l tl) (h : X.K = K := by rfl) : PI X tg l (iTup K tl) := by subst h; exact pi_tup hl
theorem pi_zipK {e e2 : Expr} {ta : TA} {p pos tpos : Pos} {elts : List Expr} {kk : Nat} (hg : Gl X "zip") (hm : X.mg "zip" = none) (ha : PA X [e, e2] ta) (h : X.K = K := by rfl)
    (hs : starEach [e, e2] X.env = (false, eval e X.env) :: starEach [e2] X.env := by rfl) (hpl : (backTo pos (starEach [e2] X.env)).any (·.1) = false := by rfl) :
    PI X (.Tuple elts kk tpos) (.Call (.Name "zip" p) [e, e2] [] pos) (RZ.iZipA K ta) := by subst h; exact RZ.pi_zipA hg hm ha hs hpl
theorem pi_enumK {e : Expr} {ta : TA} {p pos tpos : Pos} {elts : List Expr} {kk : Nat} (hg : Gl X "enumerate") (hm : X.mg "enumerate" = none) (ha : PA X [e] ta) (h : X.K = K := by rfl) (hs : starEach [e] X.env = [(false, eval e X.env)] := by rfl) :
    PI X (.Tuple elts kk tpos) (.Call (.Name "enumerate" p) [e] [] pos) (iEnum K ta) := by subst h; exact pi_enum hg hm ha hs
theorem pg_tupK (n : Nat) {es : List Expr} {k : Nat} {t : TGs} {pos : Pos} (hc : X.calm = true) (h : PGs X es t) (hK : X.K = K := by rfl)
    (hn : (assignEach es X.env).length = n := by rfl) (hst : (assignEach es X.env).findIdx? (·.1) = none := by rfl) : PG X (.Tuple es k pos) (gTup K n t) := by subst hK; exact pg_tup hc h hn hst
theorem pe_bmK {o e : Expr} {es : List Expr} {to : TE} {t : TA} {name : Str} {apos cpos : Pos} {T id : String} {r : V → List V → Hp → VK → Prop}
    (pa : PlainAttrs T) (slot : Slot T name id) (hty : typeOf (.builtin id) = pure (.type "method_descriptor")) (hm : MtR X id r) (ho : PE X o to) (ha : PA X (e :: es) t) (hK : X.K = K := by rfl)
    (hbase : attributeBase o name X.env (eval o X.env) = eval o X.env := by rfl)
    (hfew : ((backTo cpos (starEach (e :: es) X.env)).all (fun x => !x.1) && (backToKw cpos (keywordEach [] X.env)).all (fun x => x.1.isSome)
      && decide ((e :: es).length + ([] : List Keyword).length + (if ([] : List Keyword).isEmpty then 0 else 1) < 30)) = true := by rfl)
    (hline : (apos.endLine == cpos.line) = true := by rfl) (hs : starEach (e :: es) X.env = (false, eval e X.env) :: starEach es X.env := by rfl) (hplain : (backTo cpos (starEach es X.env)).any (·.1) = false := by rfl) :
    PE X (.Call (.Attribute o name apos) (e :: es) [] cpos) (tBM K T r to t) := by subst hK; exact pe_bm pa slot hty hm ho ha hbase hfew hline hs hplain
end
end My
set_option Elab.async false
set_option linter.all false
set_option maxRecDepth 100000
set_option maxHeartbeats 4000000
namespace My
open PySem PySem.Spec PyProof.Rows L2
/-! ### comprehensions with two clauses -/
theorem in_list {K : PySem.W.Frag} {a : Addr} {xs : List V} {H4 : Hp} {Qd : Hp → Prop} {T : (Hp → Prop) → V → Hp → Prop} (Pv : Nat → Hp → Prop) (h0 : Pv 0 H4) (hl : ∀ i H, i ≤ xs.length → Pv i H → SqL K H a xs)
    (hs : ∀ (i : Nat) (x : V) H, xs[i]? = some x → Pv i H → T (Pv (i + 1)) x H) (hd : ∀ H, Pv xs.length H → Qd H) :
    ∃ W : Nat → Nat → Hp → Prop, (∃ m, W 0 m H4) ∧ ∀ i m H, W i m H →
      ((Itl K a).stop i H ∧ Qd H) ∨ ((Itl K a).go i H ∧ ∃ Nx : Hp → Prop, (∀ H', Nx H' → ∃ m', m' < m ∧ W (i + 1) m' H') ∧ ∀ x H', (Itl K a).yld i H x H' → T Nx x H') := by
  refine ⟨fun i m H => m = xs.length - i ∧ i ≤ xs.length ∧ Pv i H, ⟨xs.length, by simp, Nat.zero_le _, h0⟩, ?_⟩
  rintro i m H ⟨rfl, hi, p⟩
  have q := hl i H hi p
  by_cases hlt : i < xs.length
  · refine .inr ⟨⟨xs, xs[i], q, by simp [hlt]⟩, Pv (i + 1), fun H' p' => ⟨xs.length - (i + 1), by omega, rfl, hlt, p'⟩, fun x H' y => ?_⟩
    obtain ⟨e, y⟩ := y
    subst e
    exact hs i x _ (y xs q) p
  · have e : i = xs.length := by omega
    subst e
    exact .inl ⟨⟨xs, q, Nat.le_refl _⟩, hd H p⟩
/-! ### data -/
section
variable {K : PySem.W.Frag} {H H' : Hp}
theorem DpAll.append : ∀ {ds es : List PyData} {vs us : List V}, DpAll K H vs ds → DpAll K H us es → DpAll K H (vs ++ us) (ds ++ es)
  | _, _, _, _, .nil, h => h
  | _, _, _, _, .cons h t, g => .cons h (DpAll.append t g)
theorem DpAll.snoc {ds : List PyData} {d : PyData} {vs : List V} {v : V} (h : DpAll K H vs ds) (g : Dp K H v d) : DpAll K H (vs ++ [v]) (ds ++ [d]) := DpAll.append h (.cons g .nil)
/-- an open place of a heap without D -/
theorem wo_none {D : Addr} {p : Addr} (h : H p = none) : wo D H p = none := by
  unfold wo
  by_cases e : p = D
  · rw [if_pos e]
  · rw [if_neg e]; exact h
theorem tup_new {p : Addr} {xs : List V} {ds : List PyData} (hp : H p = none) (h : DpAll K H xs ds) : Dp K (upd H p (.tup xs)) (.ref p) (.tuple ds) := .tup (SqT.of upd_same) (DpAll.same (Same.new hp) h)
theorem DpAll.int_vals : ∀ {ns : List Int} {vs : List V}, DpAll K H vs (ns.map PyData.int) → vs = ns.map V.int
  | [], _, .nil => rfl
  | n :: ns, _, .cons h t => by
    cases h
    rw [DpAll.int_vals t]
    rfl
/-- a tuple of ints as a datum -/
def tI (ns : List Int) : PyData := .tuple (ns.map PyData.int)
theorem Dp.tI {v : V} {ns : List Int} (h : Dp K H v (tI ns)) : ∃ a, v = .ref a ∧ SqT K H a (ns.map V.int) := by
  cases h with
  | tup q l =>
    rw [DpAll.int_vals l] at q
    exact ⟨_, rfl, q⟩
theorem Dp.ofTI {a : Addr} {ns : List Int} (h : SqT K H a (ns.map V.int)) : Dp K H (.ref a) (My.tI ns) := .tup h (DpAll.ints ns)
theorem sqt_wo {a D : Addr} {xs us : List V} (h : SqT K H a xs) (hD : H D = some (.lst us)) : SqT K (wo D H) a xs := by
  rcases h with (h | ⟨o, h⟩) | h
  · have hne : a ≠ D := ne_of h hD (by intro z; cases z)
    exact .inl (.inl ((wo_ne hne).trans h))
  · have hne : a ≠ D := ne_of h hD (by intro z; cases z)
    exact .inl (.inr ⟨o, (wo_ne hne).trans h⟩)
  · exact .inr h
theorem tI_wo {D : Addr} {us : List V} (hD : H D = some (.lst us)) : ∀ {L : List (List Int)} {vs : List V}, DpAll K H vs (L.map tI) → DpAll K (wo D H) vs (L.map tI)
  | [], _, .nil => .nil
  | s :: L, _, .cons h t => by
    obtain ⟨a, rfl, q⟩ := Dp.tI h
    exact .cons (Dp.ofTI (sqt_wo q hD)) (tI_wo hD t)
theorem Same.updD {D : Addr} {o : HO} (s : Same H H') (n : H D = none) : Same H (upd H' D o) := fun b x e => by
  rw [upd_ne (ne_of_none e n)]
  exact s _ _ e
theorem push {D : Addr} {us : List V} {y : V} {ds : List PyData} {d : PyData} (hus : DpAll K (wo D H) us ds) (hy : Dp K (wo D H) y d) :
    upd H D (.lst (us ++ [y])) D = some (.lst (us ++ [y])) ∧ DpAll K (wo D (upd H D (.lst (us ++ [y])))) (us ++ [y]) (ds ++ [d]) :=
  ⟨upd_same, DpAll.snoc (DpAll.same Same.put hus) (Dp.same Same.put hy)⟩
theorem DpAll.getD {ds : List PyData} {vs : List V} {i : Nat} {v : V} (h : DpAll K H vs ds) (e : vs[i]? = some v) : ∃ d, ds[i]? = some d ∧ Dp K H v d := DpAll.get h e
theorem tI_get {L : List (List Int)} {vs : List V} {i : Nat} {v : V} (h : DpAll K H vs (L.map tI)) (e : vs[i]? = some v) : ∃ s a, L[i]? = some s ∧ v = .ref a ∧ SqT K H a (s.map V.int) := by
  obtain ⟨d, e1, e2⟩ := DpAll.get h e
  rw [List.getElem?_map] at e1
  cases q : L[i]? with
  | none => rw [q] at e1; cases e1
  | some s =>
    rw [q] at e1
    cases e1
    obtain ⟨a, r, t⟩ := Dp.tI e2
    exact ⟨s, a, rfl, r, t⟩
end
section
variable {X : Cx} (K : PySem.W.Frag) (P : Program) (w : World)
theorem setOfT (hc : X.calm = true) (hu : X.A.units + 64 < cLine) (h : X.K = K := by rfl) (hP : X.prog = P := by rfl) (hw : X.w = w := by rfl) : CallR X (.type "set") (rSetOfT K P w) := by subst h hP hw; exact cr_setOfT hc hu
theorem sortedT (hc : X.calm = true) (h : X.K = K := by rfl) (hP : X.prog = P := by rfl) (hw : X.w = w := by rfl) : CallR X (.builtin "sorted") (rSortedT K P w) := by subst h hP hw; exact cr_sortedT hc
/-- a walk over a list or a tuple -/
def iSeq (K : PySem.W.Frag) (tl : TE) : TI := fun σ H R => iList K tl σ H R ∨ iTup K tl σ H R
theorem pi_seqK {tg l : Expr} {tl : TE} (hl : PE X l tl) (h : X.K = K := by rfl) : PI X tg l (iSeq K tl) := by
  subst h
  refine ⟨fun pins s σ H R I q => ?_⟩
  rcases q with q | q
  · exact (pi_list hl).run pins s σ H R I q
  · exact (pi_tup hl).run pins s σ H R I q
end
section
variable {K : PySem.W.Frag} {H H' : Hp}
theorem wo_upd {p q : Addr} {o : HO} (h : q ≠ p) : wo p (upd H q o) = upd (wo p H) q o := by
  funext b
  by_cases e : b = p
  · have hb : b ≠ q := fun z => h (z.symm.trans e)
    rw [upd_ne hb]
    show (if b = p then none else _) = (if b = p then none else _)
    rw [if_pos e, if_pos e]
  · rw [wo_ne e]
    by_cases e2 : b = q
    · subst e2
      rw [upd_same, upd_same]
    · rw [upd_ne e2, upd_ne e2, wo_ne e]
end
theorem map_erase {α β : Type} (f : α → β) : ∀ (l : List α) (i : Nat), (l.map f).eraseIdx i = (l.eraseIdx i).map f
  | [], _ => rfl
  | _ :: _, 0 => rfl
  | a :: l, i + 1 => congrArg (f a :: ·) (map_erase f l i)
theorem erase_perm {α : Type} : ∀ {l : List α} {i : Nat} {z : α}, l[i]? = some z → (z :: l.eraseIdx i).Perm l
  | [], _, _, h => by simp at h
  | a :: l, 0, z, h => by
    have e : a = z := Option.some.inj h
    subst e
    exact .refl _
  | a :: l, i + 1, z, h => (List.Perm.swap a z _).trans ((erase_perm (l := l) (i := i) h).cons a)
/-! ### promises of the draws -/
/-- 0, 1, .. k - 1 -/
def ups (k : Nat) : List Int := (List.range k).map fun (i : Nat) => (i : Int)
theorem ups_len (k : Nat) : (ups k).length = k := by unfold ups; rw [List.length_map, List.length_range]
theorem mem_ups {k : Nat} {x : Int} : x ∈ ups k ↔ 0 ≤ x ∧ x < k := by
  unfold ups
  rw [List.mem_map]
  constructor
  · rintro ⟨i, hi, rfl⟩
    have := List.mem_range.mp hi
    omega
  · rintro ⟨h0, h1⟩
    exact ⟨x.toNat, List.mem_range.mpr (by omega), by omega⟩
def spOneOf (K : PySem.W.Frag) : Sp := fun vs H Q _ => ∃ (p c : Addr) (n : Nat) (l : Addr) (xs : List V), vs = [.ref p, .ref l] ∧ Pen H p c n ∧ n ≤ 1000000 ∧ SqL K (wo p H) l xs ∧ 1 ≤ xs.length ∧ xs.length ≤ 100000 ∧
  ∀ (j : Nat) x H', xs[j]? = some x → Pen H' p c (n + 1) → Same (wo p H) (wo p H') → Q x H'
def spOrder (K : PySem.W.Frag) : Sp := fun vs H Q _ => ∃ (p c : Addr) (n k : Nat), vs = [.ref p, .int k] ∧ Pen H p c n ∧ n ≤ 900000 ∧ k ≤ 1000 ∧
  ∀ (q : Addr) (o : List Int) H', o.Perm (ups k) → Pen H' p c (n + k) → Same (wo p H) (wo p H') → wo p H q = none → SqT K (wo p H') q (o.map V.int) → Q (.ref q) H'
/-! ### webs -/
def prI (t : Int × Int) : List Int := [t.1, t.2]
def webD (n : Int) (T : List (Int × Int)) : PyData := .tuple [.int n, .tuple (T.map fun t => tI (prI t))]
def ltP (s t : Int × Int) : Prop := s.1 < t.1 ∨ (s.1 = t.1 ∧ s.2 < t.2)
def lowP (t : Int × Int) : Int × Int := (if t.2 < t.1 then t.2 else t.1, if t.2 > t.1 then t.2 else t.1)
/-- T: the pairs ps of two different places, each once, ascending, the lesser place first -/
def Canon (ps T : List (Int × Int)) : Prop := T.Pairwise ltP ∧ ∀ t, t ∈ T ↔ ∃ s ∈ ps, s.1 ≠ s.2 ∧ t = lowP s
def spWeb (K : PySem.W.Frag) : Sp := fun vs H Q _ => ∃ (n : Int) (l : Addr) (us : List V) (ps : List (Int × Int)), vs = [.int n, .ref l] ∧ (SqL K H l us ∨ SqT K H l us) ∧ DpAll K H us ((ps.map prI).map tI) ∧ ps.length < 64 ∧
  (∀ s ∈ ps, (0 ≤ s.1 ∧ s.1 < 64) ∧ 0 ≤ s.2 ∧ s.2 < 64) ∧ ∀ (q : Addr) T H', Canon ps T → Same H H' → H q = none → Dp K H' (.ref q) (webD n T) → Q (.ref q) H'
section
variable {K : PySem.W.Frag} {H H' : Hp}
theorem ks_of : ∀ {L : List (List Int)} {vs : List V}, DpAll K H vs (L.map tI) → ∃ ks : List (Addr × List Int), vs = ks.map (fun p => V.ref p.1) ∧ ks.map (·.2) = L ∧ ∀ p ∈ ks, SqT K H p.1 (p.2.map V.int)
  | [], _, .nil => ⟨[], rfl, rfl, fun _ h => nomatch h⟩
  | s :: L, _, .cons h t => by
    obtain ⟨a, rfl, q⟩ := Dp.tI h
    obtain ⟨ks, rfl, rfl, hk⟩ := ks_of t
    refine ⟨(a, s) :: ks, rfl, rfl, fun p hp => ?_⟩
    rcases List.mem_cons.mp hp with rfl | hp
    · exact q
    · exact hk p hp
theorem ks_to : ∀ {ks : List (Addr × List Int)}, (∀ p ∈ ks, SqT K H p.1 (p.2.map V.int)) → DpAll K H (ks.map fun p => V.ref p.1) ((ks.map (·.2)).map tI)
  | [], _ => .nil
  | p :: ks, h => .cons (Dp.ofTI (h p List.mem_cons_self)) (ks_to fun q hq => h q (List.mem_cons_of_mem _ hq))
/-- what sorted(set(..)) of pairs leaves -/
theorem canon_of {ps : List (Int × Int)} {ks L L' : List (Addr × List Int)} (hk : ks.map (·.2) = ((ps.filter fun s => !decide (s.1 = s.2)).map lowP).map prI) (hb : ∀ s ∈ ps, (0 ≤ s.1 ∧ s.1 < 64) ∧ 0 ≤ s.2 ∧ s.2 < 64)
    (h1 : ∀ p ∈ L, p ∈ ks) (h2 : ∀ p ∈ ks, p.2 ∈ L.map (·.2)) (pm : L'.Perm L) (nd : (L'.map (·.2)).Nodup) (pw : L'.Pairwise fun q r => TS.code 64 q.2 ≤ TS.code 64 r.2) :
    ∃ T, L'.map (·.2) = T.map prI ∧ Canon ps T := by
  have hform : ∀ q ∈ L', ∃ s ∈ ps, s.1 ≠ s.2 ∧ q.2 = prI (lowP s) := fun q hq => by
    have hm : q.2 ∈ ks.map (·.2) := List.mem_map.mpr ⟨q, h1 q (pm.mem_iff.mp hq), rfl⟩
    rw [hk] at hm
    obtain ⟨t, ht, e⟩ := List.mem_map.mp hm
    obtain ⟨s, hs, rfl⟩ := List.mem_map.mp ht
    obtain ⟨h3, h4⟩ := List.mem_filter.mp hs
    refine ⟨s, h3, fun z => ?_, e.symm⟩
    rw [decide_eq_true z] at h4
    cases h4
  let tp : List Int → Int × Int := fun l => (l.getD 0 0, l.getD 1 0)
  have hrt : ∀ t, tp (prI t) = t := fun t => rfl
  refine ⟨L'.map fun q => tp q.2, ?_, ?_, fun t => ?_⟩
  · rw [List.map_map]
    refine List.map_congr_left fun q hq => ?_
    obtain ⟨s, _, _, e⟩ := hform q hq
    show q.2 = prI (tp q.2)
    rw [e, hrt]
  · rw [List.pairwise_map]
    have pw2 := (pw.and (List.pairwise_map.mp nd))
    refine List.Pairwise.imp_of_mem (fun {q r} hq hr h => ?_) pw2
    obtain ⟨s, hs, _, e⟩ := hform q hq
    obtain ⟨s', hs', _, e'⟩ := hform r hr
    have b := hb s hs
    have b' := hb s' hs'
    have c1 : (0 ≤ (lowP s).1 ∧ (lowP s).1 < 64) ∧ 0 ≤ (lowP s).2 ∧ (lowP s).2 < 64 := by
      unfold lowP
      dsimp only
      constructor <;> split <;> omega
    have c2 : (0 ≤ (lowP s').1 ∧ (lowP s').1 < 64) ∧ 0 ≤ (lowP s').2 ∧ (lowP s').2 < 64 := by
      unfold lowP
      dsimp only
      constructor <;> split <;> omega
    rw [e, e'] at h ⊢
    rw [hrt, hrt]
    exact pair_lt h.1 h.2 c1.1 c1.2 c2.1 c2.2
  · rw [List.mem_map]
    constructor
    · rintro ⟨q, hq, rfl⟩
      obtain ⟨s, hs, hne, e⟩ := hform q hq
      exact ⟨s, hs, hne, by rw [e, hrt]⟩
    · rintro ⟨s, hs, hne, rfl⟩
      have hm : prI (lowP s) ∈ ks.map (·.2) := by
        rw [hk]
        exact List.mem_map.mpr ⟨_, List.mem_map.mpr ⟨s, List.mem_filter.mpr ⟨hs, by rw [decide_eq_false hne]; rfl⟩, rfl⟩, rfl⟩
      obtain ⟨p, hp, e⟩ := List.mem_map.mp hm
      obtain ⟨q, hq, e2⟩ := List.mem_map.mp (h2 p hp)
      exact ⟨q, pm.mem_iff.mpr hq, by rw [e2, e, hrt]⟩
end
theorem in_tup {K : PySem.W.Frag} {a : Addr} {xs : List V} {H4 : Hp} {Qd : Hp → Prop} {T : (Hp → Prop) → V → Hp → Prop} (Pv : Nat → Hp → Prop) (h0 : Pv 0 H4) (hl : ∀ i H, i ≤ xs.length → Pv i H → SqT K H a xs)
    (hs : ∀ (i : Nat) (x : V) H, xs[i]? = some x → Pv i H → T (Pv (i + 1)) x H) (hd : ∀ H, Pv xs.length H → Qd H) :
    ∃ W : Nat → Nat → Hp → Prop, (∃ m, W 0 m H4) ∧ ∀ i m H, W i m H →
      ((Itt K a).stop i H ∧ Qd H) ∨ ((Itt K a).go i H ∧ ∃ Nx : Hp → Prop, (∀ H', Nx H' → ∃ m', m' < m ∧ W (i + 1) m' H') ∧ ∀ x H', (Itt K a).yld i H x H' → T Nx x H') := by
  refine ⟨fun i m H => m = xs.length - i ∧ i ≤ xs.length ∧ Pv i H, ⟨xs.length, by simp, Nat.zero_le _, h0⟩, ?_⟩
  rintro i m H ⟨rfl, hi, p⟩
  have q := hl i H hi p
  by_cases hlt : i < xs.length
  · refine .inr ⟨⟨xs, xs[i], q, by simp [hlt]⟩, Pv (i + 1), fun H' p' => ⟨xs.length - (i + 1), by omega, rfl, hlt, p'⟩, fun x H' y => ?_⟩
    obtain ⟨e, y⟩ := y
    subst e
    exact hs i x _ (y xs q) p
  · have e : i = xs.length := by omega
    subst e
    exact .inl ⟨⟨xs, q, Nat.le_refl _⟩, hd H p⟩
/-- either walk -/
theorem in_seq {K : PySem.W.Frag} {l : Addr} {us : List V} {tl : TE} {σ : L2.St} {H : Hp} {T : Addr → (Hp → Prop) → V → Hp → Prop} {Qd : Addr → Hp → Prop} {H4 : Hp → Addr → Hp}
    (ht : ∀ R : V → Hp → Prop, R (.ref l) H → tl σ H R) (hq : SqL K H l us ∨ SqT K H l us) (Pv : Addr → Nat → Hp → Prop)
    (hsm : ∀ D i H', H D = none → Pv D i H' → Same H H') (h0 : ∀ D, H D = none → Pv D 0 (H4 H D))
    (hs : ∀ D (i : Nat) (x : V) H', H D = none → us[i]? = some x → Pv D i H' → T D (Pv D (i + 1)) x H') (hd : ∀ D H', H D = none → Pv D us.length H' → Qd D H') :
    iSeq K tl σ H fun J H1 => ∀ D, H1 D = none → ∃ W : Nat → Nat → Hp → Prop, (∃ m, W 0 m (H4 H1 D)) ∧ ∀ i m H, W i m H →
      (J.stop i H ∧ Qd D H) ∨ (J.go i H ∧ ∃ Nx : Hp → Prop, (∀ H', Nx H' → ∃ m', m' < m ∧ W (i + 1) m' H') ∧ ∀ x H', J.yld i H x H' → T D Nx x H') := by
  rcases hq with hq | hq
  · refine .inl (ht _ ⟨l, rfl, ⟨us, hq⟩, fun D hD => ?_⟩)
    exact in_list (xs := us) (T := T D) (Pv D) (h0 D hD) (fun i H' _ h => (hsm D i H' hD h).seq hq) (fun i x H' e h => hs D i x H' hD e h) fun H' h => hd D H' hD h
  · refine .inr (ht _ ⟨l, rfl, ⟨us, hq⟩, fun D hD => ?_⟩)
    exact in_tup (xs := us) (T := T D) (Pv D) (h0 D hD) (fun i H' _ h => Same.sqt (hsm D i H' hD h) hq) (fun i x H' e h => hs D i x H' hD e h) fun H' h => hd D H' hD h
/-! ### drawn webs -/
def WebOk (k : Nat) (T : List (Int × Int)) : Prop := T.Pairwise ltP ∧ ∀ t ∈ T, 0 ≤ t.1 ∧ t.1 < t.2 ∧ t.2 < k
theorem Canon.web {ps T : List (Int × Int)} {k : Nat} (h : Canon ps T) (hb : ∀ s ∈ ps, (0 ≤ s.1 ∧ s.1 < k) ∧ 0 ≤ s.2 ∧ s.2 < k) : WebOk k T := by
  refine ⟨h.1, fun t ht => ?_⟩
  obtain ⟨s, hs, hne, rfl⟩ := (h.2 t).mp ht
  have b := hb s hs
  unfold lowP
  dsimp only
  split <;> split <;> omega
def spDrawWeb (K : PySem.W.Frag) : Sp := fun vs H Q _ => ∃ (p c : Addr) (n lo hi : Nat), vs = [.ref p, .int lo, .int hi] ∧ Pen H p c n ∧ n ≤ 800000 ∧ 1 ≤ lo ∧ lo ≤ hi ∧ hi ≤ 12 ∧
  ∀ (q : Addr) (k : Nat) T H', lo ≤ k → k ≤ hi → WebOk k T → Pen H' p c (n + 200) → Same (wo p H) (wo p H') → wo p H q = none → Dp K (wo p H') (.ref q) (webD k T) → Q (.ref q) H'
section
variable {K : PySem.W.Frag} {H H' : Hp}
theorem web_wo {v : V} {n : Int} {T : List (Int × Int)} {p : Addr} {us : List V} (h : Dp K H v (webD n T)) (hp : H p = some (.lst us)) : Dp K (wo p H) v (webD n T) := by
  cases h with
  | tup q l =>
    cases l with
    | cons h1 l =>
      cases l with
      | cons h2 l =>
        cases l
        cases h1
        cases h2 with
        | tup q2 l2 =>
          refine .tup (sqt_wo q hp) (.cons (.int n) (.cons (.tup (sqt_wo q2 hp) ?_) .nil))
          have e : (T.map fun t => tI (prI t)) = (T.map prI).map tI := by rw [List.map_map]; rfl
          rw [e] at l2 ⊢
          exact tI_wo hp l2
theorem Pen.lst {p c : Addr} {n : Nat} (h : Pen H p c n) : ∃ us, H p = some (.lst us) := by
  obtain ⟨cs, k, l, e, _⟩ := h
  exact ⟨_, e⟩
theorem tYes_then {σ : L2.St} {A B : Hp → Prop} (h : A H) : tYes σ H (fun b H3 => if b = true then A H3 else B H3) := by
  show (if true = true then A H else B H)
  rw [if_pos rfl]
  exact h
/-- two draws in a new tuple -/
theorem two_takes {σ : L2.St} {Q : VK} {p c : Addr} {n k i : Nat} (h0 : σ[0]? = some (some (.ref p))) (h3 : σ[i]? = some (some (.int k))) (pen : Pen H p c n) (hn : n + 2 ≤ 1000000) (k0 : 1 ≤ k) (k1 : k ≤ 1000)
    (q : ∀ (t : Addr) (s : Int × Int) H', (0 ≤ s.1 ∧ s.1 < k) ∧ 0 ≤ s.2 ∧ s.2 < k → Pen H' p c (n + 2) → Same (wo p H) (wo p H') → wo p H t = none → SqT K (wo p H') t ((prI s).map V.int) → Q (.ref t) H') :
    tTup (tCons (tCall spTake [] E0 (tCons (tVar 0) (tCons (tVar i) tNil))) (tCons (tCall spTake [] E0 (tCons (tVar 0) (tCons (tVar i) tNil))) tNil)) σ H Q := by
  refine ⟨_, h0, _, h3, p, c, _, n, rfl, pen, by omega, by omega, by omega, fun r1 H1 r10 r11 pen1 s1 => ?_⟩
  refine ⟨_, h0, _, h3, p, c, _, n + 1, rfl, pen1, by omega, by omega, by omega, fun r2 H2 r20 r21 pen2 s2 => ?_⟩
  refine ⟨by show 2 ≤ sizeLine; decide, fun t ht => ?_⟩
  have nt := Pen.ne pen2 ht
  refine q t (r1, r2) _ ⟨⟨r10, r11⟩, r20, r21⟩ (Pen.upd pen2 nt) (s1.trans (s2.trans (Same.wo (Same.new ht)))) ((s1.trans s2).free (wo_none ht)) ?_
  exact SqT.of ((wo_ne nt.1).trans upd_same)
/-- [(draw, draw) for k in range(m)] -/
theorem draw_pairs {σ : L2.St} {D p c : Addr} {n k m a i : Nat} {Qd : Hp → Prop} (hD : H D = none) (h0 : ∀ v, ((wipe σ [a]).set a (some v))[0]? = some (some (.ref p))) (h3 : ∀ v, ((wipe σ [a]).set a (some v))[i]? = some (some (.int k)))
    (hw : ∀ v, wipe ((wipe σ [a]).set a (some v)) [a] = wipe σ [a]) (pen : Pen H p c n) (hn : n + 2 * m ≤ 900000) (hm : m ≤ 1000) (k0 : 1 ≤ k) (k1 : k ≤ 1000)
    (hq : ∀ H' us (ps : List (Int × Int)), Pen H' p c (n + 2 * m) → Same (wo p H) (wo p H') → H' D = some (.lst us) → ps.length = m → (∀ s ∈ ps, (0 ≤ s.1 ∧ s.1 < k) ∧ 0 ≤ s.2 ∧ s.2 < k) → DpAll K (wo D (wo p H')) us ((ps.map prI).map tI) → Qd H') :
    ∃ W : Nat → Nat → Hp → Prop, (∃ m, W 0 m (upd H D (.lst []))) ∧ ∀ j l H, W j l H →
      ((Itr 0 m).stop j H ∧ Qd H) ∨ ((Itr 0 m).go j H ∧ ∃ Nx : Hp → Prop, (∀ H', Nx H' → ∃ m', m' < l ∧ W (j + 1) m' H') ∧ ∀ x H', (Itr 0 m).yld j H x H' → gName a x (wipe σ [a]) H' fun σ2 H2 => wipe σ2 [a] = wipe σ [a] ∧ tYes σ2 H2 fun b H3 =>
        if b = true then tTup (tCons (tCall spTake [] E0 (tCons (tVar 0) (tCons (tVar i) tNil))) (tCons (tCall spTake [] E0 (tCons (tVar 0) (tCons (tVar i) tNil))) tNil)) σ2 H3 fun y H4 => ∃ acc, H4 D = some (.lst acc) ∧ acc.length < sizeLine ∧ Nx (upd H4 D (.lst (acc ++ [y]))) else Nx H3) := by
  have nD := Pen.ne pen hD
  refine lc_range (fun j H3 => Pen H3 p c (n + 2 * j) ∧ Same (wo p H) (wo p H3) ∧ ∃ (us : List V) (ps : List (Int × Int)), H3 D = some (.lst us) ∧ ps.length = j ∧ (∀ s ∈ ps, (0 ≤ s.1 ∧ s.1 < k) ∧ 0 ≤ s.2 ∧ s.2 < k) ∧ DpAll K (wo D (wo p H3)) us ((ps.map prI).map tI)) ?_ ?_ ?_
  · exact ⟨Pen.upd pen nD, Same.wo (Same.new hD), [], [], upd_same, rfl, (fun _ h => nomatch h), .nil⟩
  · rintro j H3 hj ⟨pen3, s3, us, ps, eD, lps, hps, hus⟩
    refine ⟨hw _, ?_⟩
    refine tYes_then (A := fun H3 => tTup _ _ H3 _) ?_
    refine two_takes (K := K) (h0 _) (h3 _) pen3 (by omega) k0 k1 fun t s H4 hs pen4 s4 nt qt => ?_
    have eD' : wo p H3 D = some (.lst us) := (wo_ne nD.1).trans eD
    have eD4 := (wo_some (s4 _ _ eD')).2
    have htD : t ≠ D := (ne_of_none eD' nt).symm
    obtain ⟨g1, g2⟩ := push (DpAll.same (Same.wo s4) hus) (Dp.ofTI (sqt_wo qt ((wo_ne nD.1).trans eD4)))
    refine ⟨us, eD4, ?_, Pen.upd pen4 nD, ?_, us ++ [.ref t], ps ++ [s], upd_same, ?_, ?_, ?_⟩
    · rw [DpAll.len hus, List.length_map, List.length_map]
      exact smallT (by omega)
    · rw [wo_upd nD.1]
      exact Same.updD (s3.trans s4) (wo_none hD)
    · rw [List.length_append, lps]
      rfl
    · intro z hz
      rcases List.mem_append.mp hz with hz | hz
      · exact hps z hz
      · rw [List.mem_singleton.mp hz]
        exact hs
    · rw [wo_upd nD.1, List.map_append, List.map_append]
      exact g2
  · rintro H3 ⟨pen3, s3, us, ps, eD, lps, hps, hus⟩
    exact hq H3 us ps pen3 s3 eD lps hps hus
end
end My
set_option Elab.async false
set_option linter.all false
set_option maxRecDepth 100000
set_option maxHeartbeats 4000000
namespace My
open PySem PySem.Spec PyProof.Rows L2
/-! ### lists of pairs of places -/
section
variable {K : PySem.W.Frag} {H H' H3 Hb : Hp} {k j i : Nat} {D t l l2 : Addr}
/-- at l a list of j pairs of places below k -/
def PL (K : PySem.W.Frag) (k : Nat) (H : Hp) (l : Addr) (j : Nat) : Prop := ∃ (us : List V) (ps : List (Int × Int)), H l = some (.lst us) ∧ ps.length = j ∧ (∀ s ∈ ps, (0 ≤ s.1 ∧ s.1 < k) ∧ 0 ≤ s.2 ∧ s.2 < k) ∧ DpAll K H us ((ps.map prI).map tI)
/-- at D such a list grows -/
def PairsAt (K : PySem.W.Frag) (k : Nat) (Hb : Hp) (D : Addr) (j : Nat) (H : Hp) : Prop := Same Hb H ∧ ∃ (us : List V) (ps : List (Int × Int)), H D = some (.lst us) ∧ ps.length = j ∧ (∀ s ∈ ps, (0 ≤ s.1 ∧ s.1 < k) ∧ 0 ≤ s.2 ∧ s.2 < k) ∧ DpAll K (wo D H) us ((ps.map prI).map tI)
theorem PL.same (s : Same H H') (h : PL K k H l j) : PL K k H' l j := by
  obtain ⟨us, ps, e, h1, h2, h3⟩ := h
  exact ⟨us, ps, s _ _ e, h1, h2, DpAll.same s h3⟩
theorem PairsAt.start (hD : Hb D = none) : PairsAt K k Hb D 0 (upd Hb D (.lst [])) := ⟨Same.new hD, [], [], upd_same, rfl, (fun _ h => nomatch h), .nil⟩
theorem PairsAt.pl (h : PairsAt K k Hb D j H) : PL K k H D j := by
  obtain ⟨_, us, ps, e, h1, h2, h3⟩ := h
  exact ⟨us, ps, e, h1, h2, DpAll.same wo_le h3⟩
theorem PairsAt.push (h : PairsAt K k Hb D j H3) (hD : Hb D = none) (ht : H3 t = none) {x y : Int} (hx : 0 ≤ x ∧ x < k) (hy : 0 ≤ y ∧ y < k) (hj : j ≤ 1000) :
    ∃ acc, upd H3 t (.tup [.int x, .int y]) D = some (.lst acc) ∧ acc.length < sizeLine ∧ PairsAt K k Hb D (j + 1) (upd (upd H3 t (.tup [.int x, .int y])) D (.lst (acc ++ [.ref t]))) := by
  obtain ⟨s3, us, ps, eD, h1, h2, hus⟩ := h
  have htD : t ≠ D := (ne_of_none eD ht).symm
  have sT := Same.new (o := HO.tup [V.int x, V.int y]) ht
  obtain ⟨g1, g2⟩ := My.push (DpAll.same (Same.wo sT) hus) (Dp.ofTI (K := K) (a := t) (ns := prI (x, y)) (SqT.of ((wo_ne htD).trans upd_same)))
  refine ⟨us, sT _ _ eD, ?_, Same.updD (s3.trans sT) hD, us ++ [.ref t], ps ++ [(x, y)], upd_same, ?_, ?_, ?_⟩
  · rw [DpAll.len hus, List.length_map, List.length_map]
    exact smallT (by omega)
  · rw [List.length_append, h1]
    rfl
  · intro z hz
    rcases List.mem_append.mp hz with hz | hz
    · exact h2 z hz
    · rw [List.mem_singleton.mp hz]
      exact ⟨hx, hy⟩
  · rw [List.map_append, List.map_append]
    exact g2
theorem PL.one {x y : Int} (ht : H t = none) (hl : upd H t (.tup [.int x, .int y]) l = none) (hx : 0 ≤ x ∧ x < k) (hy : 0 ≤ y ∧ y < k) : PL K k (upd (upd H t (.tup [.int x, .int y])) l (.lst [.ref t])) l 1 := by
  refine ⟨[.ref t], [(x, y)], upd_same, rfl, fun z hz => ?_, ?_⟩
  · rw [List.mem_singleton.mp hz]
    exact ⟨hx, hy⟩
  · exact .cons (Dp.same (Same.new hl) (Dp.ofTI (ns := prI (x, y)) (SqT.of upd_same))) .nil
/-- two lists put together -/
theorem PL.cat (h : PL K k H l j) (h2 : PL K k H l2 i) (hj : j + i ≤ 1000) : ∃ us vs, H l = some (.lst us) ∧ H l2 = some (.lst vs) ∧ us.length + vs.length ≤ sizeLine ∧ ∀ p, H p = none → PL K k (upd H p (.lst (us ++ vs))) p (j + i) := by
  obtain ⟨us, ps, e, a1, a2, a3⟩ := h
  obtain ⟨vs, qs, f, b1, b2, b3⟩ := h2
  refine ⟨us, vs, e, f, ?_, fun p hp => ⟨us ++ vs, ps ++ qs, upd_same, ?_, ?_, ?_⟩⟩
  · rw [DpAll.len a3, DpAll.len b3, List.length_map, List.length_map, List.length_map, List.length_map]
    exact small (by omega)
  · rw [List.length_append]
    omega
  · intro z hz
    rcases List.mem_append.mp hz with hz | hz
    · exact a2 z hz
    · exact b2 z hz
  · rw [List.map_append, List.map_append]
    exact DpAll.append (DpAll.same (Same.new hp) a3) (DpAll.same (Same.new hp) b3)
theorem in_two {x a b : Int} (h : inV (.int x) [.int a, .int b] = true) : x = a ∨ x = b := by
  have h2 : ((a == x) || ((b == x) || false)) = true := h
  simp at h2
  omega
theorem cutV_whole {xs : List V} {lo hi : Option Int} (h : HT.sIx xs.length 0 lo = 0 ∧ HT.sIx xs.length xs.length hi = xs.length) : cutV xs lo hi = xs := by
  unfold cutV
  rw [h.1, h.2, List.drop_zero, Nat.sub_zero]
  exact List.take_length
/-- a slice of a tuple, new or the tuple itself -/
theorem slT_any {a : Addr} {xs : List V} {lo hi : Option Int} {Q : VK} (h : SqT K H a xs) (q : ∀ (b : Addr) H', Same H H' → SqT K H' b (cutV xs lo hi) → Q (.ref b) H') : rSlA K (.ref a) lo hi H Q := by
  refine ⟨a, xs, rfl, h, fun hw => q a H (Same.refl H) ?_, fun _ p hp => q p _ (Same.new hp) (SqT.of upd_same)⟩
  rw [cutV_whole hw]
  exact h
theorem cutV_ints {o : List Int} {lo hi : Option Int} : ∃ r : List Int, cutV (o.map V.int) lo hi = r.map V.int ∧ (∀ x ∈ r, x ∈ o) ∧ r.length ≤ o.length := by
  unfold cutV
  refine ⟨(o.drop (HT.sIx (o.map V.int).length 0 lo)).take (HT.sIx (o.map V.int).length (o.map V.int).length hi - HT.sIx (o.map V.int).length 0 lo), ?_, fun x hx => List.mem_of_mem_drop (List.mem_of_mem_take hx), ?_⟩
  · rw [List.map_take, List.map_drop]
  · rw [List.length_take, List.length_drop]
    omega
/-- an item from behind or from ahead -/
theorem at_back {r : List Int} {i : Int} (h0 : -1 ≤ i) (h1 : i < r.length) (hne : 0 < r.length) : ∃ x ∈ r, atI (r.map V.int) i = some (.int x) := by
  by_cases h : 0 ≤ i
  · obtain ⟨x, e, hx⟩ := at_int h h1
    exact ⟨x, List.mem_of_getElem? e, hx⟩
  · have e : i = -1 := by omega
    subst e
    have hl : r.length - 1 < r.length := by omega
    refine ⟨r[r.length - 1], List.getElem_mem hl, ?_⟩
    have hi : ixN (r.map V.int).length (-1) = some (r.length - 1) := by
      unfold ixN
      rw [List.length_map, if_neg (by decide), if_pos (by omega)]
      congr 1
      omega
    unfold atI
    rw [hi]
    show (r.map V.int)[r.length - 1]? = _
    rw [List.getElem?_map, List.getElem?_eq_getElem hl]
    rfl
end
end My
set_option Elab.async false
set_option linter.all false
set_option maxRecDepth 100000
set_option maxHeartbeats 4000000
namespace My
open PySem PySem.Spec PyProof.Rows L2
/-! ### data with empty dicts among it -/
mutual
inductive Dq (K : PySem.W.Frag) (H : Hp) : V → PyData → Prop
  | non : Dq K H .non .none
  | bl (b : Bool) : Dq K H (.bl b) (.bool b)
  | int (i : Int) : Dq K H (.int i) (.int i)
  | str (x : Str) : Dq K H (.str x) (.str x)
  | lst {a : Addr} {xs : List V} {ds : List PyData} : SqL K H a xs → DqAll K H xs ds → Dq K H (.ref a) (.list ds)
  | tup {a : Addr} {xs : List V} {ds : List PyData} : SqT K H a xs → DqAll K H xs ds → Dq K H (.ref a) (.tuple ds)
  | dct {a : Addr} : H a = some (.dK []) → Dq K H (.ref a) (.dict [])
inductive DqAll (K : PySem.W.Frag) (H : Hp) : List V → List PyData → Prop
  | nil : DqAll K H [] []
  | cons {v : V} {vs : List V} {d : PyData} {ds : List PyData} : Dq K H v d → DqAll K H vs ds → DqAll K H (v :: vs) (d :: ds)
end
section
variable {K : PySem.W.Frag} {H H' : Hp}
mutual
theorem Dq.of : ∀ {d : PyData} {v : V}, Dp K H v d → Dq K H v d
  | _, _, .non => .non
  | _, _, .bl b => .bl b
  | _, _, .int i => .int i
  | _, _, .str x => .str x
  | _, _, .lst h a => .lst h (DqAll.of a)
  | _, _, .tup h a => .tup h (DqAll.of a)
theorem DqAll.of : ∀ {ds : List PyData} {vs : List V}, DpAll K H vs ds → DqAll K H vs ds
  | _, _, .nil => .nil
  | _, _, .cons h t => .cons (Dq.of h) (DqAll.of t)
end
mutual
theorem Dq.same (s : Same H H') : ∀ {d : PyData} {v : V}, Dq K H v d → Dq K H' v d
  | _, _, .non => .non
  | _, _, .bl b => .bl b
  | _, _, .int i => .int i
  | _, _, .str x => .str x
  | _, _, .lst h a => .lst (s.seq h) (DqAll.same s a)
  | _, _, .tup h a => .tup (Same.sqt s h) (DqAll.same s a)
  | _, _, .dct h => .dct (s _ _ h)
theorem DqAll.same (s : Same H H') : ∀ {ds : List PyData} {vs : List V}, DqAll K H vs ds → DqAll K H' vs ds
  | _, _, .nil => .nil
  | _, _, .cons h t => .cons (Dq.same s h) (DqAll.same s t)
end
theorem DqAll.len : ∀ {ds : List PyData} {vs : List V}, DqAll K H vs ds → vs.length = ds.length
  | _, _, .nil => rfl
  | _, _, .cons _ t => congrArg (· + 1) (DqAll.len t)
theorem DqAll.get : ∀ {ds : List PyData} {vs : List V} {i : Nat} {v : V}, DqAll K H vs ds → vs[i]? = some v → ∃ d, ds[i]? = some d ∧ Dq K H v d
  | _, _, i, v, .nil, e => by simp at e
  | d :: ds, _, 0, v, .cons h t, e => by
    simp at e
    subst e
    exact ⟨d, rfl, h⟩
  | _ :: ds, _, i + 1, v, .cons h t, e => by
    obtain ⟨d, e1, e2⟩ := DqAll.get (i := i) t (by simpa using e)
    exact ⟨d, by simpa using e1, e2⟩
theorem DqAll.append : ∀ {ds es : List PyData} {vs us : List V}, DqAll K H vs ds → DqAll K H us es → DqAll K H (vs ++ us) (ds ++ es)
  | _, _, _, _, .nil, h => h
  | _, _, _, _, .cons h t, g => .cons h (DqAll.append t g)
theorem Dq.knd {v : V} {d : PyData} (h : Dq K H v d) : Knd K H v (kd d) := by
  cases h with
  | non => exact kNon
  | bl b => exact kBl b
  | int i => exact kInt i
  | str x => exact kStr x
  | lst h _ => exact sql_knd h
  | tup h _ => exact sqt_knd h
  | dct h => exact .base (.dK h)
end
/-! ### what repr reads -/
section
variable {X : Cx} {pins : List (Addr × Obj)} {σ : L2.St} {H : Hp} {s : Shared}
theorem dict_empty {a : Addr} (I : Inv X pins σ H s) (h : H a = some (.dK [])) : ∃ o n, s.heap.get? a = some o ∧ o.cls = .type "dict" ∧ o.data = .dict #[] n ∧ (a == sysModules) = false := by
  obtain ⟨_, hs, vs, kv, o, es, ep, e1, e2, e3, _, e4, _⟩ := (show ObjOk X.prog X.w H s.heap a (.dK []) from I.hok a _ h)
  cases kv
  have hes : es = #[] := by
    obtain ⟨l⟩ := es
    have e4' : Pairs _ l [] := e4
    cases e4'
    rfl
  subst hes
  exact ⟨o, ep, e1, e2.1, e3, hs⟩
mutual
theorem Dq.reads (I : Inv X pins σ H s) : ∀ {d : PyData} {v : V} {u : Value}, Dq X.K H v d → RelV v u → ∃ as, Reads s.heap u d as
  | _, _, _, .non, r => by
    cases r
    exact ⟨_, .none⟩
  | _, _, _, .bl b, r => by
    cases r
    exact ⟨_, .bool b⟩
  | _, _, _, .int i, r => by
    obtain ⟨t, e⟩ := r
    subst e
    exact ⟨_, .int i t⟩
  | _, _, _, .str x, r => by
    obtain ⟨t, e⟩ := r
    subst e
    exact ⟨_, .str x t⟩
  | _, _, _, .lst h a, r => by
    cases r
    obtain ⟨its, rv, ⟨o, n, e1, e2, e3, e4⟩, _⟩ := I.list h
    obtain ⟨as, ra⟩ := DqAll.reads I a rv
    exact ⟨_, .list e1 e2 e4 (by simpa using ra)⟩
  | _, _, _, .tup h a, r => by
    cases r
    obtain ⟨its, rv, ⟨o, e1, e2, n, e4⟩, _⟩ := I.tuple h
    obtain ⟨as, ra⟩ := DqAll.reads I a rv
    exact ⟨_, .tuple e1 e2 e4 (by simpa using ra)⟩
  | _, _, _, .dct h, r => by
    cases r
    obtain ⟨o, n, e1, e2, e3, _⟩ := dict_empty I h
    exact ⟨_, .dict e1 e2 e3 .nil .nil⟩
theorem DqAll.reads (I : Inv X pins σ H s) : ∀ {ds : List PyData} {vs : List V} {us : List Value}, DqAll X.K H vs ds → Vals vs us → ∃ as, ReadsAll s.heap us ds as
  | _, _, _, .nil, r => by
    cases r
    exact ⟨_, .nil⟩
  | _, _, _, .cons h t, r => by
    cases r with
    | cons r1 r2 =>
      obtain ⟨as, h1⟩ := Dq.reads I h r1
      obtain ⟨bs, h2⟩ := DqAll.reads I t r2
      exact ⟨_, .cons h1 h2⟩
end
end
end My
set_option Elab.async false
set_option linter.all false
set_option maxRecDepth 100000
set_option maxHeartbeats 4000000
namespace My
open PySem PySem.Spec PyProof.Rows L2
/-! ### a def that is called where no repr is under way -/
structure FnG (P : Program) (w : World) (K : PySem.W.Frag) (mg : Str → Option Value) (base : Heap) (k : Nat) (f : Addr) (fd : FuncData) (ps : List Str) (sp : Sp) : Prop where
  len : ∀ vs H Q E, sp vs H Q E → vs.length = ps.length
  run : ∀ (A : Around) (outer : List Env) (s : Shared) (H : Hp) (args : Args) (us : List Value) (vs : List V) (Q : VK) (E : XK), A.guards = some [] → Room k A → Env0 P w K mg base A outer s H → BindsTo s fd args (ps.zip us) → Vals vs us → sp vs H Q E →
    codeAny (model P w) A (.call (.ref f) args) (CR CX0 outer P w H s Q E) s
theorem okG {P : Program} {w : World} {K : PySem.W.Frag} {mg : Str → Option Value} {base : Heap} {x qual : Str} {st : Stmt} {f : Addr} {fd : FuncData} {N ps : List Str} {k : Nat} {sp : Sp} (F : Fun K x qual st f fd) (S : FnScope N ps (defScope st))
    (len : ∀ vs H Q E, sp vs H Q E → vs.length = ps.length)
    (hbody : ∀ (cdv : Value) (A : Around) (outer : List Env) (s : Shared) (H : Hp) (vs : List V) (Q : VK) (E : XK), A.guards = some [] → Room k (A.deeper (envOfC qual (defScope st) s.heap.objs.size f cdv)) → sp vs H Q E →
      ∃ t, PSs (cxOf CX0 P w K mg base N qual (defScope st) f cdv A outer s H E).nox (defBody st) t ∧ t { nx := fun _ H' => Q .non H', rt := Q } (start N vs) H) : FnG P w K mg base (k + 1) f fd ps sp := by
  obtain ⟨oc, od, kV, doc, pm, an, cdv, ct, osl, rfl, lk, hcd⟩ := F.ex
  constructor
  · exact len
  intro A outer s H args us vs Q E gA room env bind vals prom
  have lenV := len _ _ _ _ prom
  have inK : K.In s.heap := env.mod.kin.keeps fun b o e => (env.bs b o e).1
  have noLim : s.heap.NoLimit := env.mod.nolimit.keeps fun b o e => (env.bs b o e).1
  refine codeAny_call_function room.depth (inK _ _ lk) rfl S.co S.gen rfl (PySem.W.codeRec_of inK hcd) (bind _ _ _ _ ?_)
  refine wpAny_newFunctionEnv_cells S.kind (fun y hy => ?_) fun e0 he s1 fresh => ?_
  · rcases S.par y.1 (List.of_mem_zip hy).1 with z | z
    · exact .inl z
    · exact .inr ⟨z, PySem.W.cellsFrom_some _ _ _ (.inl z)⟩
  subst he
  refine ⟨noLim.keeps fresh.toInCall.keep, codeAny_func ?_⟩
  obtain ⟨t, der, rd⟩ := hbody cdv A outer s H vs Q E gA (room.deeper _) prom
  have I := inv_start (CX := CX0) (E := E) S room.hd env lenV vals fresh
  refine wpAny_mono (der.nox.run [] s1 (start N vs) H _ I rd) (fun fl s' q => ?_) fun _ _ q => q
  have close : ∀ {σ' : L2.St} {H' : Hp} {v : V} {u : Value}, Inv (cxOf CX0 P w K mg base N qual (defScope st) f cdv A outer s H E) [] σ' H' s' → RelV v u → Q v H' → CE outer P w H s Q u s' :=
    fun {σ' H' v u} J r z => ⟨v, H', J.os, J.bare, J.base, J.hok, r, z⟩
  match fl, q with
  | .ret u, ⟨v, σ', H', J, r, z⟩ => exact close J r z
  | .next, ⟨σ', H', J, z⟩ => exact close (v := V.non) (u := Value.none) J rfl z
  | .brk, ⟨_, _, _, z⟩ => exact z.elim
  | .cont, ⟨_, _, _, z⟩ => exact z.elim
/-! ### the law's call -/
/-- the heap in which the script alone is tracked -/
def scr (K : PySem.W.Frag) (a : Addr) (o : Obj) (xs : List V) : Hp := fun b => if K.lookup a = none ∧ b = a then some (.frz o (.lst xs)) else none
theorem law_callG {P : Program} {w : World} {K : PySem.W.Frag} {mg mb : Str → Option Value} {k : Nat} {fa a : Addr} {fd : FuncData} {x : Str} {sp : Sp} {s₁ : Shared} {vs : List Value} {ns : List Int}
    (KX : K.In s₁.heap) (hns : s₁.heap.Ns mainGlobals mg) (hb : s₁.heap.Ns builtinsNs mb) (hbb : ∀ x : Str, x ≠ "__name__" → mb x = bootBuiltins x) (hlim : s₁.heap.NoLimit) (hg : s₁.gens = #[])
    (ha : s₁.heap.get? a = some { cls := .type "list", data := .seq vs.toArray }) (hi : IntsAre vs ns) (hl : ns.length ≤ sizeLine) (hr : Room k callerA)
    (F : ∀ base : Heap, K.In base → base.Ns mainGlobals mg → FnG P w K mg base k fa fd [x] sp) (hbind : ∀ (s : Shared) (u : Value), BindsTo s fd ⟨[u], []⟩ [(x, u)])
    (hsp : ∀ H : Hp, SqL K H a (ns.map V.int) → sp [.ref a] H (fun v _ => v = .bl true) fun _ _ _ => False) :
    codeAny (model P w) callerA (.call (.ref fa) ⟨[.ref a], []⟩) (fun r s' => r = .ok (.ret (.bool true)) ∧ OldK s₁.heap s'.heap ∧ s'.os = s₁.os ∧ AllBare s'.gens) s₁ := by
  have rv := vals_ints hi
  have lv := hi.length
  let o0 : Obj := { cls := .type "list", data := .seq vs.toArray }
  let H := scr K a o0 (ns.map V.int)
  have Hat : ∀ b u, H b = some u → K.lookup a = none ∧ b = a ∧ u = .frz o0 (.lst (ns.map V.int)) := fun b u e => by
    have e' : (if K.lookup a = none ∧ b = a then some (HO.frz o0 (.lst (ns.map V.int))) else none) = some u := e
    by_cases c : K.lookup a = none ∧ b = a
    · rw [if_pos c] at e'
      exact ⟨c.1, c.2, (Option.some.inj e').symm⟩
    · rw [if_neg c] at e'
      cases e'
  have Hno : ∀ b, b ≠ a → H b = none := fun b n => if_neg fun c => n c.2
  have hok : HOk P w H s₁.heap := fun b u e => by
    obtain ⟨_, rfl, rfl⟩ := Hat b u e
    exact ⟨ha, by rw [List.length_map]; exact hl, vs, _, rv, ha⟩
  have hS : SqL K H a (ns.map V.int) := by
    cases q : K.lookup a with
    | none => exact .inl (.inr ⟨o0, if_pos ⟨q, rfl⟩⟩)
    | some o =>
      have e := KX a o q
      rw [ha] at e
      cases e
      exact .inr ⟨_, vs.toArray, _, q, rfl, rfl, rfl, by rw [List.size_toArray, lv]; exact hl, by simpa using rv⟩
  -- what the law does not own stays
  have noDict : ∀ {b : Addr} {o : Obj} {es : Array DictEntry} {ep : Nat}, s₁.heap.get? b = some o → o.data = .dict es ep → H b = none := fun {b o es ep} e d => Hno b fun z => by
    subst z
    rw [ha] at e
    cases e
    exact nomatch (show Data.seq vs.toArray _ = Data.dict es ep from d)
  have nsK : ∀ {b : Addr} {m : Str → Option Value}, s₁.heap.Ns b m → (hidT s₁.heap H).Ns b m := fun {b m} ⟨o, es, ep, e, d, r⟩ => ⟨o, es, ep, hidT_get e (noDict e d), d, r⟩
  have inB : K.In (hidT s₁.heap H) := fun b o e => hidT_get (KX b o e) (by
    cases q : H b with
    | none => rfl
    | some u =>
      obtain ⟨z, rfl, _⟩ := Hat b u q
      rw [z] at e
      cases e)
  have mod : Mod K mg (hidT s₁.heap H) := ⟨inB, nsK hns, ⟨mb, nsK hb, hbb⟩, let ⟨mc, h1, h2⟩ := hlim; ⟨mc, nsK h1, h2⟩⟩
  have env : Env0 P w K mg (hidT s₁.heap H) callerA [] s₁ H := ⟨rfl, mod, fun b o e => of_hidT e, Nat.le_of_eq (hidT_size _ _), trivial, (fun b hb => nomatch hb), hok, .of_eq hg⟩
  refine codeAny_mono ((F _ inB (nsK hns)).run callerA [] s₁ H ⟨[.ref a], []⟩ [.ref a] [.ref a] _ _ rfl hr env (hbind s₁ (.ref a)) (.cons rfl .nil) (hsp H hS)) fun r s' q => ?_
  match r, q with
  | .error e, q => exact (show False from q).elim
  | .ok (.ret u), ⟨v, H', os, bare, un, hok', rel, hv⟩ =>
    obtain rfl : v = .bl true := hv
    obtain rfl : u = Value.bool true := rel
    refine ⟨rfl, OldK.of_keep fun b o e => ?_, os, bare⟩
    cases z : H b with
    | none => exact un.keep b o e z (fun h => nomatch h) (fun h => nomatch h)
    | some u =>
      obtain ⟨_, rfl, rfl⟩ := Hat b u z
      have z2 := un.frzs b _ _ z
      obtain ⟨e1, _⟩ := hok b _ z
      obtain ⟨e2, _⟩ := hok' b _ z2
      rw [e] at e1
      cases e1
      exact e2
theorem walk_ofG {l : PySem.W.OpenLaw} {n k : Nat} {q : Program} {loose : List Str} {XP : (Str → Option Value) → Heap → Prop} {YP : World → Heap → Prop} {d : DefRec} {K : Params → PySem.W.Frag} {sp : World → Sp} {x : Str}
    (hn : l.most = some n) (hn2 : n ≤ sizeLine) (hdf : d.params.defaults = []) (hr : Room k callerA)
    (hY : ∀ (w : World) (h : Heap), YP w h → (K w.params).In h)
    (F : ∀ (w : World) (mg : Str → Option Value) (fa : Addr) (h : Heap), (K w.params).In h → h.Ns mainGlobals mg → mg d.name = some (.ref fa) →
      ∃ fd : FuncData, (∀ (s : Shared) (u : Value), BindsTo s fd ⟨[u], []⟩ [(x, u)]) ∧
        ∀ base : Heap, (K w.params).In base → base.Ns mainGlobals mg → FnG l.prog w (K w.params) mg base k fa fd [x] (sp w))
    (hsp : ∀ (w : World) (H : Hp) (a : Addr) (ns : List Int), ns.length ≤ n → SqL (K w.params) H a (ns.map V.int) → sp w [.ref a] H (fun v _ => v = .bl true) fun _ _ _ => False) :
    PySem.W.WalkO q loose XP YP l.row.toRowW d [] (fun f vs => PySem.call f vs) := by
  refine Att.attach_call hn hdf fun w s₀ s₁ mg mb fa o pm cd doc a vs ns G Y ho hd hcd hmg hobj hints hlen hg => ?_
  have KX := hY w _ Y
  obtain ⟨fd, hb, hF⟩ := F w mg fa _ KX G.T.g hmg
  exact law_callG KX G.T.g G.T.b G.T.builtins G.T.nolimit hg hobj hints (Nat.le_trans hlen hn2) hr hF hb fun H hS => hsp w H a ns hlen hS
end My
set_option Elab.async false
set_option linter.all false
set_option maxRecDepth 100000
set_option maxHeartbeats 4000000
namespace My
open PySem PySem.Spec PyProof.Rows L2
/-! ### how large data is -/
def Sm (W D : Nat) (d : PyData) : Prop := d.leavesShort 60 = true ∧ d.showable = true ∧ d.bulk ≤ W ∧ d.depth ≤ D
def SmAll (W D : Nat) (ds : List PyData) : Prop := PyData.leavesShortAll 60 ds = true ∧ PyData.showableAll ds = true ∧ PyData.bulkAll ds ≤ W ∧ PyData.depthAll ds ≤ D
theorem Sm.mono {W W' D D' : Nat} {d : PyData} (h : Sm W D d) (hw : W ≤ W') (hd : D ≤ D') : Sm W' D' d := ⟨h.1, h.2.1, Nat.le_trans h.2.2.1 hw, Nat.le_trans h.2.2.2 hd⟩
theorem SmAll.mono {W W' D D' : Nat} {ds : List PyData} (h : SmAll W D ds) (hw : W ≤ W') (hd : D ≤ D') : SmAll W' D' ds := ⟨h.1, h.2.1, Nat.le_trans h.2.2.1 hw, Nat.le_trans h.2.2.2 hd⟩
theorem SmAll.list {W D : Nat} {ds : List PyData} (h : SmAll W D ds) : Sm W (D + 1) (.list ds) := by
  obtain ⟨h1, h2, h3, h4⟩ := h
  exact ⟨by simpa only [PyData.leavesShort] using h1, by simpa only [PyData.showable] using h2, by simpa only [PyData.bulk] using h3, by simp only [PyData.depth]; omega⟩
theorem SmAll.tuple {W D : Nat} {ds : List PyData} (h : SmAll W D ds) : Sm W (D + 1) (.tuple ds) := by
  obtain ⟨h1, h2, h3, h4⟩ := h
  exact ⟨by simpa only [PyData.leavesShort] using h1, by simpa only [PyData.showable] using h2, by simpa only [PyData.bulk] using h3, by simp only [PyData.depth]; omega⟩
theorem SmAll.nil {D : Nat} : SmAll 0 D [] := ⟨rfl, rfl, Nat.le_refl 0, Nat.zero_le _⟩
theorem SmAll.cons {W W' D : Nat} {d : PyData} {ds : List PyData} (h : Sm W D d) (t : SmAll W' D ds) : SmAll (W + 1 + W') D (d :: ds) := by
  obtain ⟨h1, h2, h3, h4⟩ := h
  obtain ⟨t1, t2, t3, t4⟩ := t
  refine ⟨by simp only [PyData.leavesShortAll, h1, t1, Bool.and_true], by simp only [PyData.showableAll, h2, t2, Bool.and_true], by simp only [PyData.bulkAll]; omega, ?_⟩
  simp only [PyData.depthAll]
  exact Nat.max_le.mpr ⟨h4, t4⟩
theorem SmAll.uncons {W D : Nat} {d : PyData} {ds : List PyData} (h : SmAll W D (d :: ds)) : ∃ w w', w + 1 + w' ≤ W ∧ Sm w D d ∧ SmAll w' D ds := by
  obtain ⟨h1, h2, h3, h4⟩ := h
  simp only [PyData.leavesShortAll, Bool.and_eq_true] at h1
  simp only [PyData.showableAll, Bool.and_eq_true] at h2
  simp only [PyData.bulkAll] at h3
  simp only [PyData.depthAll] at h4
  have h5 := Nat.max_le.mp h4
  exact ⟨d.bulk, PyData.bulkAll ds, h3, ⟨h1.1, h2.1, Nat.le_refl _, h5.1⟩, h1.2, h2.2, Nat.le_refl _, h5.2⟩
theorem SmAll.append : ∀ {W W' D : Nat} {ds es : List PyData}, SmAll W D ds → SmAll W' D es → SmAll (W + W') D (ds ++ es)
  | W, W', D, [], es, _, h => h.mono (by omega) (Nat.le_refl _)
  | W, W', D, d :: ds, es, h, g => by
    obtain ⟨w, w', hw, h1, h2⟩ := h.uncons
    exact (SmAll.cons h1 (SmAll.append h2 g)).mono (by omega) (Nat.le_refl _)
theorem SmAll.take : ∀ {W D : Nat} {ds : List PyData} (k : Nat), SmAll W D ds → SmAll W D (ds.take k)
  | _, _, [], k, h => by rw [List.take_nil]; exact h
  | _, _, _ :: _, 0, h => SmAll.nil.mono (Nat.zero_le _) (Nat.le_refl _)
  | W, D, d :: ds, k + 1, h => by
    obtain ⟨w, w', hw, h1, h2⟩ := h.uncons
    exact (SmAll.cons h1 (SmAll.take k h2)).mono hw (Nat.le_refl _)
theorem SmAll.drop : ∀ {W D : Nat} {ds : List PyData} (k : Nat), SmAll W D ds → SmAll W D (ds.drop k)
  | _, _, [], k, h => by rw [List.drop_nil]; exact h
  | _, _, _ :: _, 0, h => h
  | W, D, d :: ds, k + 1, h => by
    obtain ⟨w, w', hw, h1, h2⟩ := h.uncons
    exact (SmAll.drop k h2).mono (by omega) (Nat.le_refl _)
theorem SmAll.mem : ∀ {W D : Nat} {ds : List PyData} {d : PyData}, SmAll W D ds → d ∈ ds → Sm W D d
  | W, D, e :: ds, d, h, m => by
    obtain ⟨w, w', hw, h1, h2⟩ := h.uncons
    rcases List.mem_cons.mp m with rfl | m
    · exact h1.mono (by omega) (Nat.le_refl _)
    · exact (SmAll.mem h2 m).mono (by omega) (Nat.le_refl _)
theorem SmAll.reverse : ∀ {W D : Nat} {ds : List PyData}, SmAll W D ds → SmAll W D ds.reverse
  | _, _, [], h => h
  | W, D, d :: ds, h => by
    obtain ⟨w, w', hw, h1, h2⟩ := h.uncons
    rw [List.reverse_cons]
    exact (SmAll.append (SmAll.reverse h2) (SmAll.cons h1 SmAll.nil)).mono (by omega) (Nat.le_refl _)
theorem SmAll.len : ∀ {W D : Nat} {ds : List PyData}, SmAll W D ds → ds.length ≤ W
  | _, _, [], _ => Nat.zero_le _
  | W, D, d :: ds, h => by
    obtain ⟨w, w', hw, h1, h2⟩ := h.uncons
    have := SmAll.len h2
    rw [List.length_cons]
    omega
/-- one place put anew -/
theorem SmAll.set : ∀ {W W' D : Nat} {ds : List PyData} {d : PyData} (k : Nat), SmAll W D ds → Sm W' D d → SmAll (W + W') D (ds.set k d)
  | _, _, _, [], _, _, h, _ => h.mono (by omega) (Nat.le_refl _)
  | W, W', D, e :: ds, d, 0, h, g => by
    obtain ⟨w, w', hw, h1, h2⟩ := h.uncons
    exact (SmAll.cons g h2).mono (by omega) (Nat.le_refl _)
  | W, W', D, e :: ds, d, k + 1, h, g => by
    obtain ⟨w, w', hw, h1, h2⟩ := h.uncons
    exact (SmAll.cons h1 (SmAll.set k h2 g)).mono (by omega) (Nat.le_refl _)
theorem Sm.int {i : Int} (h : i.natAbs < 10 ^ 50) : Sm 0 0 (.int i) := by
  refine ⟨?_, ?_, Nat.le_refl _, Nat.le_refl _⟩
  · simp only [PyData.leavesShort, decide_eq_true_eq]
    have e := int_text_length_le10 (a := i) (k := 50) (by decide) h
    show (Str.ofString (toString i)).length ≤ 60
    rw [PySem.ofString_length]
    omega
  · simp only [PyData.showable, decide_eq_true_eq]
    rcases Nat.eq_zero_or_pos i.natAbs with z | z
    · rw [z]
      decide
    · have h2 : (10 : Nat) ^ 50 ≤ 2 ^ 200 := by decide
      have h3 := (Nat.log2_lt (n := i.natAbs) (k := 200) (by omega)).mpr (Nat.lt_of_lt_of_le h h2)
      omega
theorem Sm.bool {b : Bool} : Sm 0 0 (.bool b) := ⟨rfl, rfl, Nat.le_refl _, Nat.le_refl _⟩
theorem Sm.none : Sm 0 0 .none := ⟨rfl, rfl, Nat.le_refl _, Nat.le_refl _⟩
/-- the text of small data is in the line -/
theorem Sm.fits {W D : Nat} {d : PyData} (h : Sm W D d) (hw : W ≤ 100000) : d.shown.length + 64 ≤ sizeLine := by
  have h1 := PyData.shown_le_bulk 60 (by decide) d h.1
  have h2 := h.2.2.1
  rw [sizeLine_eq]
  omega
end My
set_option Elab.async false
set_option linter.all false
set_option maxRecDepth 100000
set_option maxHeartbeats 4000000
namespace My
open PySem PySem.Spec PyProof.Rows L2
/-! ### a heap without some addresses -/
def wos (av : List Addr) (H : Hp) : Hp := fun b => if b ∈ av then none else H b
theorem wos_in {av : List Addr} {H : Hp} {b : Addr} (h : b ∉ av) : wos av H b = H b := by unfold wos; rw [if_neg h]
theorem wos_some {av : List Addr} {H : Hp} {b : Addr} {o : HO} (h : wos av H b = some o) : b ∉ av ∧ H b = some o := by
  unfold wos at h
  by_cases c : b ∈ av
  · rw [if_pos c] at h
    cases h
  · rw [if_neg c] at h
    exact ⟨c, h⟩
theorem wos_le {av : List Addr} {H : Hp} : Same (wos av H) H := fun b o h => (wos_some h).2
theorem Same.wos {av : List Addr} {H H' : Hp} (s : Same H H') : Same (wos av H) (wos av H') := fun b o h => by
  obtain ⟨n, e⟩ := wos_some h
  rw [wos_in n]
  exact s _ _ e
theorem Same.wos_of {av : List Addr} {p : Addr} {H H' : Hp} (hp : p ∈ av) (s : L2.Same (My.wo p H) (My.wo p H')) : L2.Same (My.wos av H) (My.wos av H') := fun b o h => by
  obtain ⟨n, e⟩ := wos_some h
  have hb : b ≠ p := fun z => n (by rw [z]; exact hp)
  rw [wos_in n]
  exact (wo_some (s _ _ ((wo_ne hb).trans e))).2
theorem wos_wo {av : List Addr} {p : Addr} {H : Hp} (hp : p ∈ av) : Same (wos av H) (wo p H) := fun b o h => by
  obtain ⟨n, e⟩ := wos_some h
  exact (wo_ne (fun z : b = p => n (by rw [z]; exact hp))).trans e
/-- the addresses are there -/
def Avs (av : List Addr) (H : Hp) : Prop := ∀ b ∈ av, ∃ o, H b = some o
theorem Avs.same {av : List Addr} {H H' : Hp} (s : Same H H') (h : Avs av H) : Avs av H' := fun b hb => by
  obtain ⟨o, e⟩ := h b hb
  exact ⟨o, s _ _ e⟩
theorem Avs.of {av : List Addr} {p : Addr} {H H' : Hp} (s : Same (wo p H) (wo p H')) (hp : ∃ o, H' p = some o) (h : Avs av H) : Avs av H' := fun b hb => by
  by_cases c : b = p
  · rw [c]
    exact hp
  · obtain ⟨o, e⟩ := h b hb
    exact ⟨o, (wo_some (s _ _ ((wo_ne c).trans e))).2⟩
theorem Avs.fresh {av : List Addr} {H : Hp} {a : Addr} (h : Avs av H) (ha : H a = none) : a ∉ av := fun z => by
  obtain ⟨o, e⟩ := h a z
  rw [e] at ha
  cases ha
/-! ### displays: what is written out is new data, and nothing else changes -/
/-- the part tells data d, from any heap that holds H0; the addresses av are not in it -/
def EvQ (K : PySem.W.Frag) (av : List Addr) (H0 : Hp) (σ : L2.St) (t : TE) (d : PyData) : Prop :=
  ∀ H, Same H0 H → ∀ Q : VK, (∀ x H', Same H H' → Dq K (wos av H') x d → Q x H') → t σ H Q
def EvA (K : PySem.W.Frag) (av : List Addr) (H0 : Hp) (σ : L2.St) (t : TA) (ds : List PyData) : Prop :=
  ∀ H, Same H0 H → ∀ Q : List V → Hp → Prop, (∀ xs H', Same H H' → DqAll K (wos av H') xs ds → Q xs H') → t σ H Q
section
variable {K : PySem.W.Frag} {av : List Addr} {H0 : Hp} {σ : L2.St} {t : TE} {ta : TA} {d : PyData} {ds : List PyData}
theorem EvQ.pure {v : V} (h : ∀ (H : Hp) (Q : VK), Q v H → t σ H Q) (hd : Dq K (wos av H0) v d) : EvQ K av H0 σ t d :=
  fun H s Q q => h H Q (q v H (fun _ _ e => e) (Dq.same (My.Same.wos s) hd))
theorem EvQ.c {v : V} (hd : Dq K (wos av H0) v d) : EvQ K av H0 σ (tC v) d := EvQ.pure (fun _ _ q => q) hd
theorem EvQ.var {i : Nat} {v : V} (e : σ[i]? = some (some v)) (hd : Dq K (wos av H0) v d) : EvQ K av H0 σ (tVar i) d := EvQ.pure (fun _ _ q => ⟨v, e, q⟩) hd
theorem EvA.nil : EvA K av H0 σ tNil [] := fun H s Q q => q [] H (fun _ _ e => e) .nil
theorem EvA.cons (h : EvQ K av H0 σ t d) (r : EvA K av H0 σ ta ds) : EvA K av H0 σ (tCons t ta) (d :: ds) :=
  fun H s Q q => h H s _ fun x H1 s1 hx => r H1 (s.trans s1) _ fun xs H2 s2 hxs => q (x :: xs) H2 (s1.trans s2) (.cons (Dq.same (My.Same.wos s2) hx) hxs)
theorem EvQ.tup (hp : Avs av H0) (r : EvA K av H0 σ ta ds) (hl : ds.length ≤ 1000) : EvQ K av H0 σ (tTup ta) (.tuple ds) := fun H s Q q => by
  refine r H s _ fun xs H1 s1 hxs => ⟨by rw [hxs.len, sizeLine_eq]; omega, fun a ha => q _ _ (s1.trans (My.Same.new ha)) ?_⟩
  have n : a ∉ av := (hp.same (s.trans s1)).fresh ha
  exact .tup (SqT.of ((wos_in n).trans upd_same)) (DqAll.same (My.Same.wos (My.Same.new ha)) hxs)
theorem EvQ.lst (hp : Avs av H0) (r : EvA K av H0 σ ta ds) (hl : ds.length ≤ 1000) : EvQ K av H0 σ (tLst ta) (.list ds) := fun H s Q q => by
  refine r H s _ fun xs H1 s1 hxs => ⟨by rw [hxs.len, sizeLine_eq]; omega, fun a ha => q _ _ (s1.trans (My.Same.new ha)) ?_⟩
  have n : a ∉ av := (hp.same (s.trans s1)).fresh ha
  exact .lst (SqL.of ((wos_in n).trans upd_same)) (DqAll.same (My.Same.wos (My.Same.new ha)) hxs)
theorem EvQ.dict (hp : Avs av H0) : EvQ K av H0 σ tDNewK (.dict []) := fun H s Q q a ha => by
  refine q _ _ (My.Same.new ha) (.dct ?_)
  have n : a ∉ av := (hp.same s).fresh ha
  exact (wos_in n).trans upd_same
end
/-- one of the data -/
theorem DqAll.mem {K : PySem.W.Frag} {H : Hp} {ds : List PyData} {vs : List V} {j : Nat} {v : V} (h : DqAll K H vs ds) (e : vs[j]? = some v) : ∃ d, d ∈ ds ∧ Dq K H v d := by
  obtain ⟨d, e1, e2⟩ := h.get e
  exact ⟨d, List.mem_of_getElem? e1, e2⟩
section
variable {K : PySem.W.Frag} {H : Hp}
theorem DqAll.take : ∀ {ds : List PyData} {vs : List V} (k : Nat), DqAll K H vs ds → DqAll K H (vs.take k) (ds.take k)
  | _, _, k, .nil => by rw [List.take_nil, List.take_nil]; exact .nil
  | _, _, 0, .cons _ _ => .nil
  | _, _, k + 1, .cons h t => .cons h (DqAll.take k t)
theorem DqAll.drop : ∀ {ds : List PyData} {vs : List V} (k : Nat), DqAll K H vs ds → DqAll K H (vs.drop k) (ds.drop k)
  | _, _, k, .nil => by rw [List.drop_nil, List.drop_nil]; exact .nil
  | _, _, 0, .cons h t => .cons h t
  | _, _, k + 1, .cons h t => DqAll.drop k t
theorem DqAll.set : ∀ {ds : List PyData} {vs : List V} {v : V} {d : PyData} (k : Nat), DqAll K H vs ds → Dq K H v d → DqAll K H (vs.set k v) (ds.set k d)
  | _, _, _, _, k, .nil, _ => .nil
  | _, _, _, _, 0, .cons _ t, g => .cons g t
  | _, _, _, _, k + 1, .cons h t, g => .cons h (DqAll.set k t g)
theorem DqAll.reverse : ∀ {ds : List PyData} {vs : List V}, DqAll K H vs ds → DqAll K H vs.reverse ds.reverse
  | _, _, .nil => .nil
  | _, _, .cons h t => by
    rw [List.reverse_cons, List.reverse_cons]
    exact DqAll.append (DqAll.reverse t) (.cons h .nil)
/-- a slice of data is data, no larger -/
theorem DqAll.cut {ds : List PyData} {vs : List V} {W D : Nat} (lo hi : Option Int) (h : DqAll K H vs ds) (s : SmAll W D ds) : ∃ es, DqAll K H (cutV vs lo hi) es ∧ SmAll W D es :=
  ⟨_, DqAll.take _ (DqAll.drop _ h), SmAll.take _ (SmAll.drop _ s)⟩
end
end My
set_option Elab.async false
set_option linter.all false
set_option maxRecDepth 100000
set_option maxHeartbeats 4000000
namespace My
open PySem PySem.Spec PyProof.Rows L2 Srt
/-! ### sorted(t), t a tuple of pairs of whole numbers -/
/-- data in another order -/
theorem DqAll.perm {K : PySem.W.Frag} {H : Hp} {vs us : List V} (p : us.Perm vs) : ∀ {ds : List PyData}, DqAll K H vs ds → ∃ es, es.Perm ds ∧ DqAll K H us es := by
  induction p with
  | nil => exact fun h => ⟨_, .refl _, h⟩
  | cons x _ ih =>
    intro ds h
    cases h with
    | cons h t =>
      obtain ⟨es, e1, e2⟩ := ih t
      exact ⟨_, e1.cons _, .cons h e2⟩
  | swap x y l =>
    intro ds h
    cases h with
    | cons h t =>
      cases t with
      | cons h2 t => exact ⟨_, .swap .., .cons h2 (.cons h t)⟩
  | trans _ _ ih1 ih2 =>
    intro ds h
    obtain ⟨es, e1, e2⟩ := ih2 h
    obtain ⟨fs, f1, f2⟩ := ih1 e2
    exact ⟨fs, f1.trans e1, f2⟩
theorem SmAll.perm {W D : Nat} {ds es : List PyData} (p : es.Perm ds) : SmAll W D ds → SmAll W D es := by
  revert W
  induction p with
  | nil => exact fun h => h
  | cons x _ ih =>
    intro W h
    obtain ⟨w, w', hw, h1, h2⟩ := h.uncons
    exact (SmAll.cons h1 (ih h2)).mono hw (Nat.le_refl _)
  | swap x y l =>
    intro W h
    obtain ⟨w, w', hw, h1, h2⟩ := h.uncons
    obtain ⟨v, v', hv, g1, g2⟩ := h2.uncons
    exact (SmAll.cons g1 (SmAll.cons h1 g2)).mono (by omega) (Nat.le_refl _)
  | trans _ _ ih1 ih2 => exact fun h => ih1 (ih2 h)
end My
set_option Elab.async false
set_option linter.all false
set_option maxRecDepth 100000
set_option maxHeartbeats 4000000
namespace My
open PySem PySem.Spec PyProof.Rows L2 HT
/-! ### t[::-1], t a tuple -/
end My
set_option Elab.async false
set_option linter.all false
set_option maxRecDepth 100000
set_option maxHeartbeats 4000000
namespace My
open PySem PySem.Spec PyProof.Rows L2
/-! ### more of displays -/
/-- as EvQ, and the list told is the def's own -/
def EvL (K : PySem.W.Frag) (av : List Addr) (H0 : Hp) (σ : L2.St) (t : TE) (ds : List PyData) : Prop :=
  ∀ H, Same H0 H → ∀ Q : VK, (∀ a xs H', Same H H' → H' a = some (.lst xs) → a ∉ av → DqAll K (wos av H') xs ds → Q (.ref a) H') → t σ H Q
def cutD (ds : List PyData) (lo hi : Option Int) : List PyData := (ds.drop (HT.sIx ds.length 0 lo)).take (HT.sIx ds.length ds.length hi - HT.sIx ds.length 0 lo)
theorem smallN {n : Nat} (h : n ≤ 10000) : n ≤ sizeLine := by
  rw [sizeLine_eq]
  omega
section
variable {K : PySem.W.Frag} {av : List Addr} {H0 : Hp} {σ : L2.St} {t t1 t2 : TE} {ta : TA} {tl th : TO} {lo hi : Option Int} {d : PyData} {ds es : List PyData}
theorem DqAll.cutD {H : Hp} {vs : List V} (h : DqAll K H vs ds) : DqAll K H (cutV vs lo hi) (My.cutD ds lo hi) := by
  unfold cutV My.cutD
  rw [h.len]
  exact DqAll.take _ (DqAll.drop _ h)
theorem Dq.un_tup {H : Hp} {v : V} (h : Dq K H v (.tuple ds)) : ∃ a xs, v = .ref a ∧ SqT K H a xs ∧ DqAll K H xs ds := by
  cases h with
  | tup h t => exact ⟨_, _, rfl, h, t⟩
theorem Dq.un_lst {H : Hp} {v : V} (h : Dq K H v (.list ds)) : ∃ a xs, v = .ref a ∧ SqL K H a xs ∧ DqAll K H xs ds := by
  cases h with
  | lst h t => exact ⟨_, _, rfl, h, t⟩
theorem EvL.lst (hp : Avs av H0) (r : EvA K av H0 σ ta ds) (hl : ds.length ≤ 1000) : EvL K av H0 σ (tLst ta) ds := fun H s Q q => by
  refine r H s _ fun xs H1 s1 hxs => ⟨by rw [hxs.len, sizeLine_eq]; omega, fun a ha => q a xs _ (s1.trans (My.Same.new ha)) upd_same ?_ (DqAll.same (My.Same.wos (My.Same.new ha)) hxs)⟩
  exact (hp.same (s.trans s1)).fresh ha
theorem EvL.q (h : EvL K av H0 σ t ds) : EvQ K av H0 σ t (.list ds) := fun H s Q q =>
  h H s _ fun a xs H' s' e n hx => q _ _ s' (.lst (SqL.of ((wos_in n).trans e)) hx)
end
theorem tAsg_e {te : TE} {g : TG} {D : Ends} {σ : L2.St} {H : Hp} (h : te σ H fun x H1 => g x σ H1 D.nx) : tAsg te g D σ H := h
theorem tOp_e {r : R2} {ta tb : TE} {σ : L2.St} {H : Hp} {Q : VK} (h : ta σ H fun x H1 => tb σ H1 fun y H2 => r x y H2 Q) : tOp r ta tb σ H Q := h
theorem tCB1_e {r : List V → Hp → VK → Prop} {t : TE} {σ : L2.St} {H : Hp} {Q : VK} (h : t σ H fun x H1 => r [x] H1 Q) : tCB r (tCons t tNil) σ H Q := h
theorem tSeq_e {t u : TS} {D : Ends} {σ : L2.St} {H : Hp} (h : t { D with nx := u D } σ H) : tSeq t u D σ H := h
end My
set_option Elab.async false
set_option linter.all false
set_option maxRecDepth 100000
set_option maxHeartbeats 4000000
namespace My
open PySem PySem.Spec PyProof.Rows L2
/-! ### what values are: whole numbers, places, ties, webs, lots -/
def placeD (n : Int) : PyData → Bool
  | .int i => decide (0 ≤ i) && decide (i < n)
  | _ => false
def ltD : PyData → PyData → Bool
  | .int a, .int b => decide (a < b)
  | .tuple [.int a, .int b], .tuple [.int c, .int d] => HT.lexLt [a, b] [c, d]
  | _, _ => false
def upsD (ds : List PyData) : List Bool := (ds.zip (ds.drop 1)).map fun p => ltD p.1 p.2
def spPlace (K : PySem.W.Frag) : Sp := fun vs H Q _ => ∃ (n : Int) (v : V) (d : PyData), vs = [.int n, v] ∧ Dq K H v d ∧ ∀ H', Same H H' → Q (.bl (placeD n d)) H'
def IntsD (ds : List PyData) : Prop := ∀ d ∈ ds, ∃ i : Int, d = .int i
theorem upsD_len {ds : List PyData} : (upsD ds).length = ds.length - 1 := by
  unfold upsD
  rw [List.length_map, List.length_zip, List.length_drop]
  omega
theorem upsD_get {ds : List PyData} {i : Nat} {d e : PyData} (h1 : ds[i]? = some d) (h2 : (ds.drop 1)[i]? = some e) : (upsD ds)[i]? = some (ltD d e) := by
  unfold upsD
  have z : (ds.zip (ds.drop 1))[i]? = some (d, e) := List.getElem?_zip_eq_some.mpr ⟨h1, h2⟩
  rw [List.getElem?_map, z]
  rfl
/-- what each item tells of the next one, one after another -/
def UpsAt (H1 : Hp) (D : Addr) (ds : List PyData) (i : Nat) (H3 : Hp) : Prop := Same H1 H3 ∧ H3 D = some (.lst (((upsD ds).take i).map V.bl))
theorem UpsAt.next {H1 H3 H4 : Hp} {D : Addr} {ds : List PyData} {i : Nat} {d e : PyData} (h : UpsAt H1 D ds i H3) (hD : H1 D = none) (s : Same H3 H4) (h1 : ds[i]? = some d) (h2 : (ds.drop 1)[i]? = some e) (hl : ds.length ≤ 10000) :
    ∃ acc, H4 D = some (.lst acc) ∧ acc.length < sizeLine ∧ UpsAt H1 D ds (i + 1) (upd H4 D (.lst (acc ++ [V.bl (ltD d e)]))) := by
  refine ⟨_, s _ _ h.2, ?_, My.Same.updD (h.1.trans s) hD, ?_⟩
  · rw [List.length_map, List.length_take, upsD_len, sizeLine_eq]
    omega
  · rw [upd_same, List.take_add_one, upsD_get h1 h2, List.map_append]
    rfl
theorem UpsAt.all {H1 H3 : Hp} {D : Addr} {ds : List PyData} {i : Nat} (h : UpsAt H1 D ds i H3) (hi : ds.length - 1 ≤ i) : H3 D = some (.lst ((upsD ds).map V.bl)) := by
  have := h.2
  rw [List.take_of_length_le (by rw [upsD_len]; exact hi)] at this
  exact this
/-- a list of truths grows -/
def BsAt (H1 : Hp) (D : Addr) (bs : List Bool) (i : Nat) (H3 : Hp) : Prop := Same H1 H3 ∧ H3 D = some (.lst ((bs.take i).map V.bl))
theorem BsAt.next {H1 H3 H4 : Hp} {D : Addr} {bs : List Bool} {i : Nat} {b : Bool} (h : BsAt H1 D bs i H3) (hD : H1 D = none) (s : Same H3 H4) (hb : bs[i]? = some b) (hl : bs.length ≤ 10000) :
    ∃ acc, H4 D = some (.lst acc) ∧ acc.length < sizeLine ∧ BsAt H1 D bs (i + 1) (upd H4 D (.lst (acc ++ [V.bl b]))) := by
  refine ⟨_, s _ _ h.2, ?_, My.Same.updD (h.1.trans s) hD, ?_⟩
  · rw [List.length_map, List.length_take, sizeLine_eq]
    omega
  · rw [upd_same, List.take_add_one, hb, List.map_append]
    rfl
theorem BsAt.all {H1 H3 : Hp} {D : Addr} {bs : List Bool} {i : Nat} (h : BsAt H1 D bs i H3) (hi : bs.length ≤ i) : H3 D = some (.lst (bs.map V.bl)) := by
  have := h.2
  rw [List.take_of_length_le hi] at this
  exact this
theorem all_map {ds : List PyData} {F : PyData → Bool} : (ds.map F).all id = ds.all F := by
  rw [List.all_map]
  rfl
theorem Sm.len {W D : Nat} {ds : List PyData} (sm : Sm W D (.tuple ds)) (hW : W ≤ 10000) : ds.length ≤ 10000 := by
  obtain ⟨_, _, h3, _⟩ := sm
  have : PyData.bulkAll ds ≤ W := by simpa only [PyData.bulk] using h3
  have l2 : ∀ ds : List PyData, ds.length ≤ PyData.bulkAll ds := fun ds => by
    induction ds with
    | nil => exact Nat.zero_le _
    | cons d ds ih =>
      simp only [PyData.bulkAll, List.length_cons]
      omega
  have := l2 ds
  omega
end My
set_option Elab.async false
set_option linter.all false
set_option maxRecDepth 100000
set_option maxHeartbeats 4000000
namespace My
open PySem PySem.Spec PyProof.Rows L2 SrtO
/-! ### sorted(t), t a tuple of whole numbers -/
/-! ### a list of small data -/
/-- at a an own list of at most m data, all small -/
def SmL (K : PySem.W.Frag) (av : List Addr) (H : Hp) (a : Addr) (W D m : Nat) : Prop := a ∉ av ∧ ∃ (xs : List V) (ds : List PyData), H a = some (.lst xs) ∧ DqAll K (wos av H) xs ds ∧ (∀ d ∈ ds, Sm W D d) ∧ ds.length ≤ m
theorem SmL.same {K : PySem.W.Frag} {av : List Addr} {H H' : Hp} {a p : Addr} {W D m : Nat} (hp : p ∈ av) (h : SmL K av H a W D m) (s : Same (wo p H) (wo p H')) : SmL K av H' a W D m := by
  obtain ⟨n, xs, ds, e, hx, hs, hl⟩ := h
  have hap : a ≠ p := fun z => n (by rw [z]; exact hp)
  exact ⟨n, xs, ds, (wo_some (s _ _ ((wo_ne hap).trans e))).2, DqAll.same (My.Same.wos_of hp s) hx, hs, hl⟩
theorem SmL.get {K : PySem.W.Frag} {av : List Addr} {H : Hp} {a : Addr} {W D m : Nat} (h : SmL K av H a W D m) : ∃ xs : List V, H a = some (.lst xs) ∧ xs.length ≤ m ∧ ∀ (i : Nat) (x : V), xs[i]? = some x → ∃ d, Dq K (wos av H) x d ∧ Sm W D d := by
  obtain ⟨n, xs, ds, e, hx, hs, hl⟩ := h
  refine ⟨xs, e, by rw [hx.len]; exact hl, fun i x ex => ?_⟩
  obtain ⟨d, hd, hq⟩ := hx.mem ex
  exact ⟨d, hq, hs d hd⟩
end My
set_option Elab.async false
set_option linter.all false
set_option maxRecDepth 100000
set_option maxHeartbeats 4000000
namespace My
open PySem PySem.Spec PyProof.Rows L2
/-! ### displays in which calls take from the pen -/
def EvAP (K : PySem.W.Frag) (p c : Addr) (av : List Addr) (n0 : Nat) (H0 : Hp) (σ : L2.St) (ta : TA) (W D m st : Nat) : Prop :=
  ∀ H n, Pen H p c n → n ≤ n0 → Avs av H → Same (wo p H0) (wo p H) → ∀ Q : List V → Hp → Prop, (∀ xs ds H', DqAll K (wos av H') xs ds → (∀ d ∈ ds, Sm W D d) → ds.length = m → Pen H' p c (n + st) → Same (wo p H) (wo p H') → Q xs H') → ta σ H Q
section
variable {K : PySem.W.Frag} {p c : Addr} {av : List Addr} {n0 : Nat} {H0 : Hp} {σ : L2.St} {ta : TA} {t : TE} {W D m st : Nat}
theorem EvAP.nil : EvAP K p c av n0 H0 σ tNil W D 0 0 := fun H n pen hn hav s Q q => q [] [] H .nil (fun d hd => nomatch hd) rfl pen (fun _ _ e => e)
theorem EvAP.call {st1 : Nat} (h : ∀ H n, Pen H p c n → n ≤ n0 → Avs av H → Same (wo p H0) (wo p H) → ∀ R : VK, (∀ x d H', Dq K (wos av H') x d → Sm W D d → Pen H' p c (n + st1) → Same (wo p H) (wo p H') → R x H') → t σ H R) : EvAP K p c av n0 H0 σ (tCons t tNil) W D 1 st1 := fun H n pen hn hav s Q q =>
  h H n pen hn hav s _ fun x d H' hx hd pen' s' => q [x] [d] H' (.cons hx .nil) (fun e he => by rw [List.mem_singleton.mp he]; exact hd) rfl pen' s'
theorem EvAP.lst {n : Nat} (hpav : p ∈ av) (h : EvAP K p c av n0 H0 σ ta W D m st) (pen : Pen H0 p c n) (hn : n ≤ n0) (hav : Avs av H0) (hm : m ≤ 1000) {Q : VK} (q : ∀ a H', SmL K av H' a W D m → Pen H' p c (n + st) → Same (wo p H0) (wo p H') → Q (.ref a) H') : tLst ta σ H0 Q := by
  refine h H0 n pen hn hav (fun _ _ e => e) _ fun xs ds H1 hxs hds hl pen1 s1 => ?_
  refine ⟨by rw [hxs.len]; exact smallN (by omega), fun a ha => ?_⟩
  have s := My.Same.new (o := HO.lst xs) ha
  have n1 := (hav.of s1 (Pen.at pen1)).fresh ha
  exact q a _ ⟨n1, xs, ds, upd_same, DqAll.same (My.Same.wos s) hxs, hds, by omega⟩ (Pen.same s pen1) (s1.trans (My.Same.wo s))
end
theorem ups_len_le : ∀ (L : List Int) (lo hi : Int), L.Pairwise (· < ·) → (∀ x ∈ L, lo ≤ x ∧ x < hi) → lo ≤ hi → (L.length : Int) ≤ hi - lo
  | [], lo, hi, _, _, h => by simp; omega
  | x :: L, lo, hi, h, hb, hl => by
    rw [List.pairwise_cons] at h
    have hx := hb x List.mem_cons_self
    have := ups_len_le L (x + 1) hi h.2 (fun y hy => ⟨by have := h.1 y hy; omega, (hb y (List.mem_cons_of_mem _ hy)).2⟩) (by omega)
    rw [List.length_cons]
    omega
theorem WebOk.len {k : Nat} {T : List (Int × Int)} (h : WebOk k T) (hk : k ≤ 12) : T.length ≤ 144 := by
  have h1 : (T.map fun t => 12 * t.1 + t.2).Pairwise (· < ·) := by
    rw [List.pairwise_map]
    refine List.Pairwise.imp_of_mem (fun {s t} hs ht hlt => ?_) h.1
    have b1 := h.2 s hs
    have b2 := h.2 t ht
    rcases hlt with hlt | ⟨e, hlt⟩ <;> omega
  have := ups_len_le _ 0 144 h1 (fun x hx => by
    obtain ⟨t, ht, rfl⟩ := List.mem_map.mp hx
    have b := h.2 t ht
    omega) (by omega)
  rw [List.length_map] at this
  omega
theorem WebOk.bd {k : Nat} {T : List (Int × Int)} (h : WebOk k T) (hk : k ≤ 12) : ∀ t ∈ T, (0 ≤ t.1 ∧ t.1 < 12) ∧ 0 ≤ t.2 ∧ t.2 < 12 := fun t ht => by
  have b := h.2 t ht
  omega
theorem SmAll.of {W D : Nat} : ∀ {ds : List PyData} {m : Nat}, (∀ d ∈ ds, Sm W D d) → ds.length ≤ m → SmAll (m * (W + 1)) D ds
  | [], m, _, _ => SmAll.nil.mono (Nat.zero_le _) (Nat.le_refl _)
  | d :: ds, 0, _, h => by
    rw [List.length_cons] at h
    omega
  | d :: ds, m + 1, hs, h => by
    have := SmAll.of (m := m) (fun e he => hs e (List.mem_cons_of_mem _ he)) (by rw [List.length_cons] at h; omega)
    exact (SmAll.cons (hs d List.mem_cons_self) this).mono (by rw [Nat.succ_mul]; omega) (Nat.le_refl _)
theorem wo_wos {p : Addr} {H : Hp} : Same (wo p H) (wos [p] H) := fun b o h => by
  obtain ⟨n, e⟩ := wo_some h
  exact (wos_in (fun z => n (List.mem_singleton.mp z))).trans e
theorem SmL.mono {K : PySem.W.Frag} {av : List Addr} {H : Hp} {a : Addr} {W W' D D' m : Nat} (h : SmL K av H a W D m) (hw : W ≤ W') (hd : D ≤ D') : SmL K av H a W' D' m := by
  obtain ⟨n, xs, ds, e, hx, hs, hl⟩ := h
  exact ⟨n, xs, ds, e, hx, fun d hd' => (hs d hd').mono hw hd, hl⟩
theorem DqAll.ints {K : PySem.W.Frag} {H : Hp} : ∀ ns : List Int, DqAll K H (ns.map V.int) (ns.map PyData.int)
  | [] => .nil
  | n :: ns => .cons (.int n) (DqAll.ints ns)
end My
set_option Elab.async false
set_option linter.all false
set_option maxRecDepth 100000
set_option maxHeartbeats 4000000
namespace My
open PySem PySem.Spec PyProof.Rows L2 PySem.SeqAt
/-! ### how many unlike whole numbers -/
theorem len_sub : ∀ {L ns : List Int}, L.Nodup → (∀ k ∈ L, k ∈ ns) → L.length ≤ ns.length
  | [], _, _, _ => Nat.zero_le _
  | x :: L, ns, nd, hs => by
    rw [List.nodup_cons] at nd
    have hx := hs x List.mem_cons_self
    have := len_sub (L := L) (ns := ns.erase x) nd.2 (fun k hk => (List.mem_erase_of_ne (fun z => nd.1 (by rw [← z]; exact hk))).mpr (hs k (List.mem_cons_of_mem _ hk)))
    rw [List.length_erase_of_mem hx] at this
    have h0 := List.length_pos_of_mem hx
    rw [List.length_cons]
    omega
/-! ### a tuple, compared with the empty one -/
end My
namespace My
open PySem PySem.Spec PyProof.Rows L2
/-! ### deals -/
theorem cut_take {xs : List V} {k : Nat} : cutV xs none (some (k : Int)) = xs.take k := by
  unfold cutV
  rw [HT.sIx_none, show HT.sIx xs.length xs.length (some (k : Int)) = min k xs.length from HT.sIx_nat _ _ k, List.drop_zero, Nat.sub_zero]
  by_cases h : k ≤ xs.length
  · rw [Nat.min_eq_left h]
  · rw [Nat.min_eq_right (by omega), List.take_length, List.take_of_length_le (by omega)]
def spDrawSizes (K : PySem.W.Frag) : Sp := fun vs H Q _ => ∃ (p c : Addr) (n0 n k : Nat), vs = [.ref p, .int n, .int k] ∧ Pen H p c n0 ∧ n0 ≤ 800000 ∧ n ≤ 100 ∧ k ≤ n ∧ 1 ≤ k ∧
  ∀ (q : Addr) (r : List Int) H', (∀ x ∈ r, 1 ≤ x ∧ x ≤ n) → r.sum = n → r.length = k → Pen H' p c (n0 + n) → Same (wo p H) (wo p H') → SqT K (wo p H') q (r.map V.int) → Q (.ref q) H'
/-- a deal of n places -/
def DealOk (n : Nat) (rs ss : List Int) : Prop := rs.Nodup ∧ (∀ x ∈ rs, 0 ≤ x ∧ x < n) ∧ 1 ≤ rs.length ∧ ss.length = rs.length ∧ (∀ x ∈ ss, 1 ≤ x ∧ x ≤ n) ∧ ss.sum = n
theorem Dq.ofTI {K : PySem.W.Frag} {H : Hp} {a : Addr} {ns : List Int} (h : SqT K H a (ns.map V.int)) : Dq K H (.ref a) (My.tI ns) := .tup h (DqAll.ints ns)
/-- at least two items, the first read by its place -/
theorem Dq.first {K : PySem.W.Frag} {H : Hp} {v : V} {n : Int} {e : PyData} (h : Dq K H v (.tuple [.int n, e])) : ∃ a x, v = .ref a ∧ SqT K H a [.int n, x] ∧ Dq K H x e := by
  obtain ⟨a, xs, rfl, hT, hxs⟩ := h.un_tup
  cases hxs with
  | cons h1 hxs =>
  cases hxs with
  | cons h2 hxs =>
  cases hxs
  cases h1
  exact ⟨a, _, rfl, hT, h2⟩
end My
set_option Elab.async false
set_option linter.all false
set_option maxRecDepth 100000
set_option maxHeartbeats 4000000
namespace My
open PySem PySem.Spec PyProof.Rows L2
/-! ### what deals are -/
def intsOf : List PyData → List Int
  | [] => []
  | .int i :: ds => i :: intsOf ds
  | _ :: ds => intsOf ds
theorem DqAll.intsOf {K : PySem.W.Frag} {H : Hp} : ∀ {ds : List PyData} {xs : List V}, DqAll K H xs ds → IntsD ds → xs = (My.intsOf ds).map V.int
  | [], _, .nil, _ => rfl
  | d :: ds, _, .cons h t, hi => by
    obtain ⟨i, rfl⟩ := hi d List.mem_cons_self
    cases h
    rw [DqAll.intsOf t (fun e he => hi e (List.mem_cons_of_mem _ he))]
    rfl
theorem intsOf_map : ∀ ns : List Int, intsOf (ns.map PyData.int) = ns
  | [] => rfl
  | n :: ns => congrArg (n :: ·) (intsOf_map ns)
theorem intsD_map (ns : List Int) : IntsD (ns.map PyData.int) := fun d hd => by
  obtain ⟨y, _, rfl⟩ := List.mem_map.mp hd
  exact ⟨y, rfl⟩
theorem dInt_iff {a b : Int} {p : Prop} [Decidable p] (h : a = b ↔ p) : decide (V.int a = V.int b) = decide p := by
  rw [decide_eq_decide]
  constructor
  · intro z
    exact h.mp (V.int.inj z)
  · intro z
    rw [h.mpr z]
end My
set_option Elab.async false
set_option linter.all false
set_option maxRecDepth 100000
set_option maxHeartbeats 4000000
namespace My
open PySem PySem.Spec PyProof.Rows L2
/-! ### sorted lists of whole numbers -/
def sortI (L : List Int) : List Int := L.mergeSort fun a b => decide (a ≤ b)
theorem sortI_perm (L : List Int) : (sortI L).Perm L := List.mergeSort_perm _ _
theorem sortI_le (L : List Int) : (sortI L).Pairwise (· ≤ ·) := by
  have := List.pairwise_mergeSort (le := fun a b : Int => decide (a ≤ b)) (fun a b c h1 h2 => by
    rw [decide_eq_true_eq] at *
    omega) (fun a b => by
    rw [Bool.or_eq_true, decide_eq_true_eq, decide_eq_true_eq]
    omega) L
  exact this.imp fun h => of_decide_eq_true h
theorem sortI_eq {L r : List Int} (h : r.Perm L) (p : r.Pairwise (· ≤ ·)) : r = sortI L :=
  List.Perm.eq_of_pairwise (le := fun a b : Int => a ≤ b) (fun a b _ _ h1 h2 => Int.le_antisymm h1 h2) p (sortI_le L) (h.trans (sortI_perm L).symm)
theorem lt_nodup {r : List Int} (p : r.Pairwise (· < ·)) : r.Nodup := p.imp fun h => by omega
theorem perm_mem : ∀ {L R : List Int}, L.Nodup → R.Nodup → (∀ x, x ∈ L ↔ x ∈ R) → L.Perm R
  | [], R, _, _, h => by
    cases R with
    | nil => exact .nil
    | cons a R => exact absurd ((h a).mpr List.mem_cons_self) (by simp)
  | a :: L, R, n1, n2, h => by
    have hm : a ∈ R := (h a).mp List.mem_cons_self
    have n1' := List.nodup_cons.mp n1
    have pr := List.perm_cons_erase hm
    have n3 := pr.nodup_iff.mp n2
    have n3' := List.nodup_cons.mp n3
    refine (List.Perm.cons a (perm_mem n1'.2 n3'.2 fun x => ?_)).trans pr.symm
    constructor
    · intro hx
      have hne : x ≠ a := fun z => n1'.1 (by rw [← z]; exact hx)
      exact (List.mem_erase_of_ne hne).mpr ((h x).mp (List.mem_cons_of_mem _ hx))
    · intro hx
      have hne : x ≠ a := fun z => n3'.1 (z ▸ hx)
      rcases List.mem_cons.mp ((h x).mpr (List.mem_of_mem_erase hx)) with z | z
      · exact absurd z hne
      · exact z
theorem lt_eq {L R : List Int} (p : L.Pairwise (· < ·)) (q : R.Pairwise (· < ·)) (h : ∀ x, x ∈ L ↔ x ∈ R) : L = R :=
  List.Perm.eq_of_pairwise (le := fun a b : Int => a < b) (fun a b _ _ h1 h2 => by omega) p q (perm_mem (lt_nodup p) (lt_nodup q) h)
/-! ### neighbours -/
def nearL (T : List (Int × Int)) (x : Int) : List Int := ((T.filter fun t => decide (t.2 = x)).map (·.1)) ++ ((T.filter fun t => decide (t.1 = x)).map (·.2))
def nearS (T : List (Int × Int)) (x : Int) : List Int := sortI (nearL T x)
/-- as the law gathers them -/
def nearF (T : List (Int × Int)) (x : Int) : List Int := T.flatMap fun t => (if t.1 = x then [t.2] else []) ++ (if t.2 = x then [t.1] else [])
theorem nearF_perm (x : Int) : ∀ T : List (Int × Int), (nearF T x).Perm (nearL T x)
  | [] => .nil
  | t :: T => by
    have ih := nearF_perm x T
    unfold nearF nearL at *
    rw [List.flatMap_cons]
    refine (List.Perm.append_left _ ih).trans ?_
    by_cases h1 : t.1 = x <;> by_cases h2 : t.2 = x
    · rw [List.filter_cons_of_pos (by simpa using h2), List.filter_cons_of_pos (by simpa using h1), if_pos h1, if_pos h2]
      refine (List.perm_iff_count).mpr fun a => ?_
      simp [List.count_append, List.count_cons]
      omega
    · rw [List.filter_cons_of_neg (by simpa using h2), List.filter_cons_of_pos (by simpa using h1), if_pos h1, if_neg h2]
      refine (List.perm_iff_count).mpr fun a => ?_
      simp [List.count_append, List.count_cons]
      omega
    · rw [List.filter_cons_of_pos (by simpa using h2), List.filter_cons_of_neg (by simpa using h1), if_neg h1, if_pos h2]
      refine (List.perm_iff_count).mpr fun a => ?_
      simp [List.count_append, List.count_cons]
      try omega
    · rw [List.filter_cons_of_neg (by simpa using h2), List.filter_cons_of_neg (by simpa using h1), if_neg h1, if_neg h2]
      exact .refl _
theorem mem_nearS {T : List (Int × Int)} {x y : Int} : y ∈ nearS T x ↔ ∃ t ∈ T, (t.2 = x ∧ t.1 = y) ∨ (t.1 = x ∧ t.2 = y) := by
  unfold nearS
  rw [(sortI_perm _).mem_iff]
  unfold nearL
  rw [List.mem_append, List.mem_map, List.mem_map]
  constructor
  · rintro (⟨t, ht, e⟩ | ⟨t, ht, e⟩)
    · obtain ⟨h1, h2⟩ := List.mem_filter.mp ht
      exact ⟨t, h1, .inl ⟨of_decide_eq_true h2, e⟩⟩
    · obtain ⟨h1, h2⟩ := List.mem_filter.mp ht
      exact ⟨t, h1, .inr ⟨of_decide_eq_true h2, e⟩⟩
  · rintro ⟨t, ht, ⟨h, e⟩ | ⟨h, e⟩⟩
    · exact .inl ⟨t, List.mem_filter.mpr ⟨ht, decide_eq_true h⟩, e⟩
    · exact .inr ⟨t, List.mem_filter.mpr ⟨ht, decide_eq_true h⟩, e⟩
theorem nearF_len (x : Int) : ∀ T : List (Int × Int), (nearF T x).length ≤ 2 * T.length
  | [] => Nat.zero_le _
  | t :: T => by
    have ih := nearF_len x T
    unfold nearF at *
    rw [List.flatMap_cons, List.length_append, List.length_append, List.length_cons]
    have h1 : (if t.1 = x then [t.2] else []).length ≤ 1 := by split <;> simp
    have h2 : (if t.2 = x then [t.1] else []).length ≤ 1 := by split <;> simp
    omega
theorem nearS_len {T : List (Int × Int)} {x : Int} : (nearS T x).length ≤ 2 * T.length := by
  unfold nearS
  rw [(sortI_perm _).length_eq, ← (nearF_perm x T).length_eq]
  exact nearF_len x T
theorem nearS_bd {T : List (Int × Int)} {n : Nat} {x y : Int} (h : WebOk n T) (hy : y ∈ nearS T x) : 0 ≤ y ∧ y < n := by
  obtain ⟨t, ht, ⟨_, e⟩ | ⟨_, e⟩⟩ := mem_nearS.mp hy
  · have := h.2 t ht
    omega
  · have := h.2 t ht
    omega
/-! ### what is reached, and pieces -/
inductive Reach (T : List (Int × Int)) (lot : List Int) (s : Int) : Int → Prop
  | base : Reach T lot s s
  | step {x y : Int} : Reach T lot s x → y ∈ nearS T x → y ∈ lot → Reach T lot s y
def Closed (T : List (Int × Int)) (lot F : List Int) : Prop := ∀ x ∈ F, ∀ y ∈ nearS T x, y ∈ lot → y ∈ F
theorem reach_closed {T : List (Int × Int)} {lot F : List Int} {s : Int} (hs : s ∈ F) (hc : Closed T lot F) {x : Int} (h : Reach T lot s x) : x ∈ F := by
  induction h with
  | base => exact hs
  | step _ h1 h2 ih => exact hc _ ih _ h1 h2
def PieceIs (T : List (Int × Int)) (lot : List Int) (s : Int) (r : List Int) : Prop := r.Pairwise (· < ·) ∧ ∀ x, x ∈ r ↔ Reach T lot s x
theorem PieceIs.eq {T : List (Int × Int)} {lot r r' : List Int} {s : Int} (h : PieceIs T lot s r) (g : PieceIs T lot s r') : r = r' :=
  lt_eq h.1 g.1 fun x => (h.2 x).trans (g.2 x).symm
/-- one more round of the law's walk -/
theorem round_next {T : List (Int × Int)} {lot F G : List Int} {s : Int} {t : Nat} (hF : F.Nodup) (hi : Closed T lot F ∨ t + 1 ≤ F.length) (hR : ∀ x ∈ F, Reach T lot s x)
    (hG : G.Nodup) (h1 : ∀ x ∈ F, x ∈ G) (h2 : ∀ x ∈ F, ∀ y ∈ nearS T x, y ∈ lot → y ∈ G) (h3 : ∀ y ∈ G, y ∈ F ∨ ∃ x ∈ F, y ∈ nearS T x ∧ y ∈ lot) : Closed T lot G ∨ t + 2 ≤ G.length := by
  by_cases hc : Closed T lot F
  · left
    have e : ∀ y, y ∈ G → y ∈ F := fun y hy => by
      rcases h3 y hy with h | ⟨x, hx, hn, hl⟩
      · exact h
      · exact hc x hx y hn hl
    exact fun x hx y hy hl => h1 y (hc x (e x hx) y hy hl)
  · right
    have ⟨x, hx, y, hy, hl, hn⟩ : ∃ x, x ∈ F ∧ ∃ y, y ∈ nearS T x ∧ y ∈ lot ∧ y ∉ F := by
      apply Classical.byContradiction
      intro z
      exact hc fun x hx y hy hl => Classical.byContradiction fun w => z ⟨x, hx, y, hy, hl, w⟩
    have hlen : t + 1 ≤ F.length := by
      rcases hi with h | h
      · exact absurd h hc
      · exact h
    have := len_sub (L := y :: F) (ns := G) (List.nodup_cons.mpr ⟨hn, hF⟩) (fun k hk => by
      rcases List.mem_cons.mp hk with rfl | hk
      · exact h2 x hx _ hy hl
      · exact h1 k hk)
    rw [List.length_cons] at this
    omega
theorem round_end {T : List (Int × Int)} {lot F : List Int} {s : Int} (hF : F.Nodup) (hi : Closed T lot F ∨ lot.length + 1 ≤ F.length) (hsub : ∀ x ∈ F, x = s ∨ x ∈ lot) : Closed T lot F := by
  rcases hi with h | h
  · exact h
  · intro x hx y hy hl
    apply Classical.byContradiction
    intro hn
    have := len_sub (L := y :: F) (ns := s :: lot) (List.nodup_cons.mpr ⟨hn, hF⟩) (fun k hk => by
      rcases List.mem_cons.mp hk with rfl | hk
      · exact List.mem_cons_of_mem _ hl
      · rcases hsub k hk with rfl | h
        · exact List.mem_cons_self
        · exact List.mem_cons_of_mem _ h)
    rw [List.length_cons, List.length_cons] at this
    omega
theorem reach_sub {T : List (Int × Int)} {lot : List Int} {s x : Int} (h : Reach T lot s x) : x = s ∨ x ∈ lot := by
  cases h with
  | base => exact .inl rfl
  | step _ _ h => exact .inr h
/-! ### promises -/
def spNbr (K : PySem.W.Frag) : Sp := fun vs H Q _ => ∃ (v : V) (n : Int) (T : List (Int × Int)) (x : Int), vs = [v, .int x] ∧ Dq K H v (webD n T) ∧ T.length ≤ 1000 ∧
  ∀ (q : Addr) H', Same H H' → SqT K H' q ((nearS T x).map V.int) → Q (.ref q) H'
def spPiece (K : PySem.W.Frag) : Sp := fun vs H Q _ => ∃ (v : V) (n : Nat) (T : List (Int × Int)) (lq : Addr) (lot : List Int) (s : Int), vs = [v, .ref lq, .int s] ∧ Dq K H v (webD n T) ∧ WebOk n T ∧ 1 ≤ n ∧ n ≤ 12 ∧ SqT K H lq (lot.map V.int) ∧ lot.length ≤ 12 ∧ (∀ x ∈ lot, 0 ≤ x ∧ x < n) ∧ 0 ≤ s ∧ s < n ∧
  ∀ (q : Addr) (r : List Int) H', PieceIs T lot s r → Same H H' → SqT K H' q (r.map V.int) → Q (.ref q) H'
end My
namespace My
open PySem PySem.Spec PyProof.Rows L2
/-- a web's two parts, its ties one by one -/
theorem Dq.web {K : PySem.W.Frag} {H : Hp} {v : V} {n : Int} {T : List (Int × Int)} (h : Dq K H v (webD n T)) : ∃ (wa ta : Addr) (ts : List V), v = .ref wa ∧ SqT K H wa [.int n, .ref ta] ∧ SqT K H ta ts ∧ ts.length = T.length ∧
    ∀ (i : Nat) (x : V), ts[i]? = some x → ∃ (a b : Int) (t : Addr), T[i]? = some (a, b) ∧ x = .ref t ∧ SqT K H t [.int a, .int b] := by
  obtain ⟨wa, xs, rfl, hT, hxs⟩ := Dq.un_tup h
  cases hxs with
  | cons h1 hxs =>
  cases hxs with
  | cons h2 hxs =>
  cases hxs
  cases h1
  obtain ⟨ta, ts, rfl, hT2, hts⟩ := h2.un_tup
  refine ⟨wa, ta, ts, rfl, hT, hT2, by rw [hts.len, List.length_map], fun i x ex => ?_⟩
  obtain ⟨d, ed, hd⟩ := hts.get ex
  rw [List.getElem?_map] at ed
  cases e : T[i]? with
  | none => rw [e] at ed; cases ed
  | some t =>
    rw [e] at ed
    cases ed
    obtain ⟨tt, zs, rfl, hT3, hz⟩ := hd.un_tup
    cases hz with
    | cons g1 hz =>
    cases hz with
    | cons g2 hz =>
    cases hz
    cases g1
    cases g2
    exact ⟨t.1, t.2, tt, rfl, rfl, hT3⟩
end My
namespace My
open PySem PySem.Spec PyProof.Rows L2
theorem inV_ints : ∀ {L : List Int} {y : Int}, inV (.int y) (L.map V.int) = decide (y ∈ L)
  | [], y => by simp [inV]
  | a :: L, y => by
    have ih := inV_ints (L := L) (y := y)
    have e : inV (.int y) ((a :: L).map V.int) = (eqV (.int a) (.int y) || inV (.int y) (L.map V.int)) := rfl
    rw [e, ih]
    have e2 : eqV (.int a) (.int y) = (a == y) := rfl
    rw [e2, Bool.eq_iff_iff]
    simp only [Bool.or_eq_true, beq_iff_eq, decide_eq_true_eq, List.mem_cons]
    constructor
    · rintro (h | h)
      · exact .inl h.symm
      · exact .inr h
    · rintro (h | h)
      · exact .inl h.symm
      · exact .inr h
theorem flat_ints {L : List Int} : (L.map V.int).all flatV = true := by
  rw [List.all_map]
  exact List.all_eq_true.mpr fun _ _ => rfl
/-- at a the neighbours of each place -/
def NearAt (K : PySem.W.Frag) (H : Hp) (a : Addr) (n : Nat) (T : List (Int × Int)) : Prop := ∃ us : List V, SqL K H a us ∧ us.length = n ∧ ∀ (i : Nat) (x : V), us[i]? = some x → ∃ t, x = .ref t ∧ SqT K H t ((nearS T i).map V.int)
theorem NearAt.same {K : PySem.W.Frag} {H H' : Hp} {a : Addr} {n : Nat} {T : List (Int × Int)} (s : Same H H') (h : NearAt K H a n T) : NearAt K H' a n T := by
  obtain ⟨us, h1, h2, h3⟩ := h
  refine ⟨us, s.seq h1, h2, fun i x e => ?_⟩
  obtain ⟨t, e1, e2⟩ := h3 i x e
  exact ⟨t, e1, My.Same.sqt s e2⟩
theorem len_bd {n : Nat} {rs : List Int} (nd : rs.Nodup) (h : ∀ x ∈ rs, 0 ≤ x ∧ x < n) : rs.length ≤ n := by
  have := len_sub nd (ns := ups n) (fun k hk => mem_ups.mpr (h k hk))
  rw [ups_len] at this
  exact this
end My
namespace My
open PySem PySem.Spec PyProof.Rows L2
theorem map_snoc {L : List Int} {y : Int} : L.map V.int ++ [V.int y] = (L ++ [y]).map V.int := by
  rw [List.map_append]
  rfl
end My
set_option Elab.async false
set_option linter.all false
set_option maxRecDepth 100000
set_option maxHeartbeats 4000000
namespace My
open PySem PySem.Spec PyProof.Rows L2
/-! ### enumerate(t), t a tuple -/
/-! ### tuple * int, 1 too -/
end My
set_option Elab.async false
set_option linter.all false
set_option maxRecDepth 100000
set_option maxHeartbeats 4000000
namespace My
open PySem PySem.Spec PyProof.Rows L2
/-! ### more of displays: repeated tuples, lengths, ranges -/
theorem cutD_take {ds : List PyData} {k : Nat} : cutD ds none (some (k : Int)) = ds.take k := by
  unfold cutD
  rw [HT.sIx_none, show HT.sIx ds.length ds.length (some (k : Int)) = min k ds.length from HT.sIx_nat _ _ k, List.drop_zero, Nat.sub_zero]
  by_cases h : k ≤ ds.length
  · rw [Nat.min_eq_left h]
  · rw [Nat.min_eq_right (by omega), List.take_length, List.take_of_length_le (by omega)]
/-- as SmL, and the list is nowhere in its data -/
def SmO (K : PySem.W.Frag) (av : List Addr) (H : Hp) (a : Addr) (W D m : Nat) : Prop := a ∉ av ∧ ∃ (xs : List V) (ds : List PyData), H a = some (.lst xs) ∧ DqAll K (wos (a :: av) H) xs ds ∧ (∀ d ∈ ds, Sm W D d) ∧ ds.length ≤ m
theorem wos_fresh {av : List Addr} {z : Addr} {H H' : Hp} (hz : H z = none) (s : Same H H') : Same (wos av H) (wos (z :: av) H') := fun b o e => by
  obtain ⟨n, e⟩ := wos_some e
  have nb : b ≠ z := fun y => by
    rw [y, hz] at e
    cases e
  rw [wos_in (by rw [List.mem_cons, not_or]; exact ⟨nb, n⟩)]
  exact s _ _ e
theorem wos_less {av : List Addr} {z : Addr} {H : Hp} : Same (wos (z :: av) H) (wos av H) := fun b o e => by
  obtain ⟨n, e⟩ := wos_some e
  rw [List.mem_cons, not_or] at n
  rw [wos_in n.2]
  exact e
theorem wos_put {av : List Addr} {z : Addr} {H : Hp} {o : HO} : Same (wos (z :: av) H) (wos (z :: av) (upd H z o)) := fun b o e => by
  obtain ⟨n, e⟩ := wos_some e
  rw [wos_in n, upd_ne (fun y => n (by rw [y]; exact List.mem_cons_self))]
  exact e
end My
set_option Elab.async false
set_option linter.all false
set_option maxRecDepth 100000
set_option maxHeartbeats 4000000
namespace My
open PySem PySem.Spec PyProof.Rows L2
/-! ### set(l), l a list of whole numbers, as a set that can be walked -/
section
variable {P : Program} {w : World} {A : Around} {E : Value → Shared → Prop} {s : Shared} {a : Addr} {S : Int → Bool} {n : Nat}
theorem call_set_lstI {l : Addr} {items : Array Value} (ns : List Int) {Q : Value → Shared → Prop} (hh : A.handled = none) (hl : s.heap.IsList l items) (hit : IntsAre items.toList ns) (hb : ns.length + 1 < scanBound)
    (h : ∀ (h' : Heap) (tk c : Nat), SetR w h' s.heap.objs.size (fun j => decide (j ∈ ns)) c → c ≤ ns.length → (∀ b o, s.heap.get? b = some o → h'.get? b = some o) → Q (.ref s.heap.objs.size) { s with heap := h', toks := tk }) :
    wpAny (model P w) A (call (.type "set") [.ref l]) Q E s := by
  have hisz : items.size = ns.length := by
    have q := IntsAre.length hit
    rw [Array.length_toList] at q
    exact q
  obtain ⟨c, tl, hmro⟩ := F.called_set.mro
  have hmade := F.called_set.made
  have hsub := F.called_set.sub
  refine wpAny_call (codeAny_of_tree ?_)
  show wpAny _ _ (callAny (.type "set") _) _ _ _
  refine wpAny_pure ⟨Code.quiet_builtin _ (by decide +kernel), codeAny_builtin F.entry_type_call ?_⟩
  rw [Around.under_plain (weight_type_call_type "set" [.ref l] []) rfl]
  have h1 := F.called_set.notType
  have h2 := F.called_set.canCreate
  have hct := F.typeCall_set_1 (.ref l)
  repeat (any_goals (first | assumption | wp_step))

  refine codeAny_mono (code_set_led1 (.ref l) (E := E) (Q₁ := fun obj s₁ => obj = .ref s.heap.objs.size ∧ s₁ = { s with heap := s.heap.push { cls := .type "set", dict := none, data := .set #[] 0 (.fresh 0 0 (!w.params.followText "set-order")) } }) ⟨rfl, rfl⟩) fun r s₁ hr => ?_
  cases r with
  | error e => exact hr
  | ok fl =>
    cases fl with
    | ret obj =>
      obtain ⟨rfl, rfl⟩ := hr
      have hS : (s.heap.push { cls := .type "set", dict := none, data := .set #[] 0 (.fresh 0 0 (!w.params.followText "set-order")) }).get? s.heap.objs.size = some { cls := .type "set", dict := none, data := .set #[] 0 (.fresh 0 0 (!w.params.followText "set-order")) } := Heap.get?_push_size _ rfl
      have hT : Shared.TypeIs { s with heap := s.heap.push { cls := .type "set", dict := none, data := .set #[] 0 (.fresh 0 0 (!w.params.followText "set-order")) } } (.ref s.heap.objs.size) "set" := ⟨_, hS, rfl⟩
      have hli := F.called_set.init.lookup
      have hbi := F.called_set.init.bind (.ref s.heap.objs.size)
      repeat (any_goals (first | assumption | wp_step))

      refine codeAny_mono (codeAny_call_builtin (R := wants (fun r s₂ => r = .none ∧ ∃ h' tk c, s₂ = { s with heap := h', toks := tk } ∧ SetR w h' s.heap.objs.size (fun j => decide (j ∈ ns)) c ∧ c ≤ ns.length ∧
          (∀ b o, s.heap.get? b = some o → h'.get? b = some o)) E) F.called_set.init.plain F.entry_set_init (check_set_init_1 hT ?_)) fun r₂ s₂ hr₂ => ?_
      · obtain ⟨ol, hol, hcl, nl, hdl⟩ := hl
        obtain ⟨ocls, odict, odata, oslots⟩ := ol
        simp only at hcl hdl
        subst hcl; subst hdl
        have hol' : (s.heap.push { cls := .type "set", dict := none, data := .set #[] 0 (.fresh 0 0 (!w.params.followText "set-order")) }).get? l = some { cls := .type "list", dict := odict, data := .seq items nl, slots := oslots } := Heap.get?_push_of_some _ hol
        have hsls := F.sub_list_set
        have hslf := F.sub_list_frozenset
        have hne : (Value.type "list" == Value.type "dict") = false := by decide
        have hl1 : (s.heap.push { cls := .type "set", dict := none, data := .set #[] 0 (.fresh 0 0 (!w.params.followText "set-order")) }).IsList l items := ⟨_, hol', rfl, nl, rfl⟩
        unfold Builtin.«set.__init__» noKeywords Builtin.Frozenset.updateFrom
        generalize hPI : pyIter = PI
        wp_walk
        subst hPI

        refine wpAny_pyIter_list hl1 ?_
        refine wpAny_bind (wpAny_runValue ?_)
        have hlS : l < s.heap.objs.size := Heap.lt_size hol
        have hh3 : A.in1.in1.in1.handled = none := by simp [hh]
        have hz1 : (s.heap.push { cls := .type "set", dict := none, data := .set #[] 0 (.fresh 0 0 (!w.params.followText "set-order")) }).objs.size = s.heap.objs.size + 1 := Heap.size_push ..
        have hneI : l ≠ (s.heap.push { cls := .type "set", dict := none, data := .set #[] 0 (.fresh 0 0 (!w.params.followText "set-order")) }).objs.size := by
          rw [Heap.size_push]; exact Nat.ne_of_lt (Nat.lt_succ_of_lt hlS)
        have hSf : s.heap.objs.size ∉ [(s.heap.push { cls := .type "set", dict := none, data := .set #[] 0 (.fresh 0 0 (!w.params.followText "set-order")) }).objs.size, l] := by
          rw [Heap.size_push]; simp only [List.mem_cons, List.mem_singleton, List.not_mem_nil, or_false, not_or]
          exact ⟨Nat.ne_of_lt (Nat.lt_succ_self _), Nat.ne_of_gt hlS⟩
        have hval : ∀ (i : Nat) (v : Value), items[i]? = some v → ∃ k t, ns[i]? = some k ∧ v = .int k t := fun i v hv => by
          have hi : i < ns.length := by rw [← hisz]; exact (Array.getElem?_eq_some_iff.mp hv).1
          obtain ⟨t, e⟩ := PyProof.Rows.IntsAre.int_at hit i v (by rw [Array.getElem?_toList]; exact hv)
          refine ⟨ns[i], t, List.getElem?_eq_getElem hi, ?_⟩
          rw [e, List.getD_eq_getElem?_getD, List.getElem?_eq_getElem hi] <;> rfl
        refine set_update_ints ((Walks.list hh3 _ l hneI items).toS) s.heap.objs.size
          hSf ns hisz hb hval (items.size - 0) 0 _ (by omega) (Nat.zero_le _)
          ⟨⟨_, Heap.get?_push_size _ rfl, rfl, rfl⟩, (hl1.push _)⟩ ?hS0 ?hR
        case hS0 =>
          have hget : ((s.heap.push { cls := .type "set", dict := none, data := .set #[] 0 (.fresh 0 0 (!w.params.followText "set-order")) }).push { cls := .type "list_iterator", data := .fields #[.ref l, .int 0 0] }).get? s.heap.objs.size
              = some { cls := .type "set", dict := none, data := .set #[] 0 (.fresh 0 0 (!w.params.followText "set-order")) } := Heap.get?_push_of_some _ hS
          exact ⟨0, Nat.le_refl 0, setR_new_at hget⟩
        case hR =>
          intro s' c' hm hc' hS'
          obtain ⟨h', g2, d', tk', os'⟩ := s'
          have eg : g2 = s.gens := hm.gens
          have ed : d' = s.drawn := hm.drawn
          have eo : os' = s.os := hm.os
          subst eg; subst ed; subst eo
          show wpAny _ _ _ _ _ _
          refine wpAny_pure ?_
          show wpAny _ _ (ret Value.none) _ _ _
          rw [hisz] at hc'
          refine wpAny_pure ⟨rfl, h', tk', c', rfl, hS', hc', fun b o e => ?_⟩
          have hb0 : b < s.heap.objs.size := Heap.lt_size e
          have hb1 : b ≠ s.heap.objs.size := Nat.ne_of_lt hb0
          have hb2 : b ≠ (s.heap.push { cls := .type "set", dict := none, data := .set #[] 0 (.fresh 0 0 (!w.params.followText "set-order")) }).objs.size := by
            rw [Heap.size_push]; exact Nat.ne_of_lt (Nat.lt_succ_of_lt hb0)
          exact hm.heap b o (by simp only [List.mem_cons, List.mem_singleton, List.not_mem_nil, or_false, not_or]; exact ⟨hb1, hb2⟩) (Heap.get?_push_of_some _ (Heap.get?_push_of_some _ e))

      · cases r₂ with
        | error e => exact hr₂
        | ok fl₂ =>
          cases fl₂ with
          | ret r =>
            obtain ⟨rfl, h', tk, c', rfl, hS', hc', hk'⟩ := hr₂
            repeat (any_goals (first | assumption | wp_step))
            exact h _ _ _ hS' hc' hk'
          | _ => exact hr₂.elim
    | _ => exact hr.elim
end
def rSetOfL (K : PySem.W.Frag) (w : World) : List V → Hp → VK → Prop := fun xs H Q => ∃ (l : Addr) (ns : List Int), xs = [V.ref l] ∧ SqL K H l (ns.map V.int) ∧ ns.length ≤ 4000 ∧
  ∀ a c, H a = none → c ≤ ns.length → (∀ L : List Int, (∀ k ∈ ns, k ∈ L) → c ≤ L.length) → Q (.ref a) (upd H a (SetO w a (fun j => decide (j ∈ ns)) c))
theorem cr_setOfL {X : Cx} (hc : X.calm = true) : CallR X (.type "set") (rSetOfL X.K X.w) := by
  intro pins s σ H vs us Q I r h
  obtain ⟨l, ns, rfl, hq, hl, q⟩ := h
  rw [Vals.ref1 r]
  obtain ⟨its, rv, pl, hz⟩ := I.list hq
  refine call_set_lstI ns (I.ok.hd hc) pl.isList (by simpa using ints_of_vals rv) (by unfold scanBound; omega) fun h' tk c R hcn k => ?_
  have hL : ∀ L : List Int, (∀ k ∈ ns, k ∈ L) → c ≤ L.length := fun L hs => by
    obtain ⟨o, es, ep, t, ho, hex, hdt, g, nd, hm2, hb, hf, hn, hr, hl2⟩ := R
    have h1 := len_sub nd (ns := L) (fun k hk => hs k (by
      have := (hm2 k).mpr hk
      rwa [decide_eq_true_eq] at this))
    rw [List.length_map, Array.length_toList, hn] at h1
    exact h1
  exact ⟨.ref s.heap.objs.size, _, I.laid (t' := tk) k (Nat.le_refl _) (setO_new R), rfl, q _ c (I.hok.fresh (Nat.le_refl _)) hcn hL⟩
theorem setOfL {X : Cx} (K : PySem.W.Frag) (w : World) (hc : X.calm = true) (h : X.K = K := by rfl) (hw : X.w = w := by rfl) : CallR X (.type "set") (rSetOfL K w) := by subst h hw; exact cr_setOfL hc
theorem sortedSet {X : Cx} (w : World) (hc : X.calm = true) (hw : X.w = w := by rfl) : CallR X (.builtin "sorted") (rSortedSet w) := by subst hw; exact cr_sortedSet hc
end My
set_option Elab.async false
set_option linter.all false
set_option maxRecDepth 100000
set_option maxHeartbeats 4000000
namespace My
open PySem PySem.Spec PyProof.Rows L2
/-! ### tuple.index, flat items -/
end My
set_option Elab.async false
set_option linter.all false
set_option maxRecDepth 100000
set_option maxHeartbeats 4000000
namespace My
open PySem PySem.Spec PyProof.Rows L2
/-! ### states -/
def ixOf : List Int → Int → Nat
  | [], _ => 0
  | a :: l, x => if a = x then 0 else ixOf l x + 1
theorem ixOf_at : ∀ {l : List Int} {x : Int}, x ∈ l → l[ixOf l x]? = some x ∧ ∀ m < ixOf l x, l[m]? ≠ some x
  | a :: l, x, h => by
    unfold ixOf
    by_cases e : a = x
    · rw [if_pos e]
      exact ⟨by rw [e]; rfl, fun m hm => absurd hm (Nat.not_lt_zero _)⟩
    · rw [if_neg e]
      have hx : x ∈ l := by
        rcases List.mem_cons.mp h with z | z
        · exact absurd z.symm e
        · exact z
      obtain ⟨h1, h2⟩ := ixOf_at hx
      refine ⟨by simpa using h1, fun m hm => ?_⟩
      cases m with
      | zero => simpa using e
      | succ m => simpa using h2 m (by omega)
theorem ixOf_lt {l : List Int} {x : Int} (h : x ∈ l) : ixOf l x < l.length := (List.getElem?_eq_some_iff.mp (ixOf_at h).1).1
theorem ups_succ (k : Nat) : ups (k + 1) = ups k ++ [(k : Int)] := by
  unfold ups
  rw [List.range_succ, List.map_append]
  rfl
def okP (ss : List Int) (i : Int) (p : Int) : Bool := match ss[p.toNat]? with
  | some z => decide (z = i) || decide (z = -1)
  | none => false
/-- the lot of the places of part i and of the open ones -/
def lotN (ss : List Int) (i : Int) : List Int := (ups ss.length).filter (okP ss i)
/-- two items, the first a tuple of ints -/
theorem Dq.pair {K : PySem.W.Frag} {H : Hp} {v : V} {rs : List Int} {e : PyData} (h : Dq K H v (.tuple [tI rs, e])) : ∃ (a ra : Addr) (x : V), v = .ref a ∧ SqT K H a [.ref ra, x] ∧ SqT K H ra (rs.map V.int) := by
  obtain ⟨a, xs, rfl, hT, hxs⟩ := Dq.un_tup h
  cases hxs with
  | cons h1 hxs =>
  cases hxs with
  | cons h2 hxs =>
  cases hxs
  obtain ⟨ra, ys, rfl, hT2, hys⟩ := Dq.un_tup (show Dq K H _ (.tuple (rs.map PyData.int)) from h1)
  have := DqAll.intsOf hys (intsD_map rs)
  rw [intsOf_map] at this
  subst this
  exact ⟨a, ra, _, rfl, hT, hT2⟩
end My
namespace My
open PySem PySem.Spec PyProof.Rows L2
end My
set_option Elab.async false
set_option linter.all false
set_option maxRecDepth 100000
set_option maxHeartbeats 4000000
namespace My
open PySem PySem.Spec PyProof.Rows L2
/-! ### tuples known to have no attributes of their own: their methods may be called -/
def Plain (H : Hp) (a : Addr) (xs : List V) : Prop := ∃ ob : Obj, H a = some (.frz ob (.tup xs)) ∧ ob.cls = .type "tuple" ∧ ob.dict = none
theorem Plain.same {H H' : Hp} {a : Addr} {xs : List V} (s : Same H H') (h : Plain H a xs) : Plain H' a xs := by
  obtain ⟨ob, e, h1, h2⟩ := h
  exact ⟨ob, s _ _ e, h1, h2⟩
theorem Plain.sqt {K : PySem.W.Frag} {H : Hp} {a : Addr} {xs : List V} (h : Plain H a xs) : SqT K H a xs := by
  obtain ⟨ob, e, _⟩ := h
  exact .inl (.inr ⟨ob, e⟩)
theorem Plain.wo {H : Hp} {p a : Addr} {xs : List V} (hp : ∃ us, H p = some (.lst us)) (h : Plain H a xs) : Plain (My.wo p H) a xs := by
  obtain ⟨ob, e, h1, h2⟩ := h
  obtain ⟨us, e2⟩ := hp
  refine ⟨ob, (wo_ne fun z => ?_).trans e, h1, h2⟩
  rw [z, e2] at e
  cases e
section
variable {X : Cx}
def rTupleOfF (K : PySem.W.Frag) : List V → Hp → VK → Prop := fun xs H Q => ∃ p ys, xs = [.ref p] ∧ SqL K H p ys ∧ ∀ l (ob : Obj), H l = none → ob.cls = .type "tuple" → ob.dict = none → Q (.ref l) (upd H l (.frz ob (.tup ys)))
theorem call_tupleOfF : CallR X (.type "tuple") (rTupleOfF X.K) := by
  intro pins s σ H xs us Q I r h
  obtain ⟨p, ys, rfl, hq, q⟩ := h
  obtain ⟨u, rfl, rx⟩ := vals1 r
  cases rx
  obtain ⟨its, r', pl, hz⟩ := I.list hq
  have hlen := r'.length
  refine call_tuple_list pl.isList (fun h' kp => ?_) (by simp only [List.size_toArray] <;> omega)
  have I1 : Inv X pins σ H { s with heap := h' } := I.kept (t' := s.toks) kp
  exact ⟨.ref h'.objs.size, _, I1.laid (t' := s.toks) (o := .frz { cls := .type "tuple", data := .seq its.toArray } (.tup ys)) (fun b o e => Heap.get?_push_of_some _ e) (Nat.le_refl _) ⟨Heap.get?_push_size _ rfl, hz, its, r', IsTup.new _ _⟩, rfl, q _ _ (I1.hok.fresh (Nat.le_refl _)) rfl rfl⟩
theorem tupleOfF (K : PySem.W.Frag) (h : X.K = K := by rfl) : CallR X (.type "tuple") (rTupleOfF K) := by subst h; exact call_tupleOfF
/-- o.m(..), o such a tuple -/
def tBF (r : V → List V → Hp → VK → Prop) (to : TE) (t : TA) : TE := fun σ H Q => to σ H fun x H1 => (∃ p ys, x = .ref p ∧ Plain H1 p ys) ∧ t σ H1 fun xs H2 => r x xs H2 Q
end
/-- as spOrder, the tuple plain -/
def spOrderF : Sp := fun vs H Q _ => ∃ (p c : Addr) (n k : Nat), vs = [.ref p, .int k] ∧ Pen H p c n ∧ n ≤ 900000 ∧ k ≤ 1000 ∧
  ∀ (q : Addr) (o : List Int) H', o.Perm (ups k) → Pen H' p c (n + k) → Same (wo p H) (wo p H') → wo p H q = none → Plain H' q (o.map V.int) → Q (.ref q) H'
theorem order_of {K : PySem.W.Frag} {vs : List V} {H : Hp} {Q : VK} {E : XK} (h : spOrder K vs H Q E) : spOrderF vs H Q E := by
  obtain ⟨p, c, n, k, rfl, pen, hn, hk, q⟩ := h
  exact ⟨p, c, n, k, rfl, pen, hn, hk, fun a o H' hp pen' s' n' pl => q a o H' hp pen' s' n' (pl.wo (Pen.lst pen')).sqt⟩
/-- a deal whose roots are a plain tuple -/
def DealAt (K : PySem.W.Frag) (H : Hp) (a : Addr) (rs ss : List Int) : Prop := ∃ (ra sa : Addr), SqT K H a [.ref ra, .ref sa] ∧ Plain H ra (rs.map V.int) ∧ SqT K H sa (ss.map V.int)
theorem DealAt.same {K : PySem.W.Frag} {H H' : Hp} {a : Addr} {rs ss : List Int} (s : Same H H') (h : DealAt K H a rs ss) : DealAt K H' a rs ss := by
  obtain ⟨ra, sa, h1, h2, h3⟩ := h
  exact ⟨ra, sa, My.Same.sqt s h1, h2.same s, My.Same.sqt s h3⟩
theorem DealAt.dq {K : PySem.W.Frag} {H : Hp} {a : Addr} {rs ss : List Int} (h : DealAt K H a rs ss) : Dq K H (.ref a) (.tuple [tI rs, tI ss]) := by
  obtain ⟨ra, sa, h1, h2, h3⟩ := h
  exact .tup h1 (.cons (Dq.ofTI h2.sqt) (.cons (Dq.ofTI h3) .nil))
end My
set_option Elab.async false
set_option linter.all false
set_option maxRecDepth 100000
set_option maxHeartbeats 4000000
namespace My
open PySem PySem.Spec PyProof.Rows L2
/-! ### lists of tuples of whole numbers, told one by one; drawn lists of whole numbers -/
theorem fit_tI {r : List Int} (h : r.length ≤ 100000) : Fit 2 (tI r) := ⟨by rw [List.length_map]; exact h, fun e he => by
  obtain ⟨y, _, rfl⟩ := List.mem_map.mp he
  trivial⟩
theorem fit_tIs {rms : List (List Int)} (h : rms.length ≤ 1000) (g : ∀ r ∈ rms, r.length ≤ 100000) : Fit 3 (.list (rms.map tI)) := ⟨by rw [List.length_map]; omega, fun e he => by
  obtain ⟨y, hy, rfl⟩ := List.mem_map.mp he
  exact fit_tI (g y hy)⟩
end My
namespace My
open PySem PySem.Spec PyProof.Rows L2
theorem PieceIs.len {T : List (Int × Int)} {lot r : List Int} {s : Int} {n : Nat} (h : PieceIs T lot s r) (hl : ∀ x ∈ lot, 0 ≤ x ∧ x < n) (s0 : 0 ≤ s) (s1 : s < n) : r.length ≤ n :=
  len_bd (lt_nodup h.1) fun x hx => by
    rcases reach_sub ((h.2 x).mp hx) with rfl | g
    · exact ⟨s0, s1⟩
    · exact hl x g
/-- the rooms of all parts -/
def Rooms (T : List (Int × Int)) (rs ss : List Int) (j : Nat) (r : List Int) : Prop := ∃ z, rs[j]? = some z ∧ PieceIs T (lotN ss j) z r
theorem Rooms.eq {T : List (Int × Int)} {rs ss : List Int} {A B : List (List Int)} (hl : A.length = B.length) (ha : ∀ (j : Nat) r, A[j]? = some r → Rooms T rs ss j r) (hb : ∀ (j : Nat) r, B[j]? = some r → Rooms T rs ss j r) : A = B := by
  refine List.ext_getElem? fun j => ?_
  cases ea : A[j]? with
  | none =>
    have : ¬ j < A.length := fun h => by
      rw [List.getElem?_eq_getElem h] at ea
      cases ea
    exact (List.getElem?_eq_none (by omega)).symm
  | some r =>
    have hj : j < A.length := (List.getElem?_eq_some_iff.mp ea).1
    have eb : B[j]? = some B[j] := List.getElem?_eq_getElem (by omega)
    obtain ⟨z, h1, h2⟩ := ha j r ea
    obtain ⟨z', g1, g2⟩ := hb j _ eb
    rw [h1] at g1
    cases g1
    rw [eb, h2.eq g2]
end My
set_option Elab.async false
set_option linter.all false
set_option maxRecDepth 100000
set_option maxHeartbeats 4000000
namespace My
open PySem PySem.Spec PyProof.Rows L2 SrtO
/-! ### sorted(..) of tuples of whole numbers, of any lengths but 0 -/
def IsTI (h : Heap) (v : Value) (ns : List Int) : Prop := ∃ (a : Addr) (o : Obj) (its : Array Value) (n : Nat), v = .ref a ∧ h.get? a = some o ∧ o.cls = .type "tuple" ∧ o.data = .seq its n ∧ IntsAre its.toList ns
theorem IsTI.keeps {h h' : Heap} {v : Value} {ns : List Int} (x : IsTI h v ns) (k : ∀ b o, h.get? b = some o → o.cls = .type "tuple" → h'.get? b = some o) : IsTI h' v ns := by
  obtain ⟨a, o, its, n, e, ho, hc, hd, hi⟩ := x
  exact ⟨a, o, its, n, e, k a o ho hc, hc, hd, hi⟩
section
variable {prog : Program} {w : World} {A : Around} {E : Value → Shared → Prop} {s : Shared}
theorem kat_ints {Q : Bool → Shared → Prop} {fin : Bool} : ∀ {xs ys : List Value} {ns ms : List Int} (i : Nat), IntsAre xs ns → IntsAre ys ms → fin = decide (ns.length < ms.length) → Q (HT.lexLt ns ms) s → PySem.W.KatLex prog w A true fin Q (xs.zip ys) i s
  | [], ys, [], ms, i, .nil, h2, hf, q => by
    refine PySem.W.kat_nil ?_
    have e : fin = HT.lexLt [] ms := by
      rw [hf]
      cases ms with
      | nil => rfl
      | cons m ms => exact decide_eq_true (by simp)
    rw [e]
    exact q
  | x :: xs, [], n :: ns, [], i, h1, .nil, hf, q => by
    refine PySem.W.kat_nil ?_
    have e : fin = HT.lexLt (n :: ns) [] := by
      rw [hf]
      exact decide_eq_false (by simp)
    rw [e]
    exact q
  | _ :: xs, _ :: ys, n :: ns, m :: ms, i, .cons _ t h1, .cons _ u h2, hf, q => by
    rw [List.zip_cons_cons]
    refine PySem.W.kat_cons (SeqAt.EqAt.int_int n t m u prog w _ _ ?_)
    refine PySem.W.kat_go (fun e => ?_) (fun e => ?_)
    · have ex : n = m := by simpa using e
      refine PySem.W.kat_yes (kat_ints (i + 1) h1 h2 (by rw [hf]; simp) ?_)
      rw [HT.lexLt_cons, if_pos ex] at q
      exact q
    · have ex : ¬ n = m := by simpa using e
      rw [HT.lexLt_cons, if_neg ex] at q
      exact PySem.W.kat_no (TS.oneLt_ints _ q)
theorem tup_cmp {vs : List Value} {k : Value → List Int} (hp : ∀ v ∈ vs, IsTI s.heap v (k v)) : Cmp prog w A s (tuples' true) (fun p => p.1 ∈ vs) (lt2 fun v u => HT.lexLt (k v) (k u)) := by
  intro p q hm hm'
  obtain ⟨a, o, its, n, e, ho, hc, hd, hi⟩ := hp _ hm
  obtain ⟨a', o', its', n', e', ho', hc', hd', hi'⟩ := hp _ hm'
  show wpAny (model prog w) A (keyLt' (tuples' true) p.1 q.1) (fun r s' => s' = s ∧ r = HT.lexLt (k p.1) (k q.1)) (fun _ _ => False) s
  rw [e, e'] at *
  refine PySem.W.kat_lt ho hd ho' hd' (kat_ints 0 hi hi' ?_ ⟨rfl, rfl⟩)
  have l1 := hi.length
  have l2 := hi'.length
  rw [Array.length_toList] at l1 l2
  rw [l1, l2]
theorem firsts_ti {h : Heap} {k : Value → List Int} : ∀ vs : List Value, (∀ v ∈ vs, IsTI h v (k v) ∧ k v ≠ []) → ∃ fs : List Value, PySem.W.KatTups h vs fs ∧ fs.length = vs.length ∧ ∀ f ∈ fs, ∃ x t, f = Value.int x t
  | [], _ => ⟨[], PySem.W.KatTups.nil, rfl, fun f hf => by simp at hf⟩
  | v :: vs, x => by
    obtain ⟨fs, kk, hl, hi⟩ := firsts_ti vs fun u hu => x u (List.mem_cons_of_mem _ hu)
    obtain ⟨⟨a, o, its, n, rfl, ho, hc, hd, hI⟩, hne⟩ := x v List.mem_cons_self
    cases hk : k (.ref a) with
    | nil => exact absurd hk hne
    | cons z zs =>
      rw [hk] at hI
      obtain ⟨its⟩ := its
      have hI : IntsAre its (z :: zs) := hI
      cases hI with
      | cons _ t r =>
        refine ⟨.int z t :: fs, PySem.W.KatTups.cons ho hc hd rfl kk, by rw [List.length_cons, List.length_cons, hl], fun f hf => ?_⟩
        rcases List.mem_cons.mp hf with rfl | hf
        · exact ⟨z, t, rfl⟩
        · exact hi f hf
theorem ti_sortable {a : Addr} {vs : List Value} {k : Value → List Int} (h0 : 0 < vs.length) (hp : ∀ v ∈ vs, IsTI s.heap v (k v) ∧ k v ≠ []) (ha : ∀ o, s.heap.get? a = some o → o.cls ≠ .type "tuple") : SortableO prog w A s a vs fun v u => HT.lexLt (k v) (k u) := by
  intro h' keep
  have hp' : ∀ v ∈ vs, IsTI h' v (k v) ∧ k v ≠ [] := fun v hm => ⟨(hp v hm).1.keeps fun b o e c => keep b o (fun z => by subst z; exact ha o e c) e, (hp v hm).2⟩
  obtain ⟨fs, h1, h2, h3⟩ := firsts_ti vs hp'
  refine ⟨tuples' true, fun Q E hq => ?_, tup_cmp fun v hv => (hp' v hv).1⟩
  refine PySem.W.kat_kind (T := .type "int") h1 (by omega) (fun f hm => ?_) (by rfl) ?_
  · obtain ⟨x, t, rfl⟩ := h3 f hm
    exact PySem.W.Looks.now
  · have e : (Value.type "int" != Value.type "tuple") = true := by first | decide +kernel | rfl | decide
    rw [e]
    exact hq
end
/-! ### the order of lists of whole numbers -/
theorem lex_total : ∀ {a b : List Int}, HT.lexLt a b = false → HT.lexLt b a = false → a = b
  | [], [], _, _ => rfl
  | [], y :: ys, h, _ => by rw [HT.lexLt_nil_cons] at h; cases h
  | x :: xs, [], _, h => by rw [HT.lexLt_nil_cons] at h; cases h
  | x :: xs, y :: ys, h1, h2 => by
    rw [HT.lexLt_cons] at h1 h2
    by_cases e : x = y
    · subst e
      rw [if_pos rfl] at h1 h2
      rw [lex_total h1 h2]
    · rw [if_neg e] at h1
      rw [if_neg (fun z => e z.symm)] at h2
      have h1 := of_decide_eq_false h1
      have h2 := of_decide_eq_false h2
      omega
/-- ascending, as tuples are compared -/
def LexUp (L : List (List Int)) : Prop := L.Pairwise fun a b => HT.lexLt b a = false
theorem lexup_eq {L R : List (List Int)} (h : LexUp L) (g : LexUp R) (p : L.Perm R) : L = R :=
  List.Perm.eq_of_pairwise (le := fun a b => HT.lexLt b a = false) (fun a b _ _ h1 h2 => lex_total h2 h1) h g p
theorem perm_memL : ∀ {L R : List (List Int)}, L.Nodup → R.Nodup → (∀ x, x ∈ L ↔ x ∈ R) → L.Perm R := fun n1 n2 h => (List.perm_ext_iff_of_nodup n1 n2).mpr h
theorem lexup_set {L R : List (List Int)} (h : LexUp L) (g : LexUp R) (n1 : L.Nodup) (n2 : R.Nodup) (e : ∀ x, x ∈ L ↔ x ∈ R) : L = R := lexup_eq h g (perm_memL n1 n2 e)
end My
set_option Elab.async false
set_option linter.all false
set_option maxRecDepth 100000
set_option maxHeartbeats 4000000
namespace My
open PySem PySem.Spec PyProof.Rows L2 SrtO
theorem perm_pre {α β : Type} {f : α → β} {out ys : List β} (p : out.Perm ys) : ∀ L : List α, ys = L.map f → ∃ L' : List α, L'.Perm L ∧ out = L'.map f := by
  induction p with
  | nil =>
    intro L e
    cases L with
    | nil => exact ⟨[], .refl _, rfl⟩
    | cons a L => cases e
  | cons x _ ih =>
    intro L e
    cases L with
    | nil => cases e
    | cons a L =>
      injection e with e1 e2
      obtain ⟨L', h1, h2⟩ := ih L e2
      exact ⟨a :: L', h1.cons a, by rw [List.map_cons, h2, e1]⟩
  | swap x y l =>
    intro L e
    match L, e with
    | a :: b :: L, e =>
      injection e with e1 e2
      injection e2 with e2 e3
      exact ⟨b :: a :: L, .swap .., by rw [List.map_cons, List.map_cons, e1, e2, e3]⟩
  | trans _ _ ih1 ih2 =>
    intro L e
    obtain ⟨L1, h1, h2⟩ := ih2 L e
    obtain ⟨L2, g1, g2⟩ := ih1 L1 h2
    exact ⟨L2, g1.trans h1, g2⟩
def keyIn (L : List (Addr × List Int)) : Value → List Int
  | .ref a => ((L.find? fun q => decide (q.1 = a)).map (·.2)).getD []
  | _ => []
theorem keyIn_eq : ∀ {L : List (Addr × List Int)}, (∀ q ∈ L, ∀ r ∈ L, q.1 = r.1 → q.2 = r.2) → ∀ p ∈ L, keyIn L (.ref p.1) = p.2 := fun {L} one p hp => by
  show ((L.find? fun q => decide (q.1 = p.1)).map (·.2)).getD [] = p.2
  cases e : L.find? fun q => decide (q.1 = p.1) with
  | none =>
    have := List.find?_eq_none.mp e p hp
    simp at this
  | some q =>
    have h1 := List.find?_some e
    have h2 := List.mem_of_find?_eq_some e
    exact one q h2 p hp (of_decide_eq_true h1)
theorem lexup_of {L' L : List (Addr × List Int)} {out : List Value} (one : ∀ q ∈ L, ∀ r ∈ L, q.1 = r.1 → q.2 = r.2) (hp : L'.Perm L) (e : out = L'.map fun q => Value.ref q.1) (hs : Srtd (fun v u => HT.lexLt (keyIn L v) (keyIn L u)) out) : LexUp (L'.map (·.2)) := by
  subst e
  have h1 := List.pairwise_map.mp hs
  refine List.pairwise_map.mpr (List.Pairwise.imp_of_mem (fun {q r} hq hr h => ?_) h1)
  have h : HT.lexLt (keyIn L (.ref r.1)) (keyIn L (.ref q.1)) = false := h
  rw [keyIn_eq one q (hp.mem_iff.mp hq), keyIn_eq one r (hp.mem_iff.mp hr)] at h
  exact h
section
variable {P : Program} {w : World} {A : Around} {E : Value → Shared → Prop} {s : Shared}
theorem sorted_setL {a : Addr} {L : List (Addr × List Int)} {es : Array (Int × Value)} {ep : Nat} {t : SetTable} {Q : Value → Shared → Prop} (R : SetTR P w s.heap a L es ep t) (hh : A.handled = none) (hne : ∀ p ∈ L, p.2 ≠ [])
    (hQ : ∀ s' p (out : List Value) (c : Nat) (L' : List (Addr × List Int)), (∀ b o, s.heap.get? b = some o → s'.heap.get? b = some o) → s'.gens = s.gens → s'.os = s.os → s.heap.objs.size ≤ p →
      s'.heap.get? p = some (seqObj "list" out.toArray c) → out = L'.map (fun q => Value.ref q.1) → L'.Perm L → LexUp (L'.map (·.2)) → Q (.ref p) s') :
    wpAny (model P w) A (call (.builtin "sorted") [.ref a]) Q E s := by
  obtain ⟨o, ho, hex, hd⟩ := R.ob
  have hsz := R.size
  have hfew := R.few
  have one : ∀ q ∈ L, ∀ r ∈ L, q.1 = r.1 → q.2 = r.2 := fun q hq r hr e => by
    have a1 := R.tup q hq
    have a2 := R.tup r hr
    rw [e] at a1
    exact a1.inj a2
  refine Calls.call_function_entry kind_sorted plain_sorted entry_sorted (args_sorted1 _) ?_
  unfold Builtin.«sorted»
  refine wpAny_bind (m := checkCount "sorted" 1 1 _) (wpAny_pure ?_)
  refine wpAny_bind (collect_set (A := A.in1) hh ⟨o, ho, hex.1, hd⟩ R.fits (by unfold scanBound; omega) R.tab.ris R.led fun s1 vs k1 hz g1 o1 pm => ?_)
  have hes : es.toList.map (·.2) = L.map fun q => Value.ref q.1 := by
    rw [R.rows]
    unfold rowsOf
    rw [List.map_map]
    rfl
  rw [hes] at pm
  have hvl : vs.length < 64 := by rw [pm.length_eq, List.length_map]; exact hfew
  refine wpAny_bind (wpAny_newList ?_ (by rw [sizeLine_eq]; omega))
  have hoL : (s1.heap.push (seqObj "list" vs.toArray 0)).get? s1.heap.objs.size = some (seqObj "list" vs.toArray 0) := Heap.get?_push_size _ rfl
  have ti : ∀ v ∈ vs, IsTI (s1.heap.push (seqObj "list" vs.toArray 0)) v (keyIn L v) ∧ keyIn L v ≠ [] := fun v hv => by
    obtain ⟨q, hq, e⟩ := List.mem_map.mp (pm.mem_iff.mp hv)
    subst e
    rw [keyIn_eq one q hq]
    obtain ⟨o2, items, n2, h1, h2, h3, h4⟩ := R.tup q hq
    exact ⟨⟨q.1, o2, items, n2, rfl, Heap.get?_push_of_some _ (k1 _ _ h1), h2, h3, ints_of_items h4⟩, hne q hq⟩
  refine wpAny_bind (wpAny_holding (wpAny_call_entry slot_list_sort ⟨_, hoL, rfl⟩ entry_list_sort (list_sort_ord (NtL.swo_lexL (keyIn L)) hoL (by rw [sizeLine_eq]; omega) (fun h2 => ti_sortable (by omega) ti fun o' e => ?_) fun out hs hb => ⟨_, rfl, ?_⟩) (args_list_sort _)))
  · have e' : some o' = some (seqObj "list" vs.toArray 0) := e.symm.trans hoL
    cases e'
    intro c
    exact absurd (Value.type.inj c) (by decide)
  · obtain ⟨L', hp', e'⟩ := perm_pre (hb.perm.trans pm) L rfl
    obtain ⟨c, hc⟩ := sortedHeap_at (vs := vs) (out := out.toArray) hoL
    refine wpAny_pure ⟨_, rfl, hQ _ s1.heap.objs.size out c L' (fun b u e => ?_) g1 o1 hz hc e' hp' (lexup_of one hp' e' hs)⟩
    have q := k1 b u e
    have hlt := Heap.lt_size q
    show (sortedHeap (s1.heap.push (seqObj "list" vs.toArray 0)) s1.heap.objs.size vs out.toArray).get? b = some u
    rw [sortedHeap_old (Nat.ne_of_lt hlt) (by rw [size_push']; exact Nat.lt_succ_of_lt hlt)]
    exact Heap.get?_push_of_some _ q
end
/-- sorted(set) of tuples of whole numbers, none empty -/
def rSortedTL (K : PySem.W.Frag) (P : Program) (w : World) : List V → Hp → VK → Prop := fun vs H Q => ∃ (a : Addr) (L : List (Addr × List Int)), vs = [V.ref a] ∧ H a = some (SetTO P w a L) ∧ (∀ p ∈ L, SqT K H p.1 (p.2.map V.int) ∧ p.2 ≠ []) ∧
  ∀ (L' : List (Addr × List Int)) (p : Addr), L'.Perm L → (L'.map (·.2)).Nodup → L'.length < 64 → LexUp (L'.map (·.2)) → H p = none → Q (.ref p) (upd H p (.lst (L'.map fun q => V.ref q.1)))
theorem cr_sortedTL {X : Cx} (hc : X.calm = true) : CallR X (.builtin "sorted") (rSortedTL X.K X.prog X.w) := by
  intro pins s σ H vs us Q I r h
  obtain ⟨a, L, rfl, ha, hk, q⟩ := h
  have R0 : SetT0 X.prog X.w s.heap a L := (I.hok a _ ha).1
  obtain ⟨es, ep, t, R⟩ := R0.full fun p hp => I.isT (hk p hp).1
  rw [Vals.ref1 r]
  refine sorted_setL R (I.ok.hd hc) (fun p hp => (hk p hp).2) fun s' p out c L' k g o hp hg hout pm pw => ?_
  have hfew : L'.length < 64 := by rw [pm.length_eq]; exact R.few
  have hlen : (L'.map fun q => V.ref q.1).length ≤ sizeLine := by rw [List.length_map, sizeLine_eq]; omega
  have hn : H p = none := I.hok.fresh hp
  have hv : Vals (L'.map fun q => V.ref q.1) out := by rw [hout]; exact vals_of_refs L'
  have J : Inv X pins σ (upd H p (.lst (L'.map fun q => V.ref q.1))) { s with heap := s'.heap, gens := s'.gens, drawn := s'.drawn, toks := s'.toks } :=
    I.call (ch := []) (Un.laid k hp hn) (I.hok.laid k hp ⟨hlen, out, c, hv, hg⟩) (by rw [g]; exact I.bare) (fun _ z => nomatch z)
  have e : s' = { s with heap := s'.heap, gens := s'.gens, drawn := s'.drawn, toks := s'.toks } := by
    cases s'
    cases s
    cases o
    rfl
  rw [e]
  exact ⟨.ref p, _, J, rfl, q L' p pm ((pm.map (·.2)).nodup_iff.mpr R.nd) hfew pw hn⟩
theorem sortedTL {X : Cx} (K : PySem.W.Frag) (P : Program) (w : World) (hc : X.calm = true) (h : X.K = K := by rfl) (hP : X.prog = P := by rfl) (hw : X.w = w := by rfl) : CallR X (.builtin "sorted") (rSortedTL K P w) := by subst h hP hw; exact cr_sortedTL hc
end My
set_option Elab.async false
set_option linter.all false
set_option maxRecDepth 100000
set_option maxHeartbeats 4000000
namespace My
open PySem PySem.Spec PyProof.Rows L2
/-! ### xs.extend(t), t a tuple -/
end My
set_option Elab.async false
set_option linter.all false
set_option maxRecDepth 100000
set_option maxHeartbeats 4000000
namespace My
open PySem PySem.Spec PyProof.Rows L2
/-! ### the pieces of a lot -/
theorem near_symm {T : List (Int × Int)} {x y : Int} (h : y ∈ nearS T x) : x ∈ nearS T y := by
  obtain ⟨t, ht, ⟨h1, h2⟩ | ⟨h1, h2⟩⟩ := mem_nearS.mp h
  · exact mem_nearS.mpr ⟨t, ht, .inr ⟨h2, h1⟩⟩
  · exact mem_nearS.mpr ⟨t, ht, .inl ⟨h2, h1⟩⟩
theorem reach_trans {T : List (Int × Int)} {lot : List Int} {a b c : Int} (h : Reach T lot a b) (g : Reach T lot b c) : Reach T lot a c := by
  induction g with
  | base => exact h
  | step _ h1 h2 ih => exact .step ih h1 h2
theorem reach_in {T : List (Int × Int)} {lot : List Int} {x y : Int} (hx : x ∈ lot) (h : Reach T lot x y) : y ∈ lot := by
  rcases reach_sub h with rfl | g
  · exact hx
  · exact g
theorem reach_symm {T : List (Int × Int)} {lot : List Int} {x y : Int} (hx : x ∈ lot) (h : Reach T lot x y) : Reach T lot y x := by
  induction h with
  | base => exact .base
  | step h0 h1 h2 ih => exact reach_trans (.step .base (near_symm h1) (reach_in hx h0)) ih
theorem PieceIs.of {T : List (Int × Int)} {lot r : List Int} {x y : Int} (hx : x ∈ lot) (h : PieceIs T lot x r) (hy : y ∈ r) : PieceIs T lot y r := by
  have hr := (h.2 y).mp hy
  exact ⟨h.1, fun z => (h.2 z).trans ⟨fun g => reach_trans (reach_symm hx hr) g, fun g => reach_trans hr g⟩⟩
theorem PieceIs.self {T : List (Int × Int)} {lot r : List Int} {x : Int} (h : PieceIs T lot x r) : x ∈ r := (h.2 x).mpr .base
theorem PieceIs.ne {T : List (Int × Int)} {lot r : List Int} {x : Int} (h : PieceIs T lot x r) : r ≠ [] := fun z => by
  have := h.self
  rw [z] at this
  cases this
def PiecesIs (T : List (Int × Int)) (lot : List Int) (ps : List (List Int)) : Prop := LexUp ps ∧ ps.Nodup ∧ ∀ r, r ∈ ps ↔ ∃ x ∈ lot, PieceIs T lot x r
theorem PiecesIs.eq {T : List (Int × Int)} {lot : List Int} {ps ps' : List (List Int)} (h : PiecesIs T lot ps) (g : PiecesIs T lot ps') : ps = ps' :=
  lexup_set h.1 g.1 h.2.1 g.2.1 fun r => (h.2.2 r).trans (g.2.2 r).symm
/-- what the program has found behind j places of the lot -/
structure Found (T : List (Int × Int)) (lot : List Int) (j : Nat) (zs : List (Int × List Int)) (ms : List Int) : Prop where
  up : (zs.map (·.1)).Pairwise (· < ·)
  pc : ∀ z ∈ zs, PieceIs T lot z.1 z.2 ∧ z.1 ∈ lot.take j ∧ ∃ t, z.2 = z.1 :: t
  met : ∀ y, y ∈ ms ↔ ∃ z ∈ zs, y ∈ z.2
  all : ∀ x ∈ lot.take j, x ∈ ms
theorem Found.old {T : List (Int × Int)} {lot : List Int} {j : Nat} {zs : List (Int × List Int)} {ms : List Int} {x : Int} (h : Found T lot j zs ms) (e : lot[j]? = some x) (hx : x ∈ ms) : Found T lot (j + 1) zs ms := by
  refine ⟨h.up, fun z hz => ?_, h.met, fun y hy => ?_⟩
  · obtain ⟨h1, h2, h3⟩ := h.pc z hz
    refine ⟨h1, ?_, h3⟩
    rw [List.take_add_one]
    exact List.mem_append_left _ h2
  · rw [List.take_add_one, e] at hy
    rcases List.mem_append.mp hy with hy | hy
    · exact h.all y hy
    · rw [show y = x by simpa using hy]
      exact hx
theorem take_lt {lot : List Int} (hl : lot.Pairwise (· < ·)) {j : Nat} {x y : Int} (e : lot[j]? = some x) (hy : y ∈ lot.take j) : y < x := by
  obtain ⟨i, h⟩ := List.mem_iff_getElem?.mp hy
  rw [List.getElem?_take] at h
  obtain ⟨hi, ei⟩ : i < j ∧ lot[i]? = some y := by
    by_cases c : i < j
    · rw [if_pos c] at h
      exact ⟨c, h⟩
    · rw [if_neg c] at h
      cases h
  obtain ⟨hj, e1⟩ := List.getElem?_eq_some_iff.mp e
  obtain ⟨hi2, e2⟩ := List.getElem?_eq_some_iff.mp ei
  have := List.pairwise_iff_getElem.mp hl i j hi2 hj hi
  rw [e1, e2] at this
  exact this
theorem mem_lt {lot : List Int} (hl : lot.Pairwise (· < ·)) {j : Nat} {x y : Int} (e : lot[j]? = some x) (hy : y ∈ lot) (h : y < x) : y ∈ lot.take j := by
  obtain ⟨i, ei⟩ := List.mem_iff_getElem?.mp hy
  obtain ⟨hj, e1⟩ := List.getElem?_eq_some_iff.mp e
  obtain ⟨hi2, e2⟩ := List.getElem?_eq_some_iff.mp ei
  by_cases c : i < j
  · refine List.mem_iff_getElem?.mpr ⟨i, ?_⟩
    rw [List.getElem?_take, if_pos c]
    exact ei
  · exfalso
    by_cases c2 : i = j
    · subst c2
      rw [e1] at e2
      omega
    · have := List.pairwise_iff_getElem.mp hl j i hj hi2 (by omega)
      rw [e1, e2] at this
      omega
theorem Found.new {T : List (Int × Int)} {lot r : List Int} {j : Nat} {zs : List (Int × List Int)} {ms : List Int} {x : Int} (hl : lot.Pairwise (· < ·)) (h : Found T lot j zs ms) (e : lot[j]? = some x) (hx : x ∉ ms) (hp : PieceIs T lot x r) : Found T lot (j + 1) (zs ++ [(x, r)]) (ms ++ r) := by
  have hxl : x ∈ lot := List.mem_of_getElem? e
  have hge : ∀ y ∈ r, x ≤ y := fun y hy => by
    apply Classical.byContradiction
    intro hlt
    have hr := (hp.2 y).mp hy
    have hyl := reach_in hxl hr
    have hym := h.all y (mem_lt hl e hyl (by omega))
    obtain ⟨z, hz, hyz⟩ := (h.met y).mp hym
    obtain ⟨h1, h2, _⟩ := h.pc z hz
    have := reach_trans ((h1.2 y).mp hyz) (reach_symm hxl hr)
    exact hx ((h.met x).mpr ⟨z, hz, (h1.2 x).mpr this⟩)
  have hhd : ∃ t, r = x :: t := by
    have hs := hp.self
    cases r with
    | nil => cases hs
    | cons a t =>
      have ha := hge a List.mem_cons_self
      have hp1 := List.pairwise_cons.mp hp.1
      rcases List.mem_cons.mp hs with z | z
      · exact ⟨t, by rw [z]⟩
      · have := hp1.1 x z
        omega
  refine ⟨?_, fun z hz => ?_, fun y => ?_, fun y hy => ?_⟩
  · rw [List.map_append]
    refine List.pairwise_append.mpr ⟨h.up, by simp, fun a ha b hb => ?_⟩
    obtain ⟨z, hz, rfl⟩ := List.mem_map.mp ha
    rw [show b = x by simpa using hb]
    exact take_lt hl e (h.pc z hz).2.1
  · rw [List.take_add_one, e]
    rcases List.mem_append.mp hz with hz | hz
    · obtain ⟨h1, h2, h3⟩ := h.pc z hz
      exact ⟨h1, List.mem_append_left _ h2, h3⟩
    · rw [List.mem_singleton.mp hz]
      exact ⟨hp, List.mem_append_right _ (by simp), hhd⟩
  · rw [List.mem_append, h.met y]
    constructor
    · rintro (⟨z, hz, hy⟩ | hy)
      · exact ⟨z, List.mem_append_left _ hz, hy⟩
      · exact ⟨(x, r), by simp, hy⟩
    · rintro ⟨z, hz, hy⟩
      rcases List.mem_append.mp hz with hz | hz
      · exact .inl ⟨z, hz, hy⟩
      · rw [List.mem_singleton.mp hz] at hy
        exact .inr hy
  · rw [List.take_add_one, e] at hy
    rcases List.mem_append.mp hy with hy | hy
    · exact List.mem_append_left _ (h.all y hy)
    · rw [show y = x by simpa using hy]
      exact List.mem_append_right _ hp.self
theorem Found.done {T : List (Int × Int)} {lot : List Int} {zs : List (Int × List Int)} {ms : List Int} (h : Found T lot lot.length zs ms) : PiecesIs T lot (zs.map (·.2)) := by
  have hpc := h.pc
  rw [List.take_length] at hpc
  have hlex : zs.Pairwise fun a b => HT.lexLt b.2 a.2 = false ∧ a.2 ≠ b.2 := by
    refine List.Pairwise.imp_of_mem (fun {a b} ha hb hlt => ?_) (List.pairwise_map.mp h.up)
    obtain ⟨_, _, t, e1⟩ := hpc a ha
    obtain ⟨_, _, u, e2⟩ := hpc b hb
    rw [e1, e2]
    refine ⟨?_, fun z => ?_⟩
    · rw [HT.lexLt_cons, if_neg (by omega)]
      exact decide_eq_false (by omega)
    · injection z with z1 z2
      omega
  refine ⟨List.pairwise_map.mpr (hlex.imp fun h => h.1), List.pairwise_map.mpr (hlex.imp fun h => h.2), fun r => ?_⟩
  constructor
  · intro hr
    obtain ⟨z, hz, rfl⟩ := List.mem_map.mp hr
    obtain ⟨h1, h2, _⟩ := hpc z hz
    exact ⟨z.1, h2, h1⟩
  · rintro ⟨x, hx, hp⟩
    have hxm := h.all x (by rw [List.take_length]; exact hx)
    obtain ⟨z, hz, hxz⟩ := (h.met x).mp hxm
    obtain ⟨h1, h2, _⟩ := hpc z hz
    have := (h1.of h2 hxz).eq hp
    rw [← this]
    exact List.mem_map.mpr ⟨z, hz, rfl⟩
def spPieces (K : PySem.W.Frag) : Sp := fun vs H Q _ => ∃ (v : V) (n : Nat) (T : List (Int × Int)) (lq : Addr) (lot : List Int), vs = [v, .ref lq] ∧ Dq K H v (webD n T) ∧ WebOk n T ∧ 1 ≤ n ∧ n ≤ 12 ∧ SqT K H lq (lot.map V.int) ∧ lot.length ≤ 12 ∧ (∀ x ∈ lot, 0 ≤ x ∧ x < n) ∧ lot.Pairwise (· < ·) ∧
  ∀ (q : Addr) (ps : List (List Int)) H', PiecesIs T lot ps → ps.length ≤ 12 → Same H H' → Dp K H' (.ref q) (.tuple (ps.map tI)) → Q (.ref q) H'
theorem PiecesIs.len {T : List (Int × Int)} {lot : List Int} {ps : List (List Int)} (h : PiecesIs T lot ps) : ∀ r ∈ ps, r ≠ [] := fun r hr => by
  obtain ⟨x, _, hp⟩ := (h.2.2 r).mp hr
  exact hp.ne
end My
set_option Elab.async false
set_option linter.all false
set_option maxRecDepth 100000
set_option maxHeartbeats 4000000
namespace My
open PySem PySem.Spec PyProof.Rows L2
/-- [.. for x in t], t a tuple of whole numbers, each item a tuple of whole numbers -/
theorem lc_tuplesT {K : PySem.W.Frag} {te : TE} {tt : TE} {σ : L2.St} {H : Hp} {Q : VK} {i : Nat} {lq : Addr} {lot : List Int} {Pr : Int → List Int → Prop} (htt : ∀ Q : VK, Q (.ref lq) H → tt σ H Q) (hL : SqT K H lq (lot.map V.int)) (hk : lot.length ≤ 1000)
    (hs : ∀ x, x ∈ lot → ∀ H1, Same H H1 → ∀ R : VK, (∀ q r H', Pr x r → Same H1 H' → SqT K H' q (r.map V.int) → R (.ref q) H') → te ((wipe σ [i]).set i (some (.int x))) H1 R)
    (hw : ∀ x : Int, wipe ((wipe σ [i]).set i (some (.int x))) [i] = wipe σ [i])
    (q : ∀ (a : Addr) (us : List V) (rms : List (List Int)) (H' : Hp), rms.length = lot.length → (∀ (j : Nat) r x, rms[j]? = some r → lot[j]? = some x → Pr x r) → Same H H' → H' a = some (.lst us) → DpAll K (wo a H') us (rms.map tI) → Q (.ref a) H') : tLc (iTup K tt) (gName i) tYes te [i] σ H Q := by
  refine htt _ ⟨lq, rfl, ⟨_, hL⟩, fun D hD => ?_⟩
  refine lc_tup (xs := lot.map V.int) (fun j H3 => Same H H3 ∧ ∃ (us : List V) (rms : List (List Int)), H3 D = some (.lst us) ∧ rms.length = j ∧ (∀ (l : Nat) r x, rms[l]? = some r → lot[l]? = some x → Pr x r) ∧ DpAll K (wo D H3) us (rms.map tI)) ?_ (fun j H3 _ hP => My.Same.sqt hP.1 hL) ?_ ?_
  · exact ⟨My.Same.new hD, [], [], upd_same, rfl, (fun l r x h => by simp at h), .nil⟩
  · rintro j v H3 ev ⟨s3, us, rms, eD, lr, hp, hus⟩
    obtain ⟨x, ex, rfl⟩ : ∃ x, lot[j]? = some x ∧ v = .int x := by
      rw [List.getElem?_map] at ev
      cases e : lot[j]? with
      | none => rw [e] at ev; cases ev
      | some y => rw [e] at ev; exact ⟨y, rfl, (Option.some.inj ev).symm⟩
    have hj : j < lot.length := (List.getElem?_eq_some_iff.mp ex).1
    refine ⟨hw x, ?_⟩
    show te ((wipe σ [i]).set i (some (.int x))) H3 _
    refine hs x (List.mem_of_getElem? ex) H3 s3 _ (fun t r H4 hr s4 ht => ?_)
    have e4 := s4 _ _ eD
    obtain ⟨g1, g2⟩ := push (DpAll.same (My.Same.wo s4) hus) (Dp.ofTI (sqt_wo ht e4))
    refine ⟨us, e4, ?_, My.Same.updD (s3.trans s4) hD, us ++ [.ref t], rms ++ [r], g1, by rw [List.length_append, lr]; rfl, fun l r' y h hy => ?_, ?_⟩
    · rw [My.DpAll.len hus, List.length_map, lr]
      exact smallT (by omega)
    · by_cases hl : l < rms.length
      · rw [List.getElem?_append_left hl] at h
        exact hp l r' y h hy
      · have hlj : l = j := by
          have := (List.getElem?_eq_some_iff.mp h).1
          rw [List.length_append] at this
          simp at this
          omega
        subst hlj
        rw [List.getElem?_append_right (by omega), show l - rms.length = 0 by omega] at h
        cases h
        rw [ex] at hy
        cases hy
        exact hr
    · rw [List.map_append]
      exact g2
  · rintro H3 ⟨s3, us, rms, eD, lr, hp, hus⟩
    rw [List.length_map] at lr
    exact q D us rms H3 lr hp s3 eD hus
end My
namespace My
theorem len_subG {α : Type} [BEq α] [LawfulBEq α] : ∀ {L ns : List α}, L.Nodup → (∀ k ∈ L, k ∈ ns) → L.length ≤ ns.length
  | [], _, _, _ => Nat.zero_le _
  | x :: L, ns, nd, hs => by
    rw [List.nodup_cons] at nd
    have hx := hs x List.mem_cons_self
    have := len_subG (L := L) (ns := ns.erase x) nd.2 (fun k hk => (List.mem_erase_of_ne (fun z => nd.1 (by rw [← z]; exact hk))).mpr (hs k (List.mem_cons_of_mem _ hk)))
    rw [List.length_erase_of_mem hx] at this
    have h0 := List.length_pos_of_mem hx
    rw [List.length_cons]
    omega
end My
set_option Elab.async false
set_option linter.all false
set_option maxRecDepth 100000
set_option maxHeartbeats 4000000
namespace My
open PySem PySem.Spec PyProof.Rows L2
/-! ### dealings and parts -/
def inP (zs : List Int) (i p : Int) : Bool := decide (zs[p.toNat]? = some i)
/-- the places of part i -/
def partL (zs : List Int) (i : Int) : List Int := (ups zs.length).filter (inP zs i)
theorem inP_at {zs : List Int} {i z : Int} {j : Nat} (h : zs[j]? = some z) : inP zs i (j : Int) = decide (z = i) := by
  unfold inP
  rw [Int.toNat_natCast, h, Bool.eq_iff_iff, decide_eq_true_eq, decide_eq_true_eq]
  constructor
  · intro e
    exact Option.some.inj e
  · intro e
    rw [e]
theorem mem_partL {zs : List Int} {i x : Int} (h : x ∈ partL zs i) : 0 ≤ x ∧ x < zs.length := mem_ups.mp (List.mem_filter.mp h).1
theorem ups_up (k : Nat) : (ups k).Pairwise (· < ·) := by
  induction k with
  | zero => exact .nil
  | succ k ih =>
    rw [ups_succ]
    refine List.pairwise_append.mpr ⟨ih, by simp, fun a ha b hb => ?_⟩
    rw [show b = (k : Int) by simpa using hb]
    exact (mem_ups.mp ha).2
theorem partL_up {zs : List Int} {i : Int} : (partL zs i).Pairwise (· < ·) := List.Pairwise.filter _ (ups_up _)
noncomputable def hangsB (T : List (Int × Int)) (lot : List Int) : Bool := @decide (∃ ps, PiecesIs T lot ps ∧ ps.length = 1) (Classical.propDecidable _)
def dealingD (n k : Int) : PyData → Bool
  | .tuple ds => decide ((ds.length : Int) = n) && ds.all (placeD k)
  | _ => false
/-- is part i right -/
noncomputable def okPart (T : List (Int × Int)) (rs ss zs : List Int) (i : Nat) : Bool := decide (zs[(rs.getD i 0).toNat]? = some (i : Int)) && (decide (((partL zs i).length : Int) = ss.getD i 0) && hangsB T (partL zs i))
noncomputable def partsD (T : List (Int × Int)) (n : Nat) (rs ss : List Int) (d : PyData) : Bool := match d with
  | .tuple ds => dealingD n rs.length (.tuple ds) && (List.range rs.length).all (okPart T rs ss (intsOf ds))
  | _ => false
/-- two tuples of whole numbers -/
theorem Dq.two {K : PySem.W.Frag} {H : Hp} {v : V} {rs ss : List Int} (h : Dq K H v (.tuple [tI rs, tI ss])) : ∃ (a ra sa : Addr), v = .ref a ∧ SqT K H a [.ref ra, .ref sa] ∧ SqT K H ra (rs.map V.int) ∧ SqT K H sa (ss.map V.int) := by
  obtain ⟨a, xs, rfl, hT, hxs⟩ := Dq.un_tup h
  cases hxs with
  | cons h1 hxs =>
  cases hxs with
  | cons h2 hxs =>
  cases hxs
  obtain ⟨ra, ys, rfl, hT2, hys⟩ := Dq.un_tup (show Dq K H _ (.tuple (rs.map PyData.int)) from h1)
  obtain ⟨sa, zs, rfl, hT3, hzs⟩ := Dq.un_tup (show Dq K H _ (.tuple (ss.map PyData.int)) from h2)
  have e1 := DqAll.intsOf hys (intsD_map rs)
  rw [intsOf_map] at e1
  have e2 := DqAll.intsOf hzs (intsD_map ss)
  rw [intsOf_map] at e2
  subst e1
  subst e2
  exact ⟨a, ra, sa, rfl, hT, hT2, hT3⟩
end My
set_option Elab.async false
set_option linter.all false
set_option maxRecDepth 100000
set_option maxHeartbeats 4000000
namespace My
open PySem PySem.Spec PyProof.Rows L2
/-! ### lists of tuples of whole numbers, as they stand in the heap -/
def TsAt (K : PySem.W.Frag) (H : Hp) (us : List V) (ds : List (List Int)) : Prop := DpAll K H us (ds.map tI)
theorem TsAt.same {K : PySem.W.Frag} {H H' : Hp} {us : List V} {ds : List (List Int)} (s : Same H H') (h : TsAt K H us ds) : TsAt K H' us ds := DpAll.same s h
theorem TsAt.len {K : PySem.W.Frag} {H : Hp} {us : List V} {ds : List (List Int)} (h : TsAt K H us ds) : us.length = ds.length := by
  rw [DpAll.len h, List.length_map]
theorem TsAt.append {K : PySem.W.Frag} {H : Hp} {us vs : List V} {ds es : List (List Int)} (h : TsAt K H us ds) (g : TsAt K H vs es) : TsAt K H (us ++ vs) (ds ++ es) := by
  unfold TsAt at h g ⊢
  rw [List.map_append]
  revert h
  generalize ds.map tI = D
  intro h
  clear ds
  induction us generalizing D with
  | nil =>
    cases h
    exact g
  | cons u us ih =>
    cases h with
    | cons a b => exact .cons a (ih _ b)
theorem TsAt.get {K : PySem.W.Frag} {H : Hp} {us : List V} {ds : List (List Int)} {i : Nat} {v : V} (h : TsAt K H us ds) (e : us[i]? = some v) : ∃ s a, ds[i]? = some s ∧ v = .ref a ∧ SqT K H a (s.map V.int) := tI_get h e
theorem TsAt.wo {K : PySem.W.Frag} {H : Hp} {p : Addr} (hp : ∃ xs, H p = some (.lst xs)) : ∀ {us : List V} {ds : List (List Int)}, TsAt K H us ds → TsAt K (My.wo p H) us ds
  | us, [], h => by
    cases h
    exact DpAll.nil
  | us, d :: ds, h => by
    cases h with
    | cons a b =>
      obtain ⟨xs, hp'⟩ := hp
      have a' := a
      cases a with
      | tup ht hx =>
        have e : DpAll K H _ (d.map PyData.int) := hx
        refine DpAll.cons ?_ (TsAt.wo ⟨xs, hp'⟩ (show TsAt K H _ ds from b))
        obtain ⟨s, a, e1, e2, e3⟩ := tI_get (i := 0) (L := [d]) (DpAll.cons a' DpAll.nil) rfl
        cases e1
        cases e2
        exact Dp.ofTI (sqt_wo e3 hp')
theorem canLay_ints : ∀ r : List Int, PyData.canLayAll0 (r.map PyData.int) = true
  | [] => rfl
  | x :: r => by
    rw [List.map_cons]
    simp only [PyData.canLayAll0, PyData.canLay0, canLay_ints r, Bool.and_self]
theorem depth_ints : ∀ r : List Int, (PyData.tuple (r.map PyData.int)).depth ≤ 1
  | [] => by decide
  | x :: r => by
    have := depth_ints r
    rw [List.map_cons]
    simp only [PyData.depth, PyData.depthAll] at this ⊢
    omega
theorem lay_tIs : ∀ rms : List (List Int), PyData.canLayAll0 (rms.map tI) = true ∧ PyData.depthAll (rms.map tI) ≤ 1
  | [] => ⟨rfl, by decide⟩
  | r :: rms => by
    obtain ⟨h1, h2⟩ := lay_tIs rms
    have h3 := depth_ints r
    rw [List.map_cons]
    refine ⟨?_, ?_⟩
    · simp only [PyData.canLayAll0, tI, PyData.canLay0, canLay_ints r, h1, Bool.and_self]
    · simp only [PyData.depthAll, tI] at h2 h3 ⊢
      omega
theorem shaped_tIs {rms : List (List Int)} : SeqAt.shaped (.list (rms.map tI)) = true := by
  obtain ⟨h1, h2⟩ := lay_tIs rms
  unfold SeqAt.shaped
  rw [Bool.and_eq_true, decide_eq_true_eq]
  refine ⟨by simpa only [PyData.canLay0] using h1, ?_⟩
  simp only [PyData.depth]
  omega
/-- a dealing of n places to k parts -/
def DealtTo (n k : Nat) (r : List Int) : Prop := r.length = n ∧ ∀ x ∈ r, 0 ≤ x ∧ x < k
end My
set_option Elab.async false
set_option linter.all false
set_option maxRecDepth 100000
set_option maxHeartbeats 4000000
namespace My
open PySem PySem.Spec PyProof.Rows L2
/-- a web, a deal of it, two tuples of whole numbers -/
structure Keep4 (K : PySem.W.Frag) (H : Hp) (wq : Addr) (n : Nat) (T : List (Int × Int)) (dq : Addr) (rs ss : List Int) (bq : Addr) (bs : List Int) (zq : Addr) (zs : List Int) : Prop where
  web : Dq K H (.ref wq) (webD n T)
  deal : DealAt K H dq rs ss
  base : SqT K H bq (bs.map V.int)
  drawn : SqT K H zq (zs.map V.int)
theorem Keep4.same {K : PySem.W.Frag} {H H' : Hp} {wq : Addr} {n : Nat} {T : List (Int × Int)} {dq : Addr} {rs ss : List Int} {bq : Addr} {bs : List Int} {zq : Addr} {zs : List Int} (s : Same H H') (h : Keep4 K H wq n T dq rs ss bq bs zq zs) : Keep4 K H' wq n T dq rs ss bq bs zq zs :=
  ⟨Dq.same s h.web, h.deal.same s, My.Same.sqt s h.base, My.Same.sqt s h.drawn⟩
theorem SmO.same {K : PySem.W.Frag} {av : List Addr} {H H' : Hp} {a p : Addr} {W D m : Nat} (hp : p ∈ av) (s : Same (wo p H) (wo p H')) (h : SmO K av H a W D m) : SmO K av H' a W D m := by
  obtain ⟨n, xs, ds, e, hx, hs, hl⟩ := h
  have nap : a ≠ p := fun z => n (by rw [z]; exact hp)
  exact ⟨n, xs, ds, (wo_some (s _ _ ((wo_ne nap).trans e))).2, DqAll.same (My.Same.wos_of (List.mem_cons_of_mem _ hp) s) hx, hs, hl⟩
theorem SmO.push {K : PySem.W.Frag} {av : List Addr} {H : Hp} {a : Addr} {W D m : Nat} (h : SmO K av H a W D m) : ∃ xs : List V, H a = some (.lst xs) ∧ xs.length ≤ m ∧ ∀ (x : V) (d : PyData), Dq K (wos (a :: av) H) x d → Sm W D d → SmO K av (upd H a (.lst (xs ++ [x]))) a W D (m + 1) := by
  obtain ⟨n, xs, ds, e, hx, hs, hl⟩ := h
  refine ⟨xs, e, by rw [hx.len]; exact hl, fun x d hd sm => ⟨n, xs ++ [x], ds ++ [d], upd_same, DqAll.append (DqAll.same wos_put hx) (.cons (Dq.same wos_put hd) .nil), fun d' h => ?_, by rw [List.length_append]; exact Nat.succ_le_succ hl⟩⟩
  rcases List.mem_append.mp h with h | h
  · exact hs d' h
  · rw [List.mem_singleton.mp h]
    exact sm
/-- the first j of a list of tuples of whole numbers, as a new list -/
theorem SmL.first {K : PySem.W.Frag} {H : Hp} {p z : Addr} {us : List V} {ds : List (List Int)} {W D : Nat} {j : Nat} (hp : ∃ o, H p = some o) (h : TsAt K (wo p H) us ds) (hs : ∀ r ∈ ds, Sm W D (tI r)) (hz : H z = none) : SmL K [p] (upd H z (.lst (cutV us none (some (j : Int))))) z W D j := by
  have nz : z ≠ p := fun e => by
    obtain ⟨o, eo⟩ := hp
    rw [e, eo] at hz
    cases hz
  have s : Same (wo p H) (wos [p] (upd H z (.lst (cutV us none (some (j : Int)))))) := wo_wos.trans (My.Same.wos (My.Same.new hz))
  refine ⟨fun e => nz (List.mem_singleton.mp e), _, ((ds.map tI).take j), upd_same, ?_, fun d hd => ?_, by rw [List.length_take]; exact Nat.min_le_left _ _⟩
  · rw [cut_take] at s ⊢
    exact DqAll.take _ (DqAll.same s (DqAll.of h))
  · obtain ⟨r, hr, rfl⟩ := List.mem_map.mp (List.mem_of_mem_take hd)
    exact hs r hr
end My
set_option Elab.async false
set_option linter.all false
set_option maxRecDepth 100000
set_option maxHeartbeats 4000000
namespace My
open PySem PySem.Spec PyProof.Rows L2
/-! ### x in t, t a tuple of data -/
/-! ### lots, cuts, ways -/
def othersL (n : Nat) (lot : List Int) : List Int := (ups n).filter fun x => !decide (x ∈ lot)
theorem mem_othersL {n : Nat} {lot : List Int} {x : Int} (h : x ∈ othersL n lot) : 0 ≤ x ∧ x < n := mem_ups.mp (List.mem_filter.mp h).1
theorem othersL_len {n : Nat} {lot : List Int} : (othersL n lot).length ≤ n := by
  have := List.length_filter_le (fun x => !decide (x ∈ lot)) (ups n)
  rw [ups_len] at this
  exact this
def tiedB (T : List (Int × Int)) (x y : Int) : Bool := decide (((if y < x then y else x), (if y > x then y else x)) ∈ T)
def spOthers (K : PySem.W.Frag) : Sp := fun vs H Q _ => ∃ (v : V) (n : Nat) (e : PyData) (lq : Addr) (lot : List Int), vs = [v, .ref lq] ∧ Dq K H v (.tuple [.int n, e]) ∧ n ≤ 100 ∧ SqT K H lq (lot.map V.int) ∧
  ∀ (a : Addr) H', Same H H' → SqT K H' a ((othersL n lot).map V.int) → Q (.ref a) H'
end My
set_option Elab.async false
set_option linter.all false
set_option maxRecDepth 100000
set_option maxHeartbeats 4000000
namespace My
open PySem PySem.Spec PyProof.Rows L2
/-- a web, an order of its places, a lot -/
structure Keep3 (K : PySem.W.Frag) (H : Hp) (wq : Addr) (n : Nat) (T : List (Int × Int)) (oq : Addr) (os : List Int) (lq : Addr) (ls : List Int) : Prop where
  web : Dq K H (.ref wq) (webD n T)
  order : SqT K H oq (os.map V.int)
  lot : SqT K H lq (ls.map V.int)
theorem Keep3.same {K : PySem.W.Frag} {H H' : Hp} {wq : Addr} {n : Nat} {T : List (Int × Int)} {oq : Addr} {os : List Int} {lq : Addr} {ls : List Int} (s : Same H H') (h : Keep3 K H wq n T oq os lq ls) : Keep3 K H' wq n T oq os lq ls :=
  ⟨Dq.same s h.web, My.Same.sqt s h.order, My.Same.sqt s h.lot⟩
theorem nearS_len12 {T : List (Int × Int)} {n : Nat} {x : Int} (hT : WebOk n T) (hn : n ≤ 12) : (nearS T x).length ≤ 288 := by
  have h1 := nearS_len (T := T) (x := x)
  have h2 := hT.len hn
  omega
end My
set_option Elab.async false
set_option linter.all false
set_option maxRecDepth 100000
set_option maxHeartbeats 4000000
namespace My
open PySem PySem.Spec PyProof.Rows L2
section
variable {X : Cx}
/-! ### plain tuples: displays, sums; any -/
def tTupF (t : TA) : TE := fun σ H Q => t σ H fun xs H1 => xs.length ≤ sizeLine ∧ ∀ p H', Same H1 H' → Plain H' p xs → Q (.ref p) H'
end
/-! ### orders -/
def touchB (T : List (Int × Int)) (x : Int) (lot : List Int) : Bool := (nearS T x).any fun y => decide (y ∈ lot)
end My
set_option Elab.async false
set_option linter.all false
set_option maxRecDepth 100000
set_option maxHeartbeats 4000000
namespace My
open PySem PySem.Spec PyProof.Rows L2
theorem Plain.put {H : Hp} {t ra : Addr} {xs us : List V} {o : HO} (hr : H ra = some (.lst us)) (h : Plain H t xs) : Plain (upd H ra o) t xs := by
  obtain ⟨ob, e, h1, h2⟩ := h
  refine ⟨ob, ?_, h1, h2⟩
  rw [upd_ne (fun z => ?_)]
  · exact e
  · rw [z, hr] at e
    cases e
theorem nearS_nd {n : Nat} {T : List (Int × Int)} {x : Int} (hT : WebOk n T) : (nearS T x).Nodup := by
  unfold nearS
  rw [(sortI_perm _).nodup_iff]
  unfold nearL
  have hnd : T.Nodup := hT.1.imp fun {s t} h e => by
    subst e
    rcases h with h | ⟨_, h⟩ <;> omega
  rw [List.nodup_append]
  refine ⟨?_, ?_, ?_⟩
  · refine List.pairwise_map.mpr ((hnd.filter _).imp_of_mem fun {s t} hs ht hne e => hne (Prod.ext e ?_))
    have h1 := of_decide_eq_true (List.mem_filter.mp hs).2
    have h2 := of_decide_eq_true (List.mem_filter.mp ht).2
    exact h1.trans h2.symm
  · refine List.pairwise_map.mpr ((hnd.filter _).imp_of_mem fun {s t} hs ht hne e => hne (Prod.ext ?_ e))
    have h1 := of_decide_eq_true (List.mem_filter.mp hs).2
    have h2 := of_decide_eq_true (List.mem_filter.mp ht).2
    exact h1.trans h2.symm
  · intro u hu v hv e
    obtain ⟨s, hs, rfl⟩ := List.mem_map.mp hu
    obtain ⟨t, ht, e2⟩ := List.mem_map.mp hv
    have h1 := of_decide_eq_true (List.mem_filter.mp hs).2
    have h2 := of_decide_eq_true (List.mem_filter.mp ht).2
    have b1 := hT.2 s (List.mem_filter.mp hs).1
    have b2 := hT.2 t (List.mem_filter.mp ht).1
    omega
/-- a row from a neighbour of a, of tied places of r -/
structure PathIs (T : List (Int × Int)) (r : List Int) (a : Int) (ws : List Int) : Prop where
  sub : ∀ x ∈ ws, x ∈ r
  nd : ws.Nodup
  head : ∃ x, ws[0]? = some x ∧ x ∈ nearS T a
  row : ∀ (i : Nat) (x y : Int), ws[i]? = some x → ws[i + 1]? = some y → y ∈ nearS T x
theorem PathIs.one {T : List (Int × Int)} {r : List Int} {a x : Int} (h : x ∈ nearS T a) (hr : x ∈ r) : PathIs T r a [x] :=
  ⟨fun y hy => by rw [List.mem_singleton.mp hy]; exact hr, by simp, ⟨x, rfl, h⟩, fun i u v _ h2 => by simp at h2⟩
theorem PathIs.snoc {T : List (Int × Int)} {r : List Int} {a y z : Int} {ws : List Int} (h : PathIs T r a ws) (hz : ws[ws.length - 1]? = some z) (hy : y ∈ nearS T z) (hr : y ∈ r) (hn : y ∉ ws) : PathIs T r a (ws ++ [y]) := by
  have hl : 0 < ws.length := by
    obtain ⟨x, e, _⟩ := h.head
    exact (List.getElem?_eq_some_iff.mp e).1
  refine ⟨fun x hx => ?_, ?_, ?_, fun i u v h1 h2 => ?_⟩
  · rcases List.mem_append.mp hx with hx | hx
    · exact h.sub x hx
    · rw [List.mem_singleton.mp hx]
      exact hr
  · exact (List.perm_append_comm (l₁ := ws) (l₂ := [y])).nodup_iff.mpr (List.nodup_cons.mpr ⟨hn, h.nd⟩)
  · obtain ⟨x, e, hx⟩ := h.head
    exact ⟨x, by rw [List.getElem?_append_left hl]; exact e, hx⟩
  · by_cases h3 : i + 1 < ws.length
    · rw [List.getElem?_append_left (by omega)] at h1
      rw [List.getElem?_append_left h3] at h2
      exact h.row i u v h1 h2
    · have h4 := (List.getElem?_eq_some_iff.mp h2).1
      rw [List.length_append] at h4
      simp only [List.length_cons, List.length_nil] at h4
      have e : i = ws.length - 1 := by omega
      subst e
      rw [List.getElem?_append_left (by omega), hz] at h1
      rw [List.getElem?_append_right (by omega), show ws.length - 1 + 1 - ws.length = 0 by omega] at h2
      cases h1
      cases h2
      exact hy
/-- the rows so far, and the places met -/
structure RowsOk (T : List (Int × Int)) (r : List Int) (a : Int) (rows : List (List Int)) (ms : List Int) : Prop where
  len : ms.length = rows.length
  last : ∀ (i : Nat) ws, rows[i]? = some ws → 1 ≤ ws.length ∧ ws[ws.length - 1]? = ms[i]?
  path : ∀ ws ∈ rows, PathIs T r a ws ∧ ∀ x ∈ ws, x ∈ ms
  nd : ms.Nodup
  sub : ∀ x ∈ ms, x ∈ r
theorem RowsOk.push {T : List (Int × Int)} {r : List Int} {a y z : Int} {rows : List (List Int)} {ms ws : List Int} (h : RowsOk T r a rows ms) (hw : ws ∈ rows) (hz : ws[ws.length - 1]? = some z) (hy : y ∈ nearS T z) (hr : y ∈ r) (hn : y ∉ ms) : RowsOk T r a (rows ++ [ws ++ [y]]) (ms ++ [y]) := by
  refine ⟨by rw [List.length_append, List.length_append, h.len]; rfl, fun i vs hv => ?_, fun vs hv => ?_, (List.perm_append_comm (l₁ := ms) (l₂ := [y])).nodup_iff.mpr (List.nodup_cons.mpr ⟨hn, h.nd⟩), fun x hx => ?_⟩
  · by_cases hi : i < rows.length
    · rw [List.getElem?_append_left hi] at hv
      obtain ⟨h1, h2⟩ := h.last i vs hv
      rw [List.getElem?_append_left (by rw [h.len]; exact hi)]
      exact ⟨h1, h2⟩
    · have h4 := (List.getElem?_eq_some_iff.mp hv).1
      rw [List.length_append] at h4
      simp only [List.length_cons, List.length_nil] at h4
      have e : i = rows.length := by omega
      subst e
      rw [List.getElem?_append_right (by omega), Nat.sub_self] at hv
      cases hv
      have e1 : (ms ++ [y])[rows.length]? = some y := by
        rw [← h.len, List.getElem?_append_right (Nat.le_refl _), Nat.sub_self]
        rfl
      have e2 : (ws ++ [y])[(ws ++ [y]).length - 1]? = some y := by
        rw [List.length_append]
        show (ws ++ [y])[ws.length + 1 - 1]? = _
        rw [Nat.add_sub_cancel, List.getElem?_append_right (Nat.le_refl _), Nat.sub_self]
        rfl
      exact ⟨by rw [List.length_append]; exact Nat.le_add_left 1 _, e2.trans e1.symm⟩
  · rcases List.mem_append.mp hv with hv | hv
    · obtain ⟨h1, h2⟩ := h.path vs hv
      exact ⟨h1, fun x hx => List.mem_append_left _ (h2 x hx)⟩
    · rw [List.mem_singleton.mp hv]
      obtain ⟨h1, h2⟩ := h.path ws hw
      refine ⟨h1.snoc hz hy hr fun m => hn (h2 y m), fun x hx => ?_⟩
      rcases List.mem_append.mp hx with hx | hx
      · exact List.mem_append_left _ (h2 x hx)
      · exact List.mem_append_right _ hx
  · rcases List.mem_append.mp hx with hx | hx
    · exact h.sub x hx
    · rw [List.mem_singleton.mp hx]
      exact hr
/-- the rows in the heap -/
def RowsAt (H : Hp) (ra : Addr) (rows : List (List Int)) : Prop := ∃ us : List V, H ra = some (.lst us) ∧ us.length = rows.length ∧ ∀ (i : Nat) (x : V), us[i]? = some x → ∃ t ws, x = .ref t ∧ rows[i]? = some ws ∧ Plain H t (ws.map V.int)
theorem RowsAt.same {H H' : Hp} {ra : Addr} {rows : List (List Int)} (s : Same H H') (h : RowsAt H ra rows) : RowsAt H' ra rows := by
  obtain ⟨us, h1, h2, h3⟩ := h
  refine ⟨us, s _ _ h1, h2, fun i x e => ?_⟩
  obtain ⟨t, ws, e1, e2, e3⟩ := h3 i x e
  exact ⟨t, ws, e1, e2, e3.same s⟩
theorem RowsAt.put {H : Hp} {ra ma : Addr} {rows : List (List Int)} {us : List V} {o : HO} (hm : H ma = some (.lst us)) (hne : ra ≠ ma) (h : RowsAt H ra rows) : RowsAt (upd H ma o) ra rows := by
  obtain ⟨us, h1, h2, h3⟩ := h
  refine ⟨us, (upd_ne hne).trans h1, h2, fun i x e => ?_⟩
  obtain ⟨t, ws, e1, e2, e3⟩ := h3 i x e
  exact ⟨t, ws, e1, e2, e3.put hm⟩
theorem RowsAt.push {H : Hp} {ra c : Addr} {rows : List (List Int)} {ws : List Int} (h : RowsAt H ra rows) (hc : Plain H c (ws.map V.int)) : ∃ us : List V, H ra = some (.lst us) ∧ us.length = rows.length ∧ RowsAt (upd H ra (.lst (us ++ [.ref c]))) ra (rows ++ [ws]) := by
  obtain ⟨us, h1, h2, h3⟩ := h
  refine ⟨us, h1, h2, us ++ [.ref c], upd_same, by rw [List.length_append, List.length_append, h2]; rfl, fun i x e => ?_⟩
  by_cases hi : i < us.length
  · rw [List.getElem?_append_left hi] at e
    obtain ⟨t, vs, e1, e2, e3⟩ := h3 i x e
    exact ⟨t, vs, e1, by rw [List.getElem?_append_left (by omega)]; exact e2, e3.put h1⟩
  · have h4 := (List.getElem?_eq_some_iff.mp e).1
    rw [List.length_append] at h4
    simp only [List.length_cons, List.length_nil] at h4
    have ei : i = us.length := by omega
    subst ei
    rw [List.getElem?_append_right (by omega), Nat.sub_self] at e
    cases e
    exact ⟨c, ws, rfl, by rw [List.getElem?_append_right (by omega), h2, Nat.sub_self]; rfl, hc.put h1⟩
end My
set_option Elab.async false
set_option linter.all false
set_option maxRecDepth 100000
set_option maxHeartbeats 4000000
namespace My
open PySem PySem.Spec PyProof.Rows L2
/-! ### orders and loose ends -/
def Sided (T : List (Int × Int)) (os : List Int) : Prop := ∀ (l : List Int) (x : Int) (r : List Int), os = l ++ x :: r → l ≠ [] → r ≠ [] → touchB T x l = true ∧ touchB T x r = true
structure PartOrd (T : List (Int × Int)) (n : Nat) (a b : Int) (os : List Int) : Prop where
  nd : os.Nodup
  bd : ∀ x ∈ os, 0 ≤ x ∧ x < n
  head : ∃ r, os = a :: r
  last : ∃ l, os = l ++ [b]
  sided : Sided T os
theorem PartOrd.two {T : List (Int × Int)} {n : Nat} {a b : Int} (hab : a ≠ b) (ha : 0 ≤ a ∧ a < n) (hb : 0 ≤ b ∧ b < n) : PartOrd T n a b [a, b] := by
  refine ⟨by simp [hab], fun x hx => ?_, ⟨[b], rfl⟩, ⟨[a], rfl⟩, fun l x r e hl hr => ?_⟩
  · simp only [List.mem_cons, List.not_mem_nil, or_false] at hx
    rcases hx with rfl | rfl
    · exact ha
    · exact hb
  · have := congrArg List.length e
    rw [List.length_append, List.length_cons] at this
    have h1 := List.length_pos_iff.mpr hl
    have h2 := List.length_pos_iff.mpr hr
    simp only [List.length_cons, List.length_nil] at this
    omega
theorem reach_mono {T : List (Int × Int)} {lot lot' : List Int} {s x : Int} (h : Reach T lot s x) (hs : ∀ y ∈ lot, y ∈ lot') : Reach T lot' s x := by
  induction h with
  | base => exact .base
  | step _ h1 h2 ih => exact .step ih h1 (hs _ h2)
theorem piece_ex {T : List (Int × Int)} {n : Nat} {lot : List Int} {x : Int} (hl : ∀ y ∈ lot, 0 ≤ y ∧ y < n) (hx : 0 ≤ x ∧ x < n) : ∃ r, PieceIs T lot x r := by
  refine ⟨(ups n).filter fun y => @decide (Reach T lot x y) (Classical.propDecidable _), List.Pairwise.filter _ (ups_up _), fun y => ?_⟩
  rw [List.mem_filter, @decide_eq_true_eq _ (Classical.propDecidable _), mem_ups]
  constructor
  · exact fun h => h.2
  · intro h
    refine ⟨?_, h⟩
    rcases reach_sub h with rfl | g
    · exact hx
    · exact hl y g
end My
set_option Elab.async false
set_option linter.all false
set_option maxRecDepth 100000
set_option maxHeartbeats 4000000
namespace My
open PySem PySem.Spec PyProof.Rows L2
end My
set_option Elab.async false
set_option linter.all false
set_option maxRecDepth 100000
set_option maxHeartbeats 4000000
namespace My
open PySem PySem.Spec PyProof.Rows L2
theorem PartOrd.full {T : List (Int × Int)} {n : Nat} {a b : Int} {os : List Int} (h : PartOrd T n a b os) (hl : os.length = n) {x : Int} (hx : 0 ≤ x ∧ x < n) : x ∈ os := by
  apply Classical.byContradiction
  intro hn
  have := len_bd (n := n) (rs := x :: os) (List.nodup_cons.mpr ⟨hn, h.nd⟩) (fun y hy => by
    rcases List.mem_cons.mp hy with rfl | hy
    · exact hx
    · exact h.bd y hy)
  rw [List.length_cons] at this
  omega
theorem PartOrd.perm {T : List (Int × Int)} {n : Nat} {a b : Int} {os : List Int} (h : PartOrd T n a b os) (hl : os.length = n) : os.Perm (ups n) :=
  perm_mem h.nd (lt_nodup (ups_up n)) fun x => ⟨fun hx => mem_ups.mpr (h.bd x hx), fun hx => h.full hl (mem_ups.mp hx)⟩
theorem PartOrd.at {T : List (Int × Int)} {n : Nat} {a b x : Int} {os : List Int} {i : Nat} (h : PartOrd T n a b os) (e : os[i]? = some x) (h1 : 1 ≤ i) (h2 : i + 1 < os.length) : touchB T x (os.take i) = true ∧ touchB T x (os.drop (i + 1)) = true := by
  obtain ⟨hi, ex⟩ := List.getElem?_eq_some_iff.mp e
  refine h.sided (os.take i) x (os.drop (i + 1)) ?_ (fun z => ?_) (fun z => ?_)
  · rw [← ex, ← List.drop_eq_getElem_cons hi, List.take_append_drop]
  · have := congrArg List.length z
    rw [List.length_take, List.length_nil] at this
    omega
  · have := congrArg List.length z
    rw [List.length_drop, List.length_nil] at this
    omega
end My
set_option Elab.async false
set_option linter.all false
set_option maxRecDepth 100000
set_option maxHeartbeats 4000000
namespace My
open PySem PySem.Spec PyProof.Rows L2
/-! ### orders and loose ends, of any data -/
end My
namespace My
open PySem PySem.Spec PyProof.Rows L2
end My
set_option Elab.async false
set_option linter.all false
set_option maxRecDepth 100000
set_option maxHeartbeats 4000000
namespace My
open PySem PySem.Spec PyProof.Rows L2
/-! ### loose ends, of any data -/
def outB (T : List (Int × Int)) (lot : List Int) (t x : Int) : Bool := (nearS T x).all fun y => decide (y ∈ lot) || decide (y = t)
end My
set_option Elab.async false
set_option linter.all false
set_option maxRecDepth 100000
set_option maxHeartbeats 4000000
namespace My
open PySem PySem.Spec PyProof.Rows L2
end My
set_option Elab.async false
set_option linter.all false
set_option maxRecDepth 100000
set_option maxHeartbeats 4000000
namespace My
open PySem PySem.Spec PyProof.Rows L2
/-! ### many values kept, as data -/
def KeepD (K : PySem.W.Frag) (H : Hp) (L : List (V × PyData)) : Prop := ∀ p ∈ L, Dq K H p.1 p.2
section
variable {K : PySem.W.Frag} {H H' : Hp} {L : List (V × PyData)} {v : V} {d : PyData}
theorem KeepD.same (s : Same H H') (h : KeepD K H L) : KeepD K H' L := fun p hp => Dq.same s (h p hp)
theorem KeepD.get {i : Nat} (h : KeepD K H L) (e : L[i]? = some (v, d)) : Dq K H v d := h _ (List.mem_of_getElem? e)
theorem KeepD.nil : KeepD K H [] := fun _ hp => nomatch hp
theorem KeepD.cons (g : Dq K H v d) (h : KeepD K H L) : KeepD K H ((v, d) :: L) := fun p hp => by
  rcases List.mem_cons.mp hp with rfl | hp
  · exact g
  · exact h p hp
theorem Dq.sqI {a : Addr} {ns : List Int} (h : Dq K H (.ref a) (.tuple (ns.map PyData.int))) : SqT K H a (ns.map V.int) := by
  obtain ⟨b, xs, e, hT, hxs⟩ := Dq.un_tup h
  cases e
  have e := hxs.intsOf (intsD_map ns)
  rw [intsOf_map] at e
  rw [← e]
  exact hT
theorem Dq.sqI2 {v : V} {ns : List Int} (h : Dq K H v (.tuple (ns.map PyData.int))) : ∃ a, v = .ref a ∧ SqT K H a (ns.map V.int) := by
  obtain ⟨b, xs, rfl, hT, hxs⟩ := Dq.un_tup h
  exact ⟨b, rfl, Dq.sqI (.tup hT hxs)⟩
end
section
variable {K : PySem.W.Frag} {av : List Addr} {H0 : Hp} {σ : L2.St} {t : TE} {tl : TO} {d : PyData} {ds : List PyData}
theorem cutD_drop {k : Nat} (h : k ≤ ds.length) : cutD ds (some (k : Int)) none = ds.drop k := by
  unfold cutD
  rw [show HT.sIx ds.length 0 (some (k : Int)) = min k ds.length from HT.sIx_nat ds.length 0 k, HT.sIx_none, Nat.min_eq_left h, List.take_of_length_le (by rw [List.length_drop]; omega)]
theorem EvQ.at {i : Nat} {la : Addr} {xs : List V} {j : Int} {x : V} (e : σ[i]? = some (some (.ref la))) (hl : H0 la = some (.lst xs)) (hx : atI xs j = some x) (hd : Dq K (wos av H0) x d) : EvQ K av H0 σ (tOp (rIxL K) (tVar i) (tC (.int j))) d := fun H s Q q =>
  ⟨_, e, la, xs, j, x, rfl, rfl, SqL.of (s _ _ hl), hx, q _ _ (Same.refl H) (Dq.same (My.Same.wos s) hd)⟩
end
/-! ### data of tuples alone stands apart from any list -/
mutual
def noL : PyData → Bool
  | .none => true
  | .bool _ => true
  | .int _ => true
  | .str _ => true
  | .list _ => false
  | .tuple ds => noLAll ds
  | .dict _ => false
def noLAll : List PyData → Bool
  | [] => true
  | d :: ds => noL d && noLAll ds
end
theorem noL_ints : ∀ ns : List Int, noLAll (ns.map PyData.int) = true
  | [] => by simp [noLAll]
  | _ :: ns => by
    have := noL_ints ns
    simp [noLAll, noL, this]
theorem noL_tIs : ∀ L : List (List Int), noLAll (L.map tI) = true
  | [] => by simp [noLAll]
  | r :: L => by
    have h1 := noL_ints r
    have h2 := noL_tIs L
    simp [noLAll, noL, tI, h1, h2]
section
variable {K : PySem.W.Frag} {H : Hp} {p : Addr} {us : List V}
mutual
theorem Dq.woL (hp : H p = some (.lst us)) : ∀ {d : PyData} {v : V}, Dq K H v d → noL d = true → Dq K (wo p H) v d
  | _, _, .non, _ => .non
  | _, _, .bl b, _ => .bl b
  | _, _, .int i, _ => .int i
  | _, _, .str x, _ => .str x
  | _, _, .lst _ _, g => by simp [noL] at g
  | _, _, .tup h a, g => .tup (sqt_wo h hp) (DqAll.woL hp a (by simpa [noL] using g))
  | _, _, .dct _, g => by simp [noL] at g
theorem DqAll.woL (hp : H p = some (.lst us)) : ∀ {ds : List PyData} {vs : List V}, DqAll K H vs ds → noLAll ds = true → DqAll K (wo p H) vs ds
  | _, _, .nil, _ => .nil
  | _, _, .cons h t, g => by
    simp only [noLAll, Bool.and_eq_true] at g
    exact .cons (Dq.woL hp h g.1) (DqAll.woL hp t g.2)
end
end
end My
set_option Elab.async false
set_option linter.all false
set_option maxRecDepth 100000
set_option maxHeartbeats 4000000
namespace My
open PySem PySem.Spec PyProof.Rows L2
end My
set_option Elab.async false
set_option linter.all false
set_option maxRecDepth 100000
set_option maxHeartbeats 4000000
namespace My
open PySem PySem.Spec PyProof.Rows L2
/-! ### expressions that tell data: numbers, lists, comprehensions -/
theorem wo_nil {H : Hp} : Same H (wos [] H) := fun b o e => by
  rw [wos_in List.not_mem_nil]
  exact e
section
variable {K : PySem.W.Frag} {av : List Addr} {H0 H1 : Hp} {σ : L2.St} {t t1 t2 t3 : TE} {ta tb : TA} {d e : PyData} {ds es : List PyData}
theorem EvQ.mono (s : Same H0 H1) (h : EvQ K av H0 σ t d) : EvQ K av H1 σ t d := fun H s' => h H (s.trans s')
theorem EvL.mono (s : Same H0 H1) (h : EvL K av H0 σ t ds) : EvL K av H1 σ t ds := fun H s' => h H (s.trans s')
theorem DqAll.intsV {H : Hp} {xs : List V} {ns : List Int} (h : DqAll K H xs (ns.map PyData.int)) : xs = ns.map V.int := by
  have e := h.intsOf (intsD_map ns)
  rw [intsOf_map] at e
  exact e
theorem EvQ.op {g : Int → Int → V} {f : Int → Int → PyData} {a b : Int} (hg : ∀ i j H, Dq K H (g i j) (f i j)) (h1 : EvQ K av H0 σ t1 (.int a)) (h2 : EvQ K av H0 σ t2 (.int b)) : EvQ K av H0 σ (tOp (rI0 g) t1 t2) (f a b) := fun H s Q q =>
  h1 H s _ fun x H1 s1 hx => by
    cases hx
    exact h2 H1 (s.trans s1) _ fun y H2 s2 hy => by
      cases hy
      exact ⟨a, b, rfl, rfl, q _ _ (s1.trans s2) (hg _ _ _)⟩
theorem EvQ.add {a b : Int} (h1 : EvQ K av H0 σ t1 (.int a)) (h2 : EvQ K av H0 σ t2 (.int b)) : EvQ K av H0 σ (tOp (rI0 fun i j => V.int (i + j)) t1 t2) (.int (a + b)) := EvQ.op (f := fun i j => .int (i + j)) (fun _ _ _ => .int _) h1 h2
theorem EvQ.sub {a b : Int} (h1 : EvQ K av H0 σ t1 (.int a)) (h2 : EvQ K av H0 σ t2 (.int b)) : EvQ K av H0 σ (tOp (rI0 fun i j => V.int (i - j)) t1 t2) (.int (a - b)) := EvQ.op (f := fun i j => .int (i - j)) (fun _ _ _ => .int _) h1 h2
theorem take_filter {α : Type} {l : List α} {a : α} {i : Nat} {p : α → Bool} (h : l[i]? = some a) : (l.take (i + 1)).filter p = (l.take i).filter p ++ (if p a = true then [a] else []) := by
  rw [List.take_add_one, h, List.filter_append]
  congr 1
  by_cases hp : p a = true
  · rw [if_pos hp]
    exact List.filter_cons_of_pos hp
  · rw [if_neg hp]
    exact List.filter_cons_of_neg hp
/-- a new list of such data -/
def EvN (K : PySem.W.Frag) (av : List Addr) (H0 : Hp) (σ : L2.St) (t : TE) (ds : List PyData) : Prop :=
  ∀ H, Same H0 H → ∀ Q : VK, (∀ a xs H', H a = none → Same H H' → H' a = some (.lst xs) → a ∉ av → DqAll K (wos av H') xs ds → Q (.ref a) H') → t σ H Q
theorem EvN.l (h : EvN K av H0 σ t ds) : EvL K av H0 σ t ds := fun H s Q q => h H s Q fun a xs H' _ s' ea na hx => q a xs H' s' ea na hx
/-- what one turn of a comprehension asks: the item is d, the test tells b, the new item is e -/
def LcTurn (K : PySem.W.Frag) (av : List Addr) (H0 : Hp) (σ : L2.St) (vs : List Nat) (g : TG) (tt : TT) (te : TE) (d : PyData) (p : Bool) (e : PyData) : Prop :=
  ∀ (x : V) (av' : List Addr) (H1 : Hp), (∀ b ∈ av, b ∈ av') → Avs av' H1 → Same (wos av H0) (wos av' H1) → Dq K (wos av' H1) x d → ∀ (R : VK) (N : Hp → Prop), (∀ y H', Same H1 H' → Dq K (wos av' H') y e → p = true → R y H') → (∀ H', Same H1 H' → p = false → N H') →
    g x (wipe σ vs) H1 fun σ2 H2 => wipe σ2 vs = wipe σ vs ∧ tt σ2 H2 fun b H3 => if b = true then te σ2 H3 R else N H3
variable {α : Type} {f F : α → PyData} {p : α → Bool} {l : List α}
theorem map_at {i : Nat} {d : PyData} (h : (l.map f)[i]? = some d) : ∃ a, l[i]? = some a ∧ d = f a := by
  rw [List.getElem?_map] at h
  cases e : l[i]? with
  | none => rw [e] at h; cases h
  | some a => rw [e] at h; exact ⟨a, rfl, (Option.some.inj h).symm⟩
end
section
variable {K : PySem.W.Frag} {av : List Addr} {H0 H1 : Hp} {σ : L2.St} {t t1 t2 t3 : TE} {ta tb : TA} {d e : PyData} {ds es : List PyData}
/-- a turn without a test -/
theorem LcTurn.plain {te : TE} {vs : List Nat} {i : Nat} (hw : ∀ x : V, wipe ((wipe σ vs).set i (some x)) vs = wipe σ vs) (hs : ∀ (x : V) (av' : List Addr) (H1 : Hp), (∀ b ∈ av, b ∈ av') → Avs av' H1 → Same (wos av H0) (wos av' H1) → Dq K (wos av' H1) x d → EvQ K av' H1 ((wipe σ vs).set i (some x)) te e) :
    LcTurn K av H0 σ vs (gName i) tYes te d true e := fun x av' H1 hin hav sw hx R N r _ =>
  ⟨hw x, hs x av' H1 hin hav sw hx H1 (Same.refl _) R fun y H' s hy => r y H' s hy rfl⟩
end
/-! ### the same, told twice -/
section
variable {K : PySem.W.Frag} {H : Hp}
mutual
theorem Dq.dp : ∀ {d : PyData} {v : V} {n : Nat}, Dq K H v d → Fit n d → Dp K H v d
  | _, _, _, .non, _ => .non
  | _, _, _, .bl b, _ => .bl b
  | _, _, _, .int i, _ => .int i
  | _, _, _, .str x, _ => .str x
  | _, _, n + 1, .lst h a, f => .lst h (DqAll.dp a f.2)
  | _, _, n + 1, .tup h a, f => .tup h (DqAll.dp a f.2)
  | _, _, n + 1, .dct _, f => f.elim
theorem DqAll.dp : ∀ {ds : List PyData} {vs : List V} {n : Nat}, DqAll K H vs ds → (∀ e ∈ ds, Fit n e) → DpAll K H vs ds
  | _, _, _, .nil, _ => .nil
  | _, _, _, .cons h t, f => .cons (Dq.dp h (f _ List.mem_cons_self)) (DqAll.dp t fun e he => f e (List.mem_cons_of_mem _ he))
end
end
theorem EvQ.same {K : PySem.W.Frag} {av : List Addr} {H0 : Hp} {σ : L2.St} {t1 t2 : TE} {d : PyData} {n : Nat} (h1 : EvQ K av H0 σ t1 d) (h2 : EvQ K av H0 σ t2 d) (f : Fit n d) : EvQ K av H0 σ (tCall (spSame K n) [] E0 (tCons t1 (tCons t2 tNil))) (.bool true) := fun H s Q q =>
  h1 H s _ fun x H1 s1 hx => h2 H1 (s.trans s1) _ fun y H2 s2 hy =>
    ⟨x, y, d, rfl, Dq.dp (Dq.same (wos_le.trans s2) hx) f, Dq.dp (Dq.same wos_le hy) f, f, fun H' s' => q _ _ (s1.trans (s2.trans s')) (.bl true)⟩
end My
namespace My
open PySem PySem.Spec PyProof.Rows L2
/-! ### tests of a while: what they tell may be asked less -/
def MonoE (t : TE) : Prop := ∀ (σ : L2.St) (H : Hp) (Q Q' : VK), (∀ x H1, Q x H1 → Q' x H1) → t σ H Q → t σ H Q'
def MonoT (t : TT) : Prop := ∀ (σ : L2.St) (H : Hp) (Q Q' : Bool → Hp → Prop), (∀ x H1, Q x H1 → Q' x H1) → t σ H Q → t σ H Q'
theorem MonoE.len {K : PySem.W.Frag} {t : TE} (h1 : MonoE t) : MonoE (tCB (rLenQ K) (tCons t tNil)) := fun _ _ _ _ h q => h1 _ _ _ _ (fun _ _ ⟨a, b, e1, e2, q⟩ => ⟨a, b, e1, e2, h _ _ q⟩) q
theorem MonoT.and {t u : TT} (h1 : MonoT t) (h2 : MonoT u) : MonoT (tAnd t u) := fun _ _ _ _ h q => h1 _ _ _ _ (fun c _ q => by
  cases c with
  | true => exact iteT (h2 _ _ _ _ h (show if (true : Bool) = true then _ else _ from q))
  | false => exact iteF (h _ _ q)) q
end My
set_option Elab.async false
set_option linter.all false
set_option maxRecDepth 100000
set_option maxHeartbeats 4000000
namespace My
open PySem PySem.Spec PyProof.Rows L2
/-! ### weights along an order -/
/-! the sums along an order of positive weights -/
end My
set_option Elab.async false
set_option linter.all false
set_option maxRecDepth 100000
set_option maxHeartbeats 4000000
namespace My
open PySem PySem.Spec PyProof.Rows L2
/-! ### a list of such data at an address -/
def LAt (K : PySem.W.Frag) (av : List Addr) (H : Hp) (a : Addr) (ds : List PyData) : Prop := a ∉ av ∧ ∃ xs, H a = some (.lst xs) ∧ DqAll K (wos av H) xs ds
section
variable {K : PySem.W.Frag} {av : List Addr} {H0 H H' : Hp} {σ : L2.St} {a p c : Addr} {ds : List PyData}
theorem LAt.same (hp : p ∈ av) (s : Same (wo p H) (wo p H')) (h : LAt K av H a ds) : LAt K av H' a ds := by
  obtain ⟨n, xs, e, hx⟩ := h
  exact ⟨n, xs, (wo_some (s _ _ ((wo_ne fun z => n (by rw [z]; exact hp)).trans e))).2, DqAll.same (My.Same.wos_of hp s) hx⟩
end
/-! ### sums over all places -/
end My
namespace My
open PySem PySem.Spec PyProof.Rows L2
end My
namespace My
open PySem PySem.Spec PyProof.Rows L2
end My
namespace My
open PySem PySem.Spec PyProof.Rows L2
end My
namespace My
open PySem PySem.Spec PyProof.Rows L2
end My
set_option Elab.async false
set_option linter.all false
set_option maxRecDepth 100000
set_option maxHeartbeats 4000000
namespace My
open PySem PySem.Spec PyProof.Rows L2
/-! ### t.count(k); sum of truths; the least of some tuples of numbers -/
variable {X : Cx}
def rCountT (K : PySem.W.Frag) : V → List V → Hp → VK → Prop := fun x xs H Q => ∃ (a : Addr) (ns : List Int) (k : Int), x = V.ref a ∧ xs = [.int k] ∧ SqT K H a (ns.map V.int) ∧ Q (.int ((ns.count k : Nat) : Int)) H
end My
set_option Elab.async false
set_option linter.all false
set_option maxRecDepth 100000
set_option maxHeartbeats 4000000
namespace My
open PySem PySem.Spec PyProof.Rows L2
/-! ### states, leaves and trees -/
def RoomsOk (T : List (Int × Int)) (rs ss : List Int) (rooms : List (List Int)) : Prop := rooms.length = rs.length ∧ ∀ (i : Nat) r z, rooms[i]? = some r → rs[i]? = some z → r.Nodup ∧ (∀ x, x ∈ r ↔ Reach T (lotN ss i) z x) ∧ r.length ≤ 12
def fullB (sz ss : List Int) (i : Nat) : Bool := decide (sz.getD i 0 < (ss.count (i : Int) : Nat))
def shortB (sz ss : List Int) (room : List Int) (i : Nat) : Bool := decide ((room.length : Int) < sz.getD i 0) || (List.range ss.length).any fun p => decide (ss.getD p 0 = (i : Int)) && !decide ((p : Int) ∈ room)
def takeB (sz ss : List Int) (rooms : List (List Int)) (p : Int) (i : Nat) : Bool := decide (((ss.count (i : Int) : Nat) : Int) < sz.getD i 0) && decide (p ∈ rooms.getD i [])
def takersN (sz ss : List Int) (rooms : List (List Int)) (p : Int) : Nat := ((List.range rooms.length).map (takeB sz ss rooms p)).countP id
def lostB (sz ss : List Int) (rooms : List (List Int)) (p : Nat) : Bool := decide (ss.getD p 0 = -1) && decide (takersN sz ss rooms (p : Int) = 0)
/-- a leaf of a tree, of the rooms -/
inductive LeafIs (sz ss : List Int) (rooms : List (List Int)) : PyData → Prop
  | full {i : Nat} : i < rooms.length → fullB sz ss i = true → LeafIs sz ss rooms (.tuple [.str "full", .int (i : Int)])
  | short {i : Nat} : i < rooms.length → shortB sz ss (rooms.getD i []) i = true → LeafIs sz ss rooms (.tuple [.str "short", .int (i : Int)])
  | lost {p : Nat} : p < ss.length → lostB sz ss rooms p = true → LeafIs sz ss rooms (.tuple [.str "lost", .int (p : Int)])
inductive TreeOk (T : List (Int × Int)) (rs sz : List Int) : List Int → PyData → Prop
  | leaf {ss : List Int} {rooms : List (List Int)} {d : PyData} : RoomsOk T rs ss rooms → LeafIs sz ss rooms d → TreeOk T rs sz ss d
  | cases {ss : List Int} {p : Nat} {pages : List PyData} : ss[p]? = some (-1) → pages.length = rs.length → (∀ (i : Nat) d, pages[i]? = some d → TreeOk T rs sz (ss.set p (i : Int)) d) → TreeOk T rs sz ss (.tuple [.str "cases", .int (p : Int), .tuple pages])
structure StateOk (n k : Nat) (rs ss : List Int) : Prop where
  len : ss.length = n
  bd : ∀ z ∈ ss, -1 ≤ z ∧ z < k
  root : ∀ (i : Nat) z, rs[i]? = some z → ss[z.toNat]? = some (i : Int)
/-- what the dealing keeps of the state -/
def Ext (ss zs : List Int) : Prop := zs.length = ss.length ∧ ∀ (j : Nat) z, ss[j]? = some z → z ≠ -1 → zs[j]? = some z
theorem mem_part {zs : List Int} {i x : Int} : x ∈ partL zs i ↔ 0 ≤ x ∧ zs[x.toNat]? = some i := by
  unfold partL
  rw [List.mem_filter, mem_ups]
  unfold inP
  rw [decide_eq_true_eq]
  constructor
  · rintro ⟨⟨h0, _⟩, h⟩
    exact ⟨h0, h⟩
  · rintro ⟨h0, h⟩
    have := (List.getElem?_eq_some_iff.mp h).1
    exact ⟨⟨h0, by omega⟩, h⟩
theorem mem_lotN_iff {ss : List Int} {i x : Int} : x ∈ lotN ss i ↔ 0 ≤ x ∧ (ss[x.toNat]? = some i ∨ ss[x.toNat]? = some (-1)) := by
  unfold lotN
  rw [List.mem_filter, mem_ups]
  unfold okP
  constructor
  · rintro ⟨⟨h0, h1⟩, h⟩
    refine ⟨h0, ?_⟩
    rw [List.getElem?_eq_getElem (by omega)] at h ⊢
    simp only [Bool.or_eq_true, decide_eq_true_eq] at h
    rcases h with h | h
    · exact .inl (congrArg some h)
    · exact .inr (congrArg some h)
  · rintro ⟨h0, h⟩
    rcases h with h | h
    · have := (List.getElem?_eq_some_iff.mp h).1
      refine ⟨⟨h0, by omega⟩, ?_⟩
      rw [h]
      simp
    · have := (List.getElem?_eq_some_iff.mp h).1
      refine ⟨⟨h0, by omega⟩, ?_⟩
      rw [h]
      simp
theorem part_count_aux (zs : List Int) (i : Int) : ∀ k, k ≤ zs.length → (((ups k).filter (inP zs i)).length = (zs.take k).count i)
  | 0, _ => by simp [ups]
  | k + 1, h => by
    rw [ups_succ, List.filter_append, List.length_append, part_count_aux zs i k (by omega), List.take_add_one, List.count_append, List.getElem?_eq_getElem (by omega)]
    congr 1
    have e : inP zs i (k : Int) = decide (zs[k] = i) := inP_at (List.getElem?_eq_getElem (by omega))
    by_cases hz : zs[k] = i
    · rw [List.filter_cons_of_pos (by rw [e]; exact decide_eq_true hz)]
      simp [hz]
    · rw [List.filter_cons_of_neg (by rw [e, decide_eq_false hz]; decide)]
      simp [List.count_cons, hz]
theorem part_count (zs : List Int) (i : Int) : (partL zs i).length = zs.count i := by
  have := part_count_aux zs i zs.length (Nat.le_refl _)
  rw [List.take_length] at this
  exact this
/-- a lot hangs: each of its places is reached from each -/
theorem hangs_reach {T : List (Int × Int)} {n : Nat} {lot : List Int} (hl : ∀ y ∈ lot, 0 ≤ y ∧ y < n) (h : hangsB T lot = true) {x y : Int} (hx : x ∈ lot) (hy : y ∈ lot) : Reach T lot x y := by
  unfold hangsB at h
  rw [@decide_eq_true_eq _ (Classical.propDecidable _)] at h
  obtain ⟨ps, hp, h1⟩ := h
  obtain ⟨rx, hrx⟩ := piece_ex (T := T) hl (hl x hx)
  obtain ⟨ry, hry⟩ := piece_ex (T := T) hl (hl y hy)
  have m1 := (hp.2.2 rx).mpr ⟨x, hx, hrx⟩
  have m2 := (hp.2.2 ry).mpr ⟨y, hy, hry⟩
  match ps, h1, m1, m2 with
  | [r], _, m1, m2 =>
    rw [List.mem_singleton] at m1 m2
    subst m1
    have := hry.self
    rw [m2] at this
    exact (hrx.2 y).mp this
/-- what parts are, of the numbers -/
theorem parts_iff {T : List (Int × Int)} {n : Nat} {rs sz zs : List Int} : partsD T n rs sz (tI zs) = true ↔ zs.length = n ∧ (∀ z ∈ zs, 0 ≤ z ∧ z < rs.length) ∧ ∀ i < rs.length, zs[(rs.getD i 0).toNat]? = some (i : Int) ∧ ((partL zs i).length : Int) = sz.getD i 0 ∧ hangsB T (partL zs i) = true := by
  unfold partsD tI dealingD
  simp only [Bool.and_eq_true, decide_eq_true_eq, List.all_eq_true, List.length_map, List.mem_range, intsOf_map]
  constructor
  · rintro ⟨⟨h1, h2⟩, h3⟩
    refine ⟨by omega, fun z hz => ?_, fun i hi => ?_⟩
    · have := h2 (.int z) (List.mem_map.mpr ⟨z, hz, rfl⟩)
      simpa [placeD] using this
    · have := h3 i hi
      unfold okPart at this
      simpa [Bool.and_eq_true] using this
  · rintro ⟨h1, h2, h3⟩
    refine ⟨⟨by omega, fun d hd => ?_⟩, fun i hi => ?_⟩
    · obtain ⟨z, hz, rfl⟩ := List.mem_map.mp hd
      have := h2 z hz
      simpa [placeD] using this
    · have := h3 i hi
      unfold okPart
      simpa [Bool.and_eq_true] using this
theorem count_le_ext {ss zs : List Int} (h : Ext ss zs) {i : Int} (hi : i ≠ -1) : ss.count i ≤ zs.count i := by
  have : ∀ (ss zs : List Int), zs.length = ss.length → (∀ (j : Nat) z, ss[j]? = some z → z ≠ -1 → zs[j]? = some z) → ss.count i ≤ zs.count i := by
    intro ss
    induction ss with
    | nil => intro zs _ _; simp
    | cons s ss ih =>
      intro zs hl h
      cases zs with
      | nil => simp at hl
      | cons z zs =>
        have h1 := ih zs (by simpa using hl) fun j y e n => h (j + 1) y (by simpa using e) n
        rw [List.count_cons, List.count_cons]
        by_cases e : s = i
        · have := h 0 s (by simp) (by rw [e]; exact hi)
          have e2 : z = s := by simpa using this
          rw [e2]
          omega
        · have : ¬ (s == i) = true := by simpa using e
          rw [if_neg this]
          omega
  exact this ss zs h.1 h.2
theorem part_sub_lot {ss zs : List Int} (h : Ext ss zs) {i : Int} {x : Int} (hx : x ∈ partL zs i) : x ∈ lotN ss i := by
  obtain ⟨h0, hz⟩ := mem_part.mp hx
  refine mem_lotN_iff.mpr ⟨h0, ?_⟩
  have hl := (List.getElem?_eq_some_iff.mp hz).1
  rw [h.1] at hl
  have e := List.getElem?_eq_getElem hl
  by_cases hm : ss[x.toNat] = -1
  · exact .inr (by rw [e, hm])
  · have := h.2 _ _ e hm
    rw [this] at hz
    exact .inl (by rw [e]; exact hz)
/-- the places of part i are in its room -/
theorem part_room {T : List (Int × Int)} {n : Nat} {rs sz ss zs r : List Int} {rooms : List (List Int)} {i : Nat} (hp : partsD T n rs sz (tI zs) = true) (he : Ext ss zs) (hR : RoomsOk T rs ss rooms) (hi : i < rs.length) (hr : rooms[i]? = some r) (hb : ∀ z ∈ rs, 0 ≤ z) : ∀ x ∈ partL zs i, x ∈ r := by
  obtain ⟨h1, h2, h3⟩ := parts_iff.mp hp
  obtain ⟨a, b, c⟩ := h3 i hi
  have ez : rs[i]? = some (rs.getD i 0) := by
    rw [List.getD_eq_getElem?_getD, List.getElem?_eq_getElem hi]
    rfl
  obtain ⟨_, hm, _⟩ := hR.2 i r _ hr ez
  intro x hx
  have hroot : rs.getD i 0 ∈ partL zs i := mem_part.mpr ⟨hb _ (List.mem_of_getElem? ez), a⟩
  have hbd : ∀ y ∈ partL zs (i : Int), 0 ≤ y ∧ y < zs.length := fun y hy => mem_partL hy
  exact (hm x).mpr (reach_mono (hangs_reach hbd c hroot hx) fun y hy => part_sub_lot he hy)
theorem part_nodup {zs : List Int} {i : Int} : (partL zs i).Nodup := lt_nodup partL_up
/-- a leaf: no dealing that goes on from the state is parts -/
theorem LeafIs.no {T : List (Int × Int)} {n : Nat} {rs sz ss zs : List Int} {rooms : List (List Int)} {d : PyData} (hR : RoomsOk T rs ss rooms) (hb : ∀ z ∈ rs, 0 ≤ z) (h : LeafIs sz ss rooms d) (hp : partsD T n rs sz (tI zs) = true) (he : Ext ss zs) : False := by
  obtain ⟨h1, h2, h3⟩ := parts_iff.mp hp
  cases h with
  | @full i hi hf =>
    rw [hR.1] at hi
    obtain ⟨_, b, _⟩ := h3 i hi
    have := count_le_ext he (i := (i : Int)) (by omega)
    rw [← part_count zs] at this
    unfold fullB at hf
    rw [decide_eq_true_eq] at hf
    omega
  | @short i hi hs =>
    have hik := hi
    rw [hR.1] at hik
    obtain ⟨_, b, _⟩ := h3 i hik
    have er : rooms[i]? = some (rooms.getD i []) := by
      rw [List.getD_eq_getElem?_getD, List.getElem?_eq_getElem hi]
      rfl
    have hin := part_room hp he hR hik er hb
    unfold shortB at hs
    rw [Bool.or_eq_true, decide_eq_true_eq, List.any_eq_true] at hs
    rcases hs with hs | ⟨p, hpr, hs⟩
    · have := len_sub part_nodup hin
      omega
    · rw [Bool.and_eq_true, decide_eq_true_eq, Bool.not_eq_true', decide_eq_false_iff_not] at hs
      have hpl := List.mem_range.mp hpr
      refine hs.2 (hin _ (mem_part.mpr ⟨by omega, ?_⟩))
      have e := List.getElem?_eq_getElem hpl
      have : ss.getD p 0 = ss[p] := by
        rw [List.getD_eq_getElem?_getD, e]
        rfl
      rw [this] at hs
      rw [Int.toNat_natCast, ← hs.1]
      exact he.2 p _ e (by omega)
  | @lost p hpl hl =>
    unfold lostB at hl
    rw [Bool.and_eq_true, decide_eq_true_eq, decide_eq_true_eq] at hl
    have e : zs[p]? = some (zs[p]'(by rw [he.1]; exact hpl)) := List.getElem?_eq_getElem _
    have hz := h2 _ (List.mem_of_getElem? e)
    generalize zs[p]'(by rw [he.1]; exact hpl) = z at e hz
    obtain ⟨i, rfl⟩ : ∃ i : Nat, z = (i : Int) := ⟨z.toNat, by omega⟩
    have hi : i < rs.length := by omega
    obtain ⟨_, b, _⟩ := h3 i hi
    have hi2 : i < rooms.length := by rw [hR.1]; exact hi
    have er : rooms[i]? = some (rooms.getD i []) := by
      rw [List.getD_eq_getElem?_getD, List.getElem?_eq_getElem hi2]
      rfl
    have hin := part_room hp he hR hi er hb (p : Int) (mem_part.mpr ⟨by omega, by rw [Int.toNat_natCast]; exact e⟩)
    have hlt : ss.count (i : Int) < zs.count (i : Int) := by
      have es : ss[p]? = some (-1) := by
        rw [List.getElem?_eq_getElem hpl]
        have : ss.getD p 0 = ss[p] := by
          rw [List.getD_eq_getElem?_getD, List.getElem?_eq_getElem hpl]
          rfl
        rw [← this, hl.1]
      have he2 : Ext (ss.set p (i : Int)) zs := ⟨by rw [List.length_set]; exact he.1, fun j y ey hy => by
        rw [List.getElem?_set] at ey
        split at ey
        · next h =>
          subst h
          cases ey
          exact e
        · exact he.2 j y ey hy⟩
      have h4 := count_le_ext he2 (i := (i : Int)) (by omega)
      have h5 : (ss.set p (i : Int)).count (i : Int) = ss.count (i : Int) + 1 := by
        rw [List.count_set hpl]
        have : ss[p] = -1 := by
          rw [List.getElem?_eq_getElem hpl] at es
          exact Option.some.inj es
        rw [this]
        simp
      omega
    have ht : takeB sz ss rooms (p : Int) i = true := by
      unfold takeB
      rw [Bool.and_eq_true, decide_eq_true_eq, decide_eq_true_eq]
      refine ⟨?_, hin⟩
      rw [← b, part_count]
      omega
    have := hl.2
    unfold takersN at this
    rw [List.countP_eq_zero] at this
    exact this true (List.mem_map.mpr ⟨i, List.mem_range.mpr hi2, ht⟩) rfl
theorem TreeOk.no {T : List (Int × Int)} {n : Nat} {rs sz : List Int} (hb : ∀ z ∈ rs, 0 ≤ z) {ss : List Int} {d : PyData} (h : TreeOk T rs sz ss d) : ∀ zs, partsD T n rs sz (tI zs) = true → Ext ss zs → False := by
  induction h with
  | leaf hR hL => exact fun zs hp he => hL.no hR hb hp he
  | @cases ss p pages hp hl hc ih =>
    intro zs hz he
    obtain ⟨h1, h2, h3⟩ := parts_iff.mp hz
    have hpl := (List.getElem?_eq_some_iff.mp hp).1
    have e : zs[p]? = some (zs[p]'(by rw [he.1]; exact hpl)) := List.getElem?_eq_getElem _
    have hzz := h2 _ (List.mem_of_getElem? e)
    generalize zs[p]'(by rw [he.1]; exact hpl) = z at e hzz
    obtain ⟨i, rfl⟩ : ∃ i : Nat, z = (i : Int) := ⟨z.toNat, by omega⟩
    have hi : i < pages.length := by rw [hl]; omega
    refine ih i _ (List.getElem?_eq_getElem hi) zs hz ⟨by rw [List.length_set]; exact he.1, fun j y ey hy => ?_⟩
    rw [List.getElem?_set] at ey
    split at ey
    · next h =>
      subst h
      cases ey
      exact e
    · exact he.2 j y ey hy
end My
set_option Elab.async false
set_option linter.all false
set_option maxRecDepth 100000
set_option maxHeartbeats 4000000
namespace My
open PySem PySem.Spec PyProof.Rows L2
theorem StateOk.put {n k : Nat} {rs ss : List Int} {p i : Nat} (h : StateOk n k rs ss) (hp : ss[p]? = some (-1)) (hi : i < k) : StateOk n k rs (ss.set p (i : Int)) := by
  refine ⟨by rw [List.length_set]; exact h.len, fun z hz => ?_, fun j z ej => ?_⟩
  · rcases List.mem_or_eq_of_mem_set hz with hz | rfl
    · exact h.bd z hz
    · omega
  · have := h.root j z ej
    rw [List.getElem?_set]
    split
    · next e =>
      subst e
      rw [hp] at this
      have := Option.some.inj this
      omega
    · exact this
/-! what the defs promise -/
structure TreeIn (K : PySem.W.Frag) (H : Hp) (nr dq st : Addr) (n : Nat) (T : List (Int × Int)) (rs sz ss : List Int) : Prop where
  near : NearAt K H nr n T
  web : WebOk n T
  n12 : n ≤ 12
  deal : DealAt K H dq rs sz
  bd : ∀ z ∈ rs, 0 ≤ z ∧ z < n
  k12 : rs.length ≤ 12
  sizes : sz.length = rs.length
  state : Plain H st (ss.map V.int)
  ok : StateOk n rs.length rs ss
theorem TreeIn.same {K : PySem.W.Frag} {H H' : Hp} {nr dq st : Addr} {n : Nat} {T : List (Int × Int)} {rs sz ss : List Int} (s : Same H H') (h : TreeIn K H nr dq st n T rs sz ss) : TreeIn K H' nr dq st n T rs sz ss :=
  ⟨h.near.same s, h.web, h.n12, h.deal.same s, h.bd, h.k12, h.sizes, h.state.same s, h.ok⟩
/-- parts that go on from the state, or a tree -/
def PorT (K : PySem.W.Frag) (H : Hp) (T : List (Int × Int)) (n : Nat) (rs sz ss : List Int) (x y : V) : Prop :=
  (∃ (pq : Addr) (zs : List Int), x = .ref pq ∧ y = .non ∧ Plain H pq (zs.map V.int) ∧ partsD T n rs sz (tI zs) = true) ∨ (∃ (tq : Addr) (d : PyData), x = .non ∧ y = .ref tq ∧ Dq K H y d ∧ TreeOk T rs sz ss d)
theorem PorT.same {K : PySem.W.Frag} {H H' : Hp} {T : List (Int × Int)} {n : Nat} {rs sz ss : List Int} {x y : V} (s : Same H H') (h : PorT K H T n rs sz ss x y) : PorT K H' T n rs sz ss x y := by
  rcases h with ⟨pq, zs, rfl, rfl, h1, h2⟩ | ⟨tq, d, rfl, rfl, h1, h2⟩
  · exact .inl ⟨pq, zs, rfl, rfl, h1.same s, h2⟩
  · exact .inr ⟨tq, d, rfl, rfl, Dq.same s h1, h2⟩
end My
set_option Elab.async false
set_option linter.all false
set_option maxRecDepth 100000
set_option maxHeartbeats 4000000
namespace My
open PySem PySem.Spec PyProof.Rows L2
/-! ### comprehensions over enumerate, and with a pair as the target -/
section
variable {K : PySem.W.Frag} {av : List Addr} {H0 H1 : Hp} {σ : L2.St} {t t1 t2 t3 : TE} {ta tb : TA} {d e d1 d2 : PyData} {ds es : List PyData} {α : Type} {f : α → PyData} {F : α × Nat → PyData} {p : α × Nat → Bool} {l : List α}
/-- a turn whose target is a pair -/
theorem LcTurn.pair {te tt : TE} {vs : List Nat} {i j : Nat} {b : Bool} (hw : ∀ x y : V, wipe (((wipe σ vs).set i (some x)).set j (some y)) vs = wipe σ vs) (hs : ∀ (x y : V) (av' : List Addr) (H1 : Hp), (∀ b ∈ av, b ∈ av') → Avs av' H1 → Same (wos av H0) (wos av' H1) → Dq K (wos av' H1) x d1 → Dq K (wos av' H1) y d2 → EvQ K av' H1 (((wipe σ vs).set i (some x)).set j (some y)) tt (.bool b) ∧ (b = true → EvQ K av' H1 (((wipe σ vs).set i (some x)).set j (some y)) te e)) :
    LcTurn K av H0 σ vs (gTup K 2 (gCons (gName i) (gCons (gName j) gNil))) (tTest tt) te (.tuple [d1, d2]) b e := fun x av' H1 hin hav sw hx R N r nn => by
  obtain ⟨T, xs, rfl, hT, hxs⟩ := hx.un_tup
  cases hxs with
  | cons hv1 hxs =>
    cases hxs with
    | cons hv2 hxs =>
      cases hxs
      obtain ⟨h1, h2⟩ := hs _ _ av' H1 hin hav sw hv1 hv2
      refine ⟨T, _, rfl, My.Same.sqt wos_le hT, rfl, _, _, rfl, _, _, rfl, rfl, hw _ _, h1 H1 (Same.refl _) _ fun y H' s hy => ?_⟩
      cases hy
      refine ⟨b, rfl, ?_⟩
      cases b with
      | true => exact iteT (h2 rfl H' s R fun y H'' s' hy => r y H'' (s.trans s') hy rfl)
      | false => exact iteF (nn H' s rfl)
end
section
variable {K : PySem.W.Frag} {av : List Addr} {H0 H1 : Hp} {σ : L2.St} {t t1 t2 t3 : TE} {d e : PyData} {ds es : List PyData}
/-- a and b, as a value -/
theorem EvQ.and {b c : Bool} (h1 : EvQ K av H0 σ t1 (.bool b)) (h2 : EvQ K av H0 σ t2 (.bool c)) : EvQ K av H0 σ (tAndV t1 t2) (.bool (b && c)) := fun H s Q q =>
  h1 H s _ fun x H1 s1 hx => by
    cases hx
    refine ⟨b, rfl, ?_⟩
    cases b with
    | true => exact iteT (h2 H1 (s.trans s1) _ fun y H2 s2 hy => q y H2 (s1.trans s2) (by simpa using hy))
    | false => exact iteF (q _ _ s1 (.bl false))
end
end My
set_option Elab.async false
set_option linter.all false
set_option maxRecDepth 100000
set_option maxHeartbeats 4000000
namespace My
open PySem PySem.Spec PyProof.Rows L2
section
variable {K : PySem.W.Frag} {av : List Addr} {H0 H1 : Hp} {σ : L2.St} {t t1 t2 t3 : TE} {d e : PyData} {ds es : List PyData}
theorem EvQ.count {i : Nat} {st : Addr} {ss : List Int} {k : Int} (e : σ[i]? = some (some (.ref st))) (hP : Plain (wos av H0) st (ss.map V.int)) (h2 : EvQ K av H0 σ t2 (.int k)) : EvQ K av H0 σ (tBF (rCountT K) (tVar i) (tCons t2 tNil)) (.int ((ss.count k : Nat) : Int)) := fun H s Q q => by
  have hP2 := hP.same (wos_le.trans s)
  refine ⟨_, e, ⟨st, _, rfl, hP2⟩, h2 H s _ fun y H2 s2 hy => ?_⟩
  cases hy
  exact ⟨st, ss, k, rfl, rfl, (hP2.same s2).sqt, q _ _ s2 (.int _)⟩
theorem EvQ.plain {i : Nat} {st : Addr} {ss : List Int} (e : σ[i]? = some (some (.ref st))) (hP : Plain (wos av H0) st (ss.map V.int)) : EvQ K av H0 σ (tVar i) (.tuple (ss.map PyData.int)) := EvQ.var e (Dq.ofTI hP.sqt)
/-- data as an expression's value, told by a name -/
theorem DealAt.nil {H : Hp} {a : Addr} {rs sz : List Int} (h : DealAt K H a rs sz) : Dq K (wos [] H) (.ref a) (.tuple [tI rs, tI sz]) := Dq.same wo_nil h.dq
end
end My
namespace My
open PySem PySem.Spec PyProof.Rows L2
theorem NearAt.dq {K : PySem.W.Frag} {H : Hp} {a : Addr} {n : Nat} {T : List (Int × Int)} (h : NearAt K H a n T) : Dq K H (.ref a) (.list ((List.range n).map fun i : Nat => .tuple ((nearS T (i : Int)).map PyData.int))) := by
  obtain ⟨us, h1, h2, h3⟩ := h
  refine .lst h1 ?_
  have : ∀ (us : List V) (k m : Nat), us.length = m → (∀ (i : Nat) (x : V), us[i]? = some x → ∃ t, x = .ref t ∧ SqT K H t ((nearS T ((k + i : Nat) : Int)).map V.int)) → DqAll K H us ((List.range' k m).map fun i : Nat => .tuple ((nearS T (i : Int)).map PyData.int)) := fun us => by
    induction us with
    | nil => intro k m hm _; subst hm; exact .nil
    | cons u us ih =>
      intro k m hm h
      subst hm
      rw [List.length_cons, List.range'_succ, List.map_cons]
      obtain ⟨t, rfl, ht⟩ := h 0 u rfl
      refine .cons (Dq.ofTI ht) (ih (k + 1) us.length rfl fun i x e => ?_)
      have := h (i + 1) x (by simpa using e)
      rw [show k + (i + 1) = k + 1 + i by omega] at this
      exact this
  rw [List.range_eq_range']
  exact this us 0 n h2 fun i x e => by
    rw [Nat.zero_add]
    exact h3 i x e
/-- one more item of data at a list that grows -/
theorem grow {K : PySem.W.Frag} {D : Addr} {H : Hp} {us : List V} {ds : List PyData} {y : V} {d : PyData} (hus : DqAll K (wo D H) us ds) (hy : Dq K (wo D H) y d) : DqAll K (wo D (upd H D (.lst (us ++ [y])))) (us ++ [y]) (ds ++ [d]) :=
  DqAll.append (DqAll.same My.Same.put hus) (.cons (Dq.same My.Same.put hy) .nil)
end My
set_option Elab.async false
set_option linter.all false
set_option maxRecDepth 100000
set_option maxHeartbeats 4000000
namespace My
open PySem PySem.Spec PyProof.Rows L2
end My
set_option Elab.async false
set_option linter.all false
set_option maxRecDepth 100000
set_option maxHeartbeats 4000000
namespace My
open PySem PySem.Spec PyProof.Rows L2
/-! ### x not in l, l a list of data -/
section
variable {X : Cx}
def rNotInDL (K : PySem.W.Frag) : R2 := fun x y H Q => ∃ d ds, Dp K H x d ∧ Dp K H y (.list ds) ∧ d.canLay0 = true ∧ d.depth ≤ 8 ∧ PyData.canLayAll0 ds = true ∧ Q (.bl (!ds.any fun z => PyData.eqv z d)) H
theorem op_notInDL (hu : X.A.units + 64 < cLine) : OpR X (compareOp .NotIn) (rNotInDL X.K) := by
  intro pins s σ H x y v u Q I rx ry h
  obtain ⟨d, ds, hd, he, sd, dd, se, q⟩ := h
  obtain ⟨as, r1⟩ := Dp.reads I d x v hd rx
  obtain ⟨bs, r2⟩ := Dp.reads I (.list ds) y u he ry
  refine SeqAt.notIn_list_reads r2 r1 se sd ?_ ⟨.bl _, H, I, rfl, q⟩
  have : min (PyData.depthAll ds) d.depth ≤ d.depth := Nat.min_le_right _ _
  omega
theorem notInDL (K : PySem.W.Frag) (hu : X.A.units + 64 < cLine) (h : X.K = K := by rfl) : OpR X (compareOp .NotIn) (rNotInDL K) := by subst h; exact op_notInDL hu
end
theorem eqv_tIs : ∀ a b : List Int, PyData.eqv (tI a) (tI b) = decide (a = b) := by
  have h : ∀ a b : List Int, PyData.eqvAll (a.map PyData.int) (b.map PyData.int) = decide (a = b) := fun a => by
    induction a with
    | nil =>
      intro b
      cases b with
      | nil => rfl
      | cons y b => rfl
    | cons x a ih =>
      intro b
      cases b with
      | nil => rfl
      | cons y b =>
        rw [List.map_cons, List.map_cons]
        show ((x == y) && PyData.eqvAll _ _) = _
        rw [ih, Bool.eq_iff_iff, Bool.and_eq_true, decide_eq_true_eq, decide_eq_true_eq, List.cons.injEq, beq_iff_eq]
  intro a b
  exact h a b
theorem any_eqv {L : List (List Int)} {r : List Int} : ((L.map tI).any fun z => PyData.eqv z (tI r)) = decide (r ∈ L) := by
  induction L with
  | nil => rfl
  | cons t L ih =>
    rw [List.map_cons, List.any_cons, ih, eqv_tIs, Bool.eq_iff_iff, Bool.or_eq_true, decide_eq_true_eq, decide_eq_true_eq, decide_eq_true_eq, List.mem_cons]
    constructor
    · rintro (h | h)
      · exact .inl h.symm
      · exact .inr h
    · rintro (h | h)
      · exact .inl h.symm
      · exact .inr h
theorem eqv_nil {ds : List PyData} : PyData.eqv (.list ds) (.list []) = decide (ds = []) := by
  cases ds <;> rfl
/-! ### all dealings with the roots in their parts -/
def optsL (k : Nat) (rs : List Int) (j : Int) : List Int := if j ∈ rs then [((ixOf rs j : Nat) : Int)] else ups k
def dealsL (k : Nat) (rs : List Int) : Nat → List (List Int)
  | 0 => [[]]
  | j + 1 => (dealsL k rs j).flatMap fun d => (optsL k rs (j : Int)).map fun i => d ++ [i]
theorem mem_dealsL {k : Nat} {rs : List Int} : ∀ {n : Nat} {r : List Int}, r ∈ dealsL k rs n ↔ r.length = n ∧ ∀ (j : Nat) z, r[j]? = some z → z ∈ optsL k rs (j : Int)
  | 0, r => by
    unfold dealsL
    rw [List.mem_singleton]
    constructor
    · rintro rfl
      exact ⟨rfl, fun j z e => by simp at e⟩
    · rintro ⟨h, _⟩
      exact List.length_eq_zero_iff.mp h
  | n + 1, r => by
    unfold dealsL
    rw [List.mem_flatMap]
    constructor
    · rintro ⟨d, hd, hr⟩
      obtain ⟨i, hi, rfl⟩ := List.mem_map.mp hr
      obtain ⟨h1, h2⟩ := mem_dealsL.mp hd
      refine ⟨by rw [List.length_append, h1]; rfl, fun j z e => ?_⟩
      by_cases hj : j < d.length
      · rw [List.getElem?_append_left hj] at e
        exact h2 j z e
      · have hjl := (List.getElem?_eq_some_iff.mp e).1
        rw [List.length_append] at hjl
        simp at hjl
        have : j = d.length := by omega
        subst this
        rw [List.getElem?_append_right (Nat.le_refl _), Nat.sub_self] at e
        cases e
        rw [h1]
        exact hi
    · rintro ⟨h1, h2⟩
      have hl : n < r.length := by omega
      refine ⟨r.take n, mem_dealsL.mpr ⟨by rw [List.length_take]; omega, fun j z e => ?_⟩, List.mem_map.mpr ⟨r[n], h2 n _ (List.getElem?_eq_getElem hl), ?_⟩⟩
      · rw [List.getElem?_take] at e
        split at e
        · exact h2 j z e
        · cases e
      · rw [← List.take_succ_eq_append_getElem hl, List.take_of_length_le (by omega)]
theorem mem_optsL {k : Nat} {rs : List Int} {j z : Int} (hk : rs.length = k) (h : z ∈ optsL k rs j) : 0 ≤ z ∧ z < k := by
  unfold optsL at h
  split at h
  · next hm =>
    rw [List.mem_singleton] at h
    have := ixOf_lt hm
    omega
  · exact mem_ups.mp h
theorem dealsL_bd {k n : Nat} {rs r : List Int} (hk : rs.length = k) (h : r ∈ dealsL k rs n) : DealtTo n k r := by
  obtain ⟨h1, h2⟩ := mem_dealsL.mp h
  refine ⟨h1, fun x hx => ?_⟩
  obtain ⟨j, hj, e⟩ := List.getElem_of_mem hx
  exact mem_optsL hk (h2 j x (by rw [List.getElem?_eq_getElem hj, e]))
/-! how many -/
theorem optsL_len {k : Nat} {rs : List Int} (j : Int) : (optsL k rs j).length = if j ∈ rs then 1 else k := by
  unfold optsL
  split
  · rfl
  · exact ups_len k
theorem dealsL_step {k : Nat} {rs : List Int} (j : Nat) : (dealsL k rs (j + 1)).length = (dealsL k rs j).length * (optsL k rs (j : Int)).length := by
  show ((dealsL k rs j).flatMap _).length = _
  generalize dealsL k rs j = L
  induction L with
  | nil => simp
  | cons d L ih =>
    rw [List.flatMap_cons, List.length_append, ih, List.length_map, List.length_cons, Nat.succ_mul]
    omega
theorem countP_step {rs : List Int} (j : Nat) : rs.countP (fun z => decide (0 ≤ z ∧ z < ((j + 1 : Nat) : Int))) = rs.countP (fun z => decide (0 ≤ z ∧ z < (j : Int))) + rs.count (j : Int) := by
  induction rs with
  | nil => rfl
  | cons z rs ih =>
    rw [List.countP_cons, List.countP_cons, List.count_cons, ih]
    by_cases h1 : z = (j : Int)
    · subst h1
      rw [if_pos (decide_eq_true (by omega)), if_neg (by rw [decide_eq_true_eq]; omega), if_pos (by simp)]
      omega
    · rw [if_neg (show ¬ (z == (j : Int)) = true by simpa using h1)]
      by_cases h2 : 0 ≤ z ∧ z < (j : Int)
      · rw [if_pos (decide_eq_true (by omega)), if_pos (decide_eq_true h2)]
        omega
      · rw [if_neg (by rw [decide_eq_true_eq]; omega), if_neg (by rw [decide_eq_true_eq]; exact h2)]
        omega
theorem dealsL_pow {k : Nat} {rs : List Int} (nd : rs.Nodup) : ∀ j, (dealsL k rs j).length * k ^ (rs.countP fun z => decide (0 ≤ z ∧ z < (j : Int))) = k ^ j
  | 0 => by
    have : rs.countP (fun z => decide (0 ≤ z ∧ z < ((0 : Nat) : Int))) = 0 := by
      rw [List.countP_eq_zero]
      intro z _
      rw [decide_eq_true_eq]
      omega
    rw [this]
    rfl
  | j + 1 => by
    have ih := dealsL_pow (k := k) nd j
    rw [dealsL_step, countP_step, optsL_len]
    by_cases hm : (j : Int) ∈ rs
    · rw [if_pos hm, nd.count, if_pos hm, Nat.mul_one, Nat.pow_succ, ← Nat.mul_assoc, ih, Nat.pow_succ]
    · rw [if_neg hm, nd.count, if_neg hm, Nat.add_zero, Nat.mul_assoc, Nat.mul_comm k, ← Nat.mul_assoc, ih, Nat.pow_succ]
/-! what the law's defs promise -/
end My
set_option Elab.async false
set_option linter.all false
set_option maxRecDepth 100000
set_option maxHeartbeats 4000000
namespace My
open PySem PySem.Spec PyProof.Rows L2
theorem DqAll.dpTs {K : PySem.W.Frag} {H : Hp} : ∀ {L : List (List Int)} {xs : List V}, DqAll K H xs (L.map tI) → DpAll K H xs (L.map tI)
  | [], _, .nil => .nil
  | r :: L, _, .cons h t => by
    obtain ⟨a, rfl, hs⟩ := Dq.sqI2 h
    exact .cons (Dp.ofTI hs) (DqAll.dpTs t)
end My
set_option Elab.async false
set_option linter.all false
set_option maxRecDepth 100000
set_option maxHeartbeats 4000000
namespace My
open PySem PySem.Spec PyProof.Rows L2
/-! ### an order and the dealings along it -/
end My
set_option Elab.async false
set_option linter.all false
set_option maxRecDepth 100000
set_option maxHeartbeats 4000000
namespace My
open PySem PySem.Spec PyProof.Rows L2
/-! all orders, made place by place -/
/-! what the law's defs promise -/
end My
set_option Elab.async false
set_option linter.all false
set_option maxRecDepth 100000
set_option maxHeartbeats 4000000
namespace My
open PySem PySem.Spec PyProof.Rows L2
section
variable {K : PySem.W.Frag} {av : List Addr} {H0 H1 : Hp} {σ : L2.St} {t t1 t2 : TE} {d e : PyData}
/-- a turn with two tests, joined by and -/
theorem LcTurn.and {te u1 u2 : TE} {vs : List Nat} {i : Nat} {b c : Bool} (hw : ∀ x : V, wipe ((wipe σ vs).set i (some x)) vs = wipe σ vs) (hs : ∀ (x : V) (av' : List Addr) (H1 : Hp), (∀ b ∈ av, b ∈ av') → Avs av' H1 → Same (wos av H0) (wos av' H1) → Dq K (wos av' H1) x d →
      EvQ K av' H1 ((wipe σ vs).set i (some x)) u1 (.bool b) ∧ EvQ K av' H1 ((wipe σ vs).set i (some x)) u2 (.bool c) ∧ EvQ K av' H1 ((wipe σ vs).set i (some x)) te e) :
    LcTurn K av H0 σ vs (gName i) (tAnd (tTest u1) (tTest u2)) te d (b && c) e := fun x av' H1 hin hav sw hx R N r nn => by
  obtain ⟨h1, h2, h3⟩ := hs x av' H1 hin hav sw hx
  refine ⟨hw x, h1 H1 (Same.refl _) _ fun y H' s hy => ?_⟩
  cases hy
  refine ⟨b, rfl, ?_⟩
  cases b with
  | false => exact iteF (iteF (nn H' s rfl))
  | true =>
    refine iteT (h2 H' s _ fun y H'' s2 hy => ?_)
    cases hy
    refine ⟨c, rfl, ?_⟩
    cases c with
    | false => exact iteF (nn H'' (s.trans s2) rfl)
    | true => exact iteT (h3 H'' (s.trans s2) R fun y H3 s3 hy => r y H3 (s.trans (s2.trans s3)) hy rfl)
end
end My
set_option Elab.async false
set_option linter.all false
set_option maxRecDepth 100000
set_option maxHeartbeats 4000000
namespace My
open PySem PySem.Spec PyProof.Rows L2
def AvL (av : List Addr) (H : Hp) : Prop := ∀ b ∈ av, ∃ us, H b = some (.lst us)
section
variable {K : PySem.W.Frag} {av : List Addr} {H0 H1 H H' : Hp} {σ : L2.St} {t t1 t2 t3 : TE} {d e : PyData} {ds : List PyData}
theorem AvL.same (s : Same H H') (h : AvL av H) : AvL av H' := fun b hb => by
  obtain ⟨us, e⟩ := h b hb
  exact ⟨us, s _ _ e⟩
theorem AvL.avs (h : AvL av H) : Avs av H := fun b hb => by
  obtain ⟨us, e⟩ := h b hb
  exact ⟨_, e⟩
theorem LAt.pen {p q : Addr} {L : List (List Int)} {us : List V} (hp : H p = some (.lst us)) (hne : q ≠ p) (h : LAt K [] H q (L.map tI)) : LAt K [p] H q (L.map tI) := by
  obtain ⟨_, xs, ea, hx⟩ := h
  exact ⟨fun z => hne (List.mem_singleton.mp z), xs, ea, DqAll.same wo_wos (DqAll.woL hp (DqAll.same wos_le hx) (noL_tIs L))⟩
end
end My
set_option Elab.async false
set_option linter.all false
set_option maxRecDepth 100000
set_option maxHeartbeats 4000000
namespace My
open PySem PySem.Spec PyProof.Rows L2
/-! ### standings -/
def bD (bs : List (Int × Int)) : PyData := .tuple ((bs.map prI).map tI)
def withinB (b : Int × Int) (l : Nat) : Bool := decide (b.1 ≤ (l : Int)) && decide ((l : Int) ≤ b.2)
noncomputable def okStand (T : List (Int × Int)) (rs : List Int) (bs : List (Int × Int)) (zs : List Int) (i : Nat) : Bool := decide (zs[(rs.getD i 0).toNat]? = some (i : Int)) && (withinB (bs.getD i (0, 0)) (partL zs i).length && hangsB T (partL zs i))
noncomputable def standD (T : List (Int × Int)) (n : Nat) (rs : List Int) (bs : List (Int × Int)) (d : PyData) : Bool := match d with
  | .tuple ds => dealingD n rs.length (.tuple ds) && (List.range rs.length).all (okStand T rs bs (intsOf ds))
  | _ => false
end My
set_option Elab.async false
set_option linter.all false
set_option maxRecDepth 100000
set_option maxHeartbeats 4000000
namespace My
open PySem PySem.Spec PyProof.Rows L2
end My
set_option Elab.async false
set_option linter.all false
set_option maxRecDepth 100000
set_option maxHeartbeats 4000000
namespace My
open PySem PySem.Spec PyProof.Rows L2
noncomputable def standL (T : List (Int × Int)) (n : Nat) (rs : List Int) (bs : List (Int × Int)) : List (List Int) := (dealsL rs.length rs n).filter fun r => standD T n rs bs (tI r)
end My
set_option Elab.async false
set_option linter.all false
set_option maxRecDepth 100000
set_option maxHeartbeats 4000000
namespace My
open PySem PySem.Spec PyProof.Rows L2
end My
set_option Elab.async false
set_option linter.all false
set_option maxRecDepth 100000
set_option maxHeartbeats 4000000
namespace My
open PySem PySem.Spec PyProof.Rows L2
/-! ### all dealings are in order -/
/-! ### moves -/
def apartB (zs r : List Int) : Bool := decide (((List.range zs.length).filter fun p => !decide (zs.getD p 0 = r.getD p 0)).length = 1)
end My
set_option Elab.async false
set_option linter.all false
set_option maxRecDepth 100000
set_option maxHeartbeats 4000000
namespace My
open PySem PySem.Spec PyProof.Rows L2
/-- the standings a move away, in order -/
noncomputable def nextL (T : List (Int × Int)) (n : Nat) (rs : List Int) (bs : List (Int × Int)) (zs : List Int) : List (List Int) := (standL T n rs bs).filter (apartB zs)
end My
set_option Elab.async false
set_option linter.all false
set_option maxRecDepth 100000
set_option maxHeartbeats 4000000
namespace My
open PySem PySem.Spec PyProof.Rows L2
def apartN (zs r : List Int) : Nat := ((List.range zs.length).filter fun p => !decide (zs.getD p 0 = r.getD p 0)).length
def spApart (K : PySem.W.Frag) : Sp := fun vs H Q _ => ∃ (a b : V) (zs r : List Int), vs = [a, b] ∧ Dq K H a (tI zs) ∧ Dq K H b (tI r) ∧ r.length = zs.length ∧ zs.length ≤ 100 ∧ ∀ H', Same H H' → Q (.int ((apartN zs r : Nat) : Int)) H'
end My
set_option Elab.async false
set_option linter.all false
set_option maxRecDepth 100000
set_option maxHeartbeats 4000000
namespace My
open PySem PySem.Spec PyProof.Rows L2
theorem LAt.dq {K : PySem.W.Frag} {av : List Addr} {H : Hp} {a : Addr} {ds : List PyData} (h : LAt K av H a ds) : Dq K (wos av H) (.ref a) (.list ds) := by
  obtain ⟨n, xs, e, hx⟩ := h
  exact .lst (SqL.of ((wos_in n).trans e)) hx
theorem standL_bd {T : List (Int × Int)} {n : Nat} {rs r : List Int} {bs : List (Int × Int)} (h : r ∈ standL T n rs bs) : DealtTo n rs.length r := by
  unfold standL at h
  exact dealsL_bd rfl (List.mem_filter.mp h).1
end My
set_option Elab.async false
set_option linter.all false
set_option maxRecDepth 100000
set_option maxHeartbeats 4000000
namespace My
open PySem PySem.Spec PyProof.Rows L2
/-! ### methods of an own class, ready to be called -/
structure OwnM (P : Program) (w : World) (K : PySem.W.Frag) (mg : Str → Option Value) (base : Heap) (CX : CXT) (C : Addr) (m : Str) (k : Nat) (ps : List Str) (sp : Sp) : Prop where
  ex : ∃ (f : Addr) (fd : FuncData), FnOk P w K mg base CX k f fd ps sp ∧ Meth K C m f ∧ Binds K fd ps []
theorem OwnM.imp {P : Program} {w : World} {K : PySem.W.Frag} {mg : Str → Option Value} {base : Heap} {CX : CXT} {C : Addr} {m : Str} {j k : Nat} {ps : List Str} {sp sp' : Sp} (D : OwnM P w K mg base CX C m j ps sp) (h : j ≤ k)
    (hi : ∀ vs H Q E, sp' vs H Q E → sp vs H Q E) : OwnM P w K mg base CX C m k ps sp' := by
  obtain ⟨f, fd, F, m, b⟩ := D.ex
  exact ⟨f, fd, (F.mono h).imp hi, m, b⟩
/-! ### classes ready to be made -/
structure OwnC (P : Program) (w : World) (K : PySem.W.Frag) (mg : Str → Option Value) (base : Heap) (x : Str) (C : Addr) (k : Nat) (ps : List Str) (sp : Sp) : Prop where
  gl : mg x = some (.ref C)
  ex : ∃ (f : Addr) (fd : FuncData), FnOk P w K mg base CX0 k f fd ps sp ∧ Mk K C f ∧ Binds K fd ps []
/-! ### errors of the text -/
def spErr (C : Addr) (fs : List Str) : Sp := fun vs H Q _ => ∃ (a : Addr) (ws : List V), vs = .ref a :: ws ∧ ws.length = fs.length ∧ H a = some (exo a C none) ∧
  ∀ d H2, H d = none → d ≠ a → H2 a = some (exo a C (some d)) → H2 d = some (exd d (fs.zip ws).reverse) → (∀ b, b ≠ a → b ≠ d → H2 b = H b) → Q .non H2
structure ErrOk (P : Program) (w : World) (K : PySem.W.Frag) (mg : Str → Option Value) (base : Heap) (x : Str) (C : Addr) (k : Nat) (fs : List Str) : Prop where
  gl : mg x = some (.ref C)
  oex : OexC K C
  xf : XfC K C
  nof : ∀ f ∈ fs, PySem.W.findIn K (.ref C) f = some none
  ex : ∃ (f : Addr) (fd : FuncData), PySem.W.findIn K (.ref C) "__init__" = some (some (.ref f)) ∧ PySem.W.typeIn K (.ref f) = some (.type "function") ∧ FnOk P w K mg base CX0 k f fd ("self" :: fs) (spErr C fs) ∧ Binds K fd ("self" :: fs) []
end My
set_option Elab.async false
set_option linter.all false
set_option maxRecDepth 100000
set_option maxHeartbeats 4000000
namespace My
open PySem PySem.Spec PyProof.Rows L2
/-! ### the facts of an error class -/
/-- an __init__ of such a class as the text has it -/
structure FunS (P : Program) (K : PySem.W.Frag) (C : Addr) (qual : Str) (st : Stmt) (f : Addr) (fd : FuncData) : Prop where
  ex : ∃ (oc : Value) (od : Option Addr) (kV doc pm : Value) (an : Option Addr) (cc cda : Addr) (ct : Value) (osl : Array (Option Value)), fd = PySem.W.fnX "__init__" qual (defArgs st) (defBody st) (defScope st) [("__class__", cc)] .none kV doc pm an (.ref cda) ct ∧
    K.lookup f = some ⟨oc, od, .func fd, osl⟩ ∧ PySem.W.codeIn K (.ref cda) qual = true ∧ SupC P K C cc cda
theorem FunS.binds {P : Program} {K : PySem.W.Frag} {C : Addr} {qual : Str} {st : Stmt} {f : Addr} {fd : FuncData} {ps : List Str} (F : FunS P K C qual st f fd)
    (h : ∀ (kV doc pm : Value) (an : Option Addr) (cc : Addr) (cdv ct : Value) (us : List Value), us.length = ps.length → bindArgs (PySem.W.fnX "__init__" qual (defArgs st) (defBody st) (defScope st) [("__class__", cc)] .none kV doc pm an cdv ct) ⟨us, []⟩ = pure (ps.zip us)) : Binds K fd ps [] := by
  obtain ⟨oc, od, kV, doc, pm, an, cc, cda, ct, osl, rfl, _⟩ := F.ex
  exact .all (h kV doc pm an cc (.ref cda) ct)
end My
set_option Elab.async false
set_option linter.all false
set_option maxRecDepth 100000
set_option maxHeartbeats 4000000
namespace My
open PySem PySem.Spec PyProof.Rows L2 Srt
/-! ### sorted(t), t a tuple of pairs of whole numbers: in order -/
end My
set_option Elab.async false
set_option linter.all false
set_option maxRecDepth 100000
set_option maxHeartbeats 4000000
namespace My
open PySem PySem.Spec PyProof.Rows L2
/-! ### a tie put in, a tie taken out -/
theorem ltP_trans {x y z : Int × Int} (h : ltP x y) (g : ltP y z) : ltP x z := by unfold ltP at *; omega
theorem ltP_tri {x y : Int × Int} (h : ¬ ltP y x) (n : x ≠ y) : ltP x y := by
  unfold ltP at *
  rcases Int.lt_trichotomy x.1 y.1 with a | a | a
  · exact .inl a
  · rcases Int.lt_trichotomy x.2 y.2 with b | b | b
    · exact .inr ⟨a, b⟩
    · exact absurd (Prod.ext a b) n
    · omega
  · omega
def ltPb (x y : Int × Int) : Bool := decide (x.1 < y.1 ∨ (x.1 = y.1 ∧ x.2 < y.2))
theorem ltPb_iff {x y : Int × Int} : ltPb x y = true ↔ ltP x y := by unfold ltPb ltP; rw [decide_eq_true_eq]
def insP (T : List (Int × Int)) (t : Int × Int) : List (Int × Int) := T.filter (fun s => ltPb s t) ++ t :: T.filter (fun s => ltPb t s)
theorem insP_up {T : List (Int × Int)} {t : Int × Int} (h : T.Pairwise ltP) : (insP T t).Pairwise ltP := by
  unfold insP
  rw [List.pairwise_append]
  refine ⟨h.filter _, ?_, fun a ha b hb => ?_⟩
  · rw [List.pairwise_cons]
    exact ⟨fun b hb => ltPb_iff.mp (List.mem_filter.mp hb).2, h.filter _⟩
  · have ha := ltPb_iff.mp (List.mem_filter.mp ha).2
    rcases List.mem_cons.mp hb with rfl | hb
    · exact ha
    · exact ltP_trans ha (ltPb_iff.mp (List.mem_filter.mp hb).2)
theorem mem_insP {T : List (Int × Int)} {t s : Int × Int} : s ∈ insP T t ↔ s = t ∨ s ∈ T := by
  unfold insP
  rw [List.mem_append, List.mem_cons, List.mem_filter, List.mem_filter, ltPb_iff, ltPb_iff]
  constructor
  · rintro (⟨h, _⟩ | h | ⟨h, _⟩)
    · exact .inr h
    · exact .inl h
    · exact .inr h
  · rintro (h | h)
    · exact .inr (.inl h)
    · by_cases e : s = t
      · exact .inr (.inl e)
      · by_cases g : ltP s t
        · exact .inl ⟨h, g⟩
        · exact .inr (.inr ⟨h, ltP_tri g (fun z => e z.symm)⟩)
theorem WebOk.ins {n : Nat} {T : List (Int × Int)} {t : Int × Int} (h : WebOk n T) (b : 0 ≤ t.1 ∧ t.1 < t.2 ∧ t.2 < n) : WebOk n (insP T t) := ⟨insP_up h.1, fun s hs => by
  rcases mem_insP.mp hs with rfl | hs
  · exact b
  · exact h.2 s hs⟩
def outP (T : List (Int × Int)) (t : Int × Int) : List (Int × Int) := T.filter fun s => !decide (s = t)
theorem WebOk.out {n : Nat} {T : List (Int × Int)} {t : Int × Int} (h : WebOk n T) : WebOk n (outP T t) := ⟨h.1.filter _, fun s hs => h.2 s (List.mem_filter.mp hs).1⟩
theorem lowP_bd {n : Nat} {x y : Int} (hx : 0 ≤ x ∧ x < n) (hy : 0 ≤ y ∧ y < n) (hne : x ≠ y) : 0 ≤ (lowP (x, y)).1 ∧ (lowP (x, y)).1 < (lowP (x, y)).2 ∧ (lowP (x, y)).2 < n := by
  unfold lowP
  dsimp only
  split <;> split <;> omega
section
variable {K : PySem.W.Frag} {av : List Addr} {H0 : Hp} {σ : L2.St} {t t1 t2 : TE}
theorem EvQ.int2 {a b : Int} (g : Int → Int → Int) (h1 : EvQ K av H0 σ t1 (.int a)) (h2 : EvQ K av H0 σ t2 (.int b)) : EvQ K av H0 σ (tCB (fun xs H Q => ∃ i j, xs = [V.int i, V.int j] ∧ Q (.int (g i j)) H) (tCons t1 (tCons t2 tNil))) (.int (g a b)) := fun H s Q q =>
  h1 H s _ fun x H1 s1 hx => by
    cases hx
    exact h2 H1 (s.trans s1) _ fun y H2 s2 hy => by
      cases hy
      exact ⟨a, b, rfl, q _ _ (s1.trans s2) (.int _)⟩
end
end My
set_option Elab.async false
set_option linter.all false
set_option maxRecDepth 100000
set_option maxHeartbeats 4000000
namespace My
open PySem PySem.Spec PyProof.Rows L2
/-! ### maps: what they hold -/
abbrev Rec := List (Int × Int) × List Int
def stD (n : Nat) (r : Rec) : PyData := .tuple [webD n r.1, tI r.2]
def RecOk (n : Nat) (r : Rec) : Prop := WebOk n r.1 ∧ r.2.Nodup ∧ ∀ x ∈ r.2, 0 ≤ x ∧ x < n
def mF (sa ca : Addr) : List (Str × V) := [("_states", .ref sa), ("_calls", .ref ca)]
structure Chart (K : PySem.W.Frag) (CM : Addr) (av : List Addr) (H : Hp) (c sa ca : Addr) (n : Nat) (S : List Rec) (cs : List PyData) : Prop where
  obj : ∃ dx, H c = some (.ins CM dx (mF sa ca))
  sa_ : sa ∈ av
  ca_ : ca ∈ av
  ne : sa ≠ ca
  st : ∃ ss, H sa = some (.lst ss) ∧ DqAll K (wos av H) ss (S.map (stD n))
  cl : ∃ us, H ca = some (.lst us) ∧ DqAll K (wos av H) us cs
  len : S.length = cs.length + 1
  ok : ∀ r ∈ S, RecOk n r
  few : cs.length ≤ 5000
  n1 : 1 ≤ n
  n8 : n ≤ 8
section
variable {K : PySem.W.Frag} {CM : Addr} {av : List Addr} {H H' : Hp} {c sa ca : Addr} {n : Nat} {S : List Rec} {cs : List PyData}
theorem Chart.same (s : Same H H') (h : Chart K CM av H c sa ca n S cs) : Chart K CM av H' c sa ca n S cs := by
  obtain ⟨dx, e⟩ := h.obj
  obtain ⟨ss, e1, h1⟩ := h.st
  obtain ⟨us, e2, h2⟩ := h.cl
  exact ⟨⟨dx, s _ _ e⟩, h.sa_, h.ca_, h.ne, ⟨ss, s _ _ e1, DqAll.same (My.Same.wos s) h1⟩, ⟨us, s _ _ e2, DqAll.same (My.Same.wos s) h2⟩, h.len, h.ok, h.few, h.n1, h.n8⟩
/-- another list of the law is changed -/
theorem Chart.other {p : Addr} (hp : p ∈ av) (hl : ∃ us, H p = some (.lst us)) (n1 : sa ≠ p) (n2 : ca ≠ p) (s : Same (wo p H) (wo p H')) (h : Chart K CM av H c sa ca n S cs) : Chart K CM av H' c sa ca n S cs := by
  obtain ⟨dx, e⟩ := h.obj
  obtain ⟨ss, e1, h1⟩ := h.st
  obtain ⟨us, e2, h2⟩ := h.cl
  have nc : c ≠ p := fun z => by
    obtain ⟨vs, e3⟩ := hl
    rw [z, e3] at e
    cases e
  have sw := My.Same.wos_of hp s
  exact ⟨⟨dx, (wo_some (s _ _ ((wo_ne nc).trans e))).2⟩, h.sa_, h.ca_, h.ne, ⟨ss, (wo_some (s _ _ ((wo_ne n1).trans e1))).2, DqAll.same sw h1⟩, ⟨us, (wo_some (s _ _ ((wo_ne n2).trans e2))).2, DqAll.same sw h2⟩, h.len, h.ok, h.few, h.n1, h.n8⟩
theorem Chart.lst_sa (h : Chart K CM av H c sa ca n S cs) : ∃ us, H sa = some (.lst us) := by
  obtain ⟨ss, e1, _⟩ := h.st
  exact ⟨ss, e1⟩
theorem Chart.lst_ca (h : Chart K CM av H c sa ca n S cs) : ∃ us, H ca = some (.lst us) := by
  obtain ⟨ss, e1, _⟩ := h.cl
  exact ⟨ss, e1⟩
end
/-- the last item of a list told by data that end with d -/
theorem DqAll.lastV {K : PySem.W.Frag} {H : Hp} {vs : List V} {ds : List PyData} {d : PyData} (h : DqAll K H vs (ds ++ [d])) : ∃ ws v, vs = ws ++ [v] ∧ ws.length = ds.length ∧ DqAll K H ws ds ∧ Dq K H v d := by
  have hl := h.len
  rw [List.length_append] at hl
  have hl : vs.length = ds.length + 1 := hl
  have hne : vs ≠ [] := fun z => by rw [z] at hl; cases hl
  have hd := DqAll.take ds.length h
  rw [List.take_left] at hd
  have hr := DqAll.drop ds.length h
  rw [List.drop_left] at hr
  have hsplit := List.take_append_drop ds.length vs
  have ldr : (vs.drop ds.length).length = 1 := by rw [List.length_drop]; omega
  obtain ⟨v, hv⟩ : ∃ v, vs.drop ds.length = [v] := List.length_eq_one_iff.mp ldr
  rw [hv] at hr hsplit
  cases hr with
  | cons h1 _ => exact ⟨_, v, hsplit.symm, by rw [List.length_take]; omega, hd, h1⟩
/-! ### verdicts -/
inductive Vd where
  | place (d : PyData)
  | same (x : Int)
  | tied (x y : Int)
  | untied (x y : Int)
  | root (x : Int)
  | noroot (x : Int)
  | fine
/-- what the error holds, the last one first -/
def Vd.flds : Vd → List (Str × PyData)
  | .place d => [("value", d)]
  | .same x => [("place", .int x)]
  | .tied x y => [("b", .int y), ("a", .int x)]
  | .untied x y => [("b", .int y), ("a", .int x)]
  | .root x => [("place", .int x)]
  | .noroot x => [("place", .int x)]
  | .fine => []
structure Errs where
  place : Addr
  same : Addr
  tied : Addr
  untied : Addr
  root : Addr
  noroot : Addr
def Vd.cls (Z : Errs) : Vd → Addr
  | .place _ => Z.place
  | .same _ => Z.same
  | .tied _ _ => Z.tied
  | .untied _ _ => Z.untied
  | .root _ => Z.root
  | .noroot _ => Z.noroot
  | .fine => 0
def Raised (K : PySem.W.Frag) (av : List Addr) (Z : Errs) (vd : Vd) (H : Hp) (E : XK) : Prop := ∀ (d : Addr) (H' : Hp) (fs : List (Str × V)), Same H H' → H' d = some (.xd fs) → fs.map (·.1) = vd.flds.map (·.1) → DqAll K (wos av H') (fs.map (·.2)) (vd.flds.map (·.2)) → E (.ref (vd.cls Z)) (some d) H'
theorem Raised.same {K : PySem.W.Frag} {av : List Addr} {Z : Errs} {vd : Vd} {H H' : Hp} {E : XK} (s : Same H H') (h : Raised K av Z vd H E) : Raised K av Z vd H' E := fun d H2 fs s2 => h d H2 fs (s.trans s2)
inductive Wd where
  | tie
  | untie
  | root
  | unroot
def Wd.nm : Wd → Str
  | .tie => "tie"
  | .untie => "untie"
  | .root => "root"
  | .unroot => "unroot"
def checkV (n : Nat) (d : PyData) : Vd := if placeD n d = true then .fine else .place d
def intOf1 : PyData → Int
  | .int i => i
  | _ => 0
def check2 (n : Nat) (a b : PyData) : Vd := if placeD n a = true then (if placeD n b = true then (if intOf1 a = intOf1 b then .same (intOf1 a) else .fine) else .place b) else .place a
/-- what becomes of a call, by the record -/
def verdict (n : Nat) (r : Rec) : Wd → List PyData → Vd
  | .tie, [a, b] => match check2 n a b with
    | .fine => if tiedB r.1 (intOf1 a) (intOf1 b) = true then .tied (intOf1 a) (intOf1 b) else .fine
    | v => v
  | .untie, [a, b] => match check2 n a b with
    | .fine => if tiedB r.1 (intOf1 a) (intOf1 b) = true then .fine else .untied (intOf1 a) (intOf1 b)
    | v => v
  | .root, [a] => match checkV n a with
    | .fine => if intOf1 a ∈ r.2 then .root (intOf1 a) else .fine
    | v => v
  | .unroot, [a] => match checkV n a with
    | .fine => if intOf1 a ∈ r.2 then .fine else .noroot (intOf1 a)
    | v => v
  | _, _ => .fine
def after (r : Rec) : Wd → List PyData → Rec
  | .tie, [a, b] => (insP r.1 (lowP (intOf1 a, intOf1 b)), r.2)
  | .untie, [a, b] => (outP r.1 (lowP (intOf1 a, intOf1 b)), r.2)
  | .root, [a] => (r.1, r.2 ++ [intOf1 a])
  | .unroot, [a] => (r.1, r.2.filter fun x => !decide (x = intOf1 a))
  | _, _ => r
def callD (w : Wd) (ds : List PyData) : PyData := .tuple (.str w.nm :: ds)
theorem placeD_int {n : Int} {d : PyData} (h : placeD n d = true) : ∃ i, d = .int i ∧ 0 ≤ i ∧ i < n := by
  cases d with
  | int i =>
    simp only [placeD, Bool.and_eq_true, decide_eq_true_eq] at h
    exact ⟨i, rfl, h⟩
  | _ => cases h
/-! ### what the methods promise -/
theorem check2_fine {n : Nat} {a b : PyData} (h : check2 n a b = .fine) : ∃ x y : Int, a = .int x ∧ b = .int y ∧ (0 ≤ x ∧ x < n) ∧ (0 ≤ y ∧ y < n) ∧ x ≠ y := by
  unfold check2 at h
  split at h
  · rename_i h1
    split at h
    · rename_i h2
      obtain ⟨x, rfl, hx⟩ := placeD_int h1
      obtain ⟨y, rfl, hy⟩ := placeD_int h2
      split at h
      · cases h
      · rename_i h3
        exact ⟨x, y, rfl, rfl, hx, hy, h3⟩
    · cases h
  · cases h
theorem checkV_fine {n : Nat} {a : PyData} (h : checkV n a = .fine) : ∃ x : Int, a = .int x ∧ (0 ≤ x ∧ x < n) := by
  unfold checkV at h
  split at h
  · rename_i h1
    obtain ⟨x, rfl, hx⟩ := placeD_int h1
    exact ⟨x, rfl, hx⟩
  · cases h
theorem RecOk.after {n : Nat} {r : Rec} {w : Wd} {ds : List PyData} (h : RecOk n r) (hv : verdict n r w ds = .fine) : RecOk n (My.after r w ds) := by
  obtain ⟨hW, hn, hb⟩ := h
  have keep : RecOk n r := ⟨hW, hn, hb⟩
  unfold verdict at hv
  split at hv
  · rename_i a b
    split at hv
    · rename_i hc
      obtain ⟨x, y, rfl, rfl, hx, hy, hne⟩ := check2_fine hc
      exact ⟨hW.ins (lowP_bd hx hy hne), hn, hb⟩
    · rename_i v hc
      exact absurd hv hc
  · rename_i a b
    split at hv
    · exact ⟨hW.out, hn, hb⟩
    · rename_i v hc
      exact absurd hv hc
  · rename_i a
    split at hv
    · rename_i hc
      obtain ⟨x, rfl, hx⟩ := checkV_fine hc
      split at hv
      · cases hv
      · rename_i hx2
        refine ⟨hW, ?_, fun y hy => ?_⟩
        · show (r.2 ++ [x]).Nodup
          rw [List.nodup_append]
          exact ⟨hn, List.nodup_cons.mpr ⟨List.not_mem_nil, List.nodup_nil⟩, fun a ha b hb z => hx2 (by rw [List.mem_singleton] at hb; rw [z, hb] at ha; exact ha)⟩
        · rcases List.mem_append.mp (show y ∈ r.2 ++ [x] from hy) with hy | hy
          · exact hb y hy
          · rw [List.mem_singleton.mp hy]
            exact hx
    · rename_i v hc
      exact absurd hv hc
  · rename_i a
    exact ⟨hW, hn.filter _, fun y hy => hb y (List.mem_filter.mp hy).1⟩
  · rename_i h1 h2 h3 h4
    unfold My.after
    split
    · exact (h1 _ _ rfl rfl).elim
    · exact (h2 _ _ rfl rfl).elim
    · exact (h3 _ rfl rfl).elim
    · exact (h4 _ rfl rfl).elim
    · exact keep
theorem verdict_tieX {n : Nat} {r : Rec} {a b : PyData} (h : check2 n a b ≠ .fine) : verdict n r .tie [a, b] = check2 n a b := by
  unfold verdict
  dsimp only
  split
  · rename_i e
    exact absurd e h
  · rfl
theorem verdict_untieX {n : Nat} {r : Rec} {a b : PyData} (h : check2 n a b ≠ .fine) : verdict n r .untie [a, b] = check2 n a b := by
  unfold verdict
  dsimp only
  split
  · rename_i e
    exact absurd e h
  · rfl
theorem verdict_rootX {n : Nat} {r : Rec} {a : PyData} (h : placeD n a = false) : verdict n r .root [a] = .place a := by
  unfold verdict checkV
  dsimp only
  rw [if_neg (by rw [h]; decide)]
theorem verdict_unrootX {n : Nat} {r : Rec} {a : PyData} (h : placeD n a = false) : verdict n r .unroot [a] = .place a := by
  unfold verdict checkV
  dsimp only
  rw [if_neg (by rw [h]; decide)]
theorem DqAll.two {K : PySem.W.Frag} {H : Hp} {us : List V} {ds : List PyData} (h : DqAll K H us ds) (hl : 2 = ds.length) : ∃ va vb a b, us = [va, vb] ∧ ds = [a, b] ∧ Dq K H va a ∧ Dq K H vb b := by
  match ds, hl, h with
  | [a, b], _, .cons h1 (.cons h2 .nil) => exact ⟨_, _, a, b, rfl, rfl, h1, h2⟩
theorem DqAll.one {K : PySem.W.Frag} {H : Hp} {us : List V} {ds : List PyData} (h : DqAll K H us ds) (hl : 1 = ds.length) : ∃ va a, us = [va] ∧ ds = [a] ∧ Dq K H va a := by
  match ds, hl, h with
  | [a], _, .cons h1 .nil => exact ⟨_, a, rfl, rfl, h1⟩
end My
set_option Elab.async false
set_option linter.all false
set_option maxRecDepth 100000
set_option maxHeartbeats 4000000
namespace My
open PySem PySem.Spec PyProof.Rows L2
/-! ### len of an own instance -/
end My
set_option Elab.async false
set_option linter.all false
set_option maxRecDepth 100000
set_option maxHeartbeats 4000000
namespace My
open PySem PySem.Spec PyProof.Rows L2 HT
/-! ### min of a tuple of whole numbers -/
/-! ### t[::k], t a tuple, k 1 or -1 -/
end My
set_option Elab.async false
set_option linter.all false
set_option maxRecDepth 100000
set_option maxHeartbeats 4000000
namespace My
open PySem PySem.Spec PyProof.Rows L2
theorem shaped_tI {ns : List Int} : SeqAt.shaped (tI ns) = true := by
  unfold SeqAt.shaped tI
  rw [Bool.and_eq_true, decide_eq_true_eq]
  have h := depth_ints ns
  exact ⟨by simp only [PyData.canLay0, canLay_ints ns], by omega⟩
/-! ### tests that tell a truth value and change nothing -/
def EvT (H0 : Hp) (σ : L2.St) (t : TT) (b : Bool) : Prop := ∀ H, Same H0 H → ∀ Q : Bool → Hp → Prop, (∀ H', Same H H' → Q b H') → t σ H Q
section
variable {K : PySem.W.Frag} {av : List Addr} {H0 : Hp} {σ : L2.St} {t t1 t2 : TE} {u v : TT} {b c : Bool} {d d1 d2 : PyData}
theorem EvT.and (h : EvT H0 σ u b) (g : b = true → EvT H0 σ v c) : EvT H0 σ (tAnd u v) (b && c) := fun H s Q q => h H s _ fun H' s' => by
  cases b with
  | true => exact iteT (g rfl H' (s.trans s') Q fun H2 s2 => q H2 (s'.trans s2))
  | false => exact iteF (q H' s')
theorem EvT.mono {H1 : Hp} (s : Same H0 H1) (h : EvT H0 σ u b) : EvT H1 σ u b := fun H s' => h H (s.trans s')
end
/-! ### drawn calls and what is due -/
def Wd.ar : Wd → Nat
  | .tie => 2
  | .untie => 2
  | .root => 1
  | .unroot => 1
def PlacesD (n : Nat) (ds : List PyData) : Prop := ∀ d ∈ ds, placeD n d = true
theorem two_of {ds : List PyData} (h : ds.length = 2) : ∃ a b, ds = [a, b] := by
  match ds, h with
  | [a, b], _ => exact ⟨a, b, rfl⟩
theorem one_of {ds : List PyData} (h : ds.length = 1) : ∃ a, ds = [a] := by
  match ds, h with
  | [a], _ => exact ⟨a, rfl⟩
-- a joint of two steps, taken as a plain row
end My
set_option Elab.async false
set_option linter.all false
set_option maxRecDepth 100000
set_option maxHeartbeats 4000000
namespace My
open PySem PySem.Spec PyProof.Rows L2
/-! ### the clauses of a try that answers each error in words -/
def Errs.l (Z : Errs) : List Addr := [Z.place, Z.same, Z.tied, Z.untied, Z.root, Z.noroot]
section
variable {K : PySem.W.Frag} {av : List Addr} {H : Hp} {σ : L2.St} {a C dd : Addr} {i : Nat} {f : Str} {fs : List (Str × V)} {v : V} {d : PyData} {D : Ends} {W : WX}
theorem EvQ.xf (e : σ[i]? = some (some (.ref a))) (hd : H dd = some (.xd fs)) (hl : fs.lookup f = some v) (hv : Dq K (wos av H) v d) : EvQ K av H σ (tXf a (.ref C) (some dd) C f (tVar i)) d := fun H1 s Q q =>
  ⟨_, e, rfl, rfl, dd, fs, v, rfl, s _ _ hd, hl, q _ _ (Same.refl _) (Dq.same (My.Same.wos s) hv)⟩
end
/-! ### what the laws' own defs promise -/
theorem AvL.two {K : PySem.W.Frag} {CM : Addr} {av : List Addr} {H H' : Hp} {c sa ca : Addr} {n : Nat} {S : List Rec} {cs : List PyData} (h : AvL av H) (s : Same (wos [sa, ca] H) (wos [sa, ca] H')) (hC : Chart K CM av H' c sa ca n S cs) : AvL av H' := fun b hb => by
  by_cases e1 : b = sa
  · rw [e1]
    exact hC.lst_sa
  · by_cases e2 : b = ca
    · rw [e2]
      exact hC.lst_ca
    · obtain ⟨us, e⟩ := h b hb
      exact ⟨us, wos_le _ _ (s _ _ ((wos_in (by simp [e1, e2])).trans e))⟩
end My
set_option Elab.async false
set_option linter.all false
set_option maxRecDepth 100000
set_option maxHeartbeats 4000000
namespace My
open PySem PySem.Spec PyProof.Rows L2
end My
set_option Elab.async false
set_option linter.all false
set_option maxRecDepth 100000
set_option maxHeartbeats 4000000
namespace My
open PySem PySem.Spec PyProof.Rows L2
/-! ### own defs that are called where no repr is under way -/
structure OwnG (P : Program) (w : World) (K : PySem.W.Frag) (mg : Str → Option Value) (base : Heap) (x : Str) (k : Nat) (ps : List Str) (sp : Sp) : Prop where
  ex : ∃ (f : Addr) (fd : FuncData), FnG P w K mg base k f fd ps sp ∧ mg x = some (.ref f) ∧ PySem.W.keepIn K (.ref f) = true ∧ Binds K fd ps []
theorem FnG.mono {P : Program} {w : World} {K : PySem.W.Frag} {mg : Str → Option Value} {base : Heap} {j k : Nat} {f : Addr} {fd : FuncData} {ps : List Str} {sp : Sp} (F : FnG P w K mg base j f fd ps sp) (h : j ≤ k) : FnG P w K mg base k f fd ps sp :=
  ⟨F.len, fun A outer s H args us vs Q E gA room env bind vals prom => F.run A outer s H args us vs Q E gA (room.mono h) env bind vals prom⟩
theorem OwnG.imp {P : Program} {w : World} {K : PySem.W.Frag} {mg : Str → Option Value} {base : Heap} {x : Str} {j k : Nat} {ps : List Str} {sp : Sp} (D : OwnG P w K mg base x j ps sp) (h : j ≤ k) : OwnG P w K mg base x k ps sp := by
  obtain ⟨f, fd, F, m, kp, b⟩ := D.ex
  exact ⟨f, fd, F.mono h, m, kp, b⟩
end My
set_option Elab.async false
set_option linter.all false
set_option maxRecDepth 100000
set_option maxHeartbeats 4000000
namespace My
open PySem PySem.Spec PyProof.Rows L2
theorem My.Same.wosSub {X Y : List Addr} {H H' : Hp} (h : ∀ b ∈ X, b ∈ Y) (s : Same (wos X H) (wos X H')) : Same (wos Y H) (wos Y H') := fun b o e => by
  obtain ⟨n, e⟩ := wos_some e
  exact (wos_in n).trans (wos_some (s b o ((wos_in fun z => n (h b z)).trans e))).2
/-! ### the sizes of words -/
theorem SmAll.pair {d e : PyData} (h : Sm 2 3 d) (g : Sm 2 3 e) : Sm 10 4 (.tuple [d, e]) := (SmAll.cons h (SmAll.cons g SmAll.nil)).tuple.mono (by decide) (by decide)
theorem SmAll.one {d : PyData} (h : Sm 2 3 d) : Sm 10 4 (.tuple [d]) := (SmAll.cons h SmAll.nil).tuple.mono (by decide) (by decide)
/-! ### a map, the calls that made it, and the pen -/
def entD (e : PyData × Rec) : PyData := .tuple [e.1, .int (e.2.1.length : Nat), tI e.2.2]
structure Led (K : PySem.W.Frag) (CM : Addr) (H : Hp) (p c : Addr) (k : Nat) (cc sa ca ea : Addr) (n : Nat) (S : List Rec) (r : Rec) (cs : List PyData) (es : List (PyData × Rec)) : Prop where
  pen : Pen H p c k
  ch : Chart K CM [ea, sa, ca, p] H cc sa ca n (S ++ [r]) cs
  el : ∃ us, H ea = some (.lst us) ∧ DqAll K (wos [ea, sa, ca, p] H) us (es.map entD)
  hd : (S ++ [r]).head? = some ([], [])
  n1 : ea ≠ sa
  n2 : ea ≠ ca
  n3 : p ≠ sa
  n4 : p ≠ ca
  n5 : p ≠ ea
  n6 : c ≠ sa
  n7 : c ≠ ca
  n8 : c ≠ ea
section
variable {K : PySem.W.Frag} {CM : Addr} {H H' : Hp} {p c : Addr} {k k' : Nat} {cc sa ca ea : Addr} {n : Nat} {S : List Rec} {r r' : Rec} {cs cs' : List PyData} {es : List (PyData × Rec)}
theorem Led.ok (h : Led K CM H p c k cc sa ca ea n S r cs es) : RecOk n r := h.ch.ok r (by simp)
theorem Led.same (h : Led K CM H p c k cc sa ca ea n S r cs es) (s : Same H H') : Led K CM H' p c k cc sa ca ea n S r cs es := by
  obtain ⟨us, e, hus⟩ := h.el
  exact { h with pen := Pen.same s h.pen, ch := h.ch.same s, el := ⟨us, s _ _ e, DqAll.same (My.Same.wos s) hus⟩ }
theorem Led.take (h : Led K CM H p c k cc sa ca ea n S r cs es) (hp : Pen H' p c k') (s : Same (wo p H) (wo p H')) : Led K CM H' p c k' cc sa ca ea n S r cs es := by
  obtain ⟨us, e, hus⟩ := h.el
  have sw : Same (wos [ea, sa, ca, p] H) (wos [ea, sa, ca, p] H') := My.Same.wos_of (by simp) s
  exact { h with pen := hp, ch := h.ch.other (by simp) h.pen.lst h.n3.symm h.n4.symm s, el := ⟨us, (wo_some (s _ _ ((wo_ne h.n5.symm).trans e))).2, DqAll.same sw hus⟩ }
theorem Led.sub (s : Same (wos [sa, ca] H) (wos [sa, ca] H')) : Same (wos [ea, sa, ca, p] H) (wos [ea, sa, ca, p] H') := My.Same.wosSub (fun b hb => by
  simp only [List.mem_cons, List.not_mem_nil, or_false] at hb ⊢
  rcases hb with hb | hb
  · exact .inr (.inl hb)
  · exact .inr (.inr (.inl hb))) s
theorem off_two {b : Addr} {o : HO} (s : Same (wos [sa, ca] H) (wos [sa, ca] H')) (h1 : b ≠ sa) (h2 : b ≠ ca) (e : H b = some o) : H' b = some o := (wos_some (s b o ((wos_in (by simp [h1, h2])).trans e))).2
theorem Pen.two (h : Pen H p c k) (s : Same (wos [sa, ca] H) (wos [sa, ca] H')) (h1 : p ≠ sa) (h2 : p ≠ ca) (h3 : c ≠ sa) (h4 : c ≠ ca) : Pen H' p c k := by
  obtain ⟨xs, i, l, e1, e2, r⟩ := h
  exact ⟨xs, i, l, off_two s h1 h2 e1, off_two s h3 h4 e2, r⟩
theorem Led.step {S' : List Rec} {r' : Rec} {cs' : List PyData} (h : Led K CM H p c k cc sa ca ea n S r cs es) (s : Same (wos [sa, ca] H) (wos [sa, ca] H')) (ch : Chart K CM [ea, sa, ca, p] H' cc sa ca n (S' ++ [r']) cs') (hd : (S' ++ [r']).head? = some ([], [])) : Led K CM H' p c k cc sa ca ea n S' r' cs' es := by
  obtain ⟨us, e, hus⟩ := h.el
  exact { h with pen := h.pen.two s h.n3 h.n4 h.n6 h.n7, ch := ch, hd := hd, el := ⟨us, off_two s h.n1 h.n2 e, DqAll.same (Led.sub s) hus⟩ }
end
/-! ### a map after some drawn calls -/
theorem Chart.more {K : PySem.W.Frag} {CM : Addr} {av : List Addr} {H H' : Hp} {c sa ca z : Addr} {n : Nat} {S : List Rec} {cs : List PyData} (hz : H z = none) (s : Same H H') (h : Chart K CM av H c sa ca n S cs) : Chart K CM (z :: av) H' c sa ca n S cs := by
  obtain ⟨dx, e⟩ := h.obj
  obtain ⟨ss, e1, h1⟩ := h.st
  obtain ⟨us, e2, h2⟩ := h.cl
  have sw := wos_fresh (av := av) hz s
  exact { h with obj := ⟨dx, s _ _ e⟩, sa_ := List.mem_cons_of_mem _ h.sa_, ca_ := List.mem_cons_of_mem _ h.ca_, st := ⟨ss, s _ _ e1, DqAll.same sw h1⟩, cl := ⟨us, s _ _ e2, DqAll.same sw h2⟩ }
def Vd.nm : Vd → Str
  | .place _ => "place"
  | .same _ => "same"
  | .tied _ _ => "tied"
  | .untied _ _ => "untied"
  | .root _ => "root"
  | .noroot _ => "noroot"
  | .fine => "fine"
end My
set_option Elab.async false
set_option linter.all false
set_option maxRecDepth 100000
set_option maxHeartbeats 4000000
namespace My
open PySem PySem.Spec PyProof.Rows L2
end My
set_option Elab.async false
set_option linter.all false
set_option maxRecDepth 100000
set_option maxHeartbeats 4000000
namespace My
open PySem PySem.Spec PyProof.Rows L2
/-! ### the end of a law with classes -/
structure AtM (K : PySem.W.Frag) (C : Addr) (m qual : Str) (st : Stmt) (ps : List Str) : Prop where
  ex : ∃ (f : Addr) (fd : FuncData), Fun K m qual st f fd ∧ Meth K C m f ∧ Binds K fd ps []
theorem AtM.own {P : Program} {w : World} {K : PySem.W.Frag} {mg : Str → Option Value} {base : Heap} {CX : CXT} {C : Addr} {m qual : Str} {st : Stmt} {ps : List Str} {k : Nat} {sp : Sp} (D : AtM K C m qual st ps)
    (h : ∀ f fd, Fun K m qual st f fd → FnOk P w K mg base CX k f fd ps sp) : OwnM P w K mg base CX C m k ps sp := by
  obtain ⟨f, fd, F, m, b⟩ := D.ex
  exact ⟨f, fd, h f fd F, m, b⟩
structure AtC (K : PySem.W.Frag) (mg : Str → Option Value) (x : Str) (C : Addr) (qual : Str) (st : Stmt) (ps : List Str) : Prop where
  gl : mg x = some (.ref C)
  ex : ∃ (f : Addr) (fd : FuncData), Fun K "__init__" qual st f fd ∧ Mk K C f ∧ Binds K fd ps []
theorem AtC.own {P : Program} {w : World} {K : PySem.W.Frag} {mg : Str → Option Value} {base : Heap} {x : Str} {C : Addr} {qual : Str} {st : Stmt} {ps : List Str} {k : Nat} {sp : Sp} (D : AtC K mg x C qual st ps)
    (h : ∀ f fd, Fun K "__init__" qual st f fd → FnOk P w K mg base CX0 k f fd ps sp) : OwnC P w K mg base x C k ps sp := by
  obtain ⟨f, fd, F, m, b⟩ := D.ex
  exact ⟨D.gl, f, fd, h f fd F, m, b⟩
theorem OwnC.up {P : Program} {w : World} {K : PySem.W.Frag} {mg : Str → Option Value} {base : Heap} {x : Str} {C : Addr} {ps : List Str} {j k : Nat} {sp : Sp} (D : OwnC P w K mg base x C j ps sp) (h : j ≤ k) : OwnC P w K mg base x C k ps sp := by
  obtain ⟨f, fd, F, m, b⟩ := D.ex
  exact ⟨D.gl, f, fd, F.mono h, m, b⟩
theorem ErrOk.up {P : Program} {w : World} {K : PySem.W.Frag} {mg : Str → Option Value} {base : Heap} {x : Str} {C : Addr} {fs : List Str} {j k : Nat} (D : ErrOk P w K mg base x C j fs) (h : j ≤ k) : ErrOk P w K mg base x C k fs := by
  obtain ⟨f, fd, h1, h2, F, b⟩ := D.ex
  exact ⟨D.gl, D.oex, D.xf, D.nof, f, fd, h1, h2, F.mono h, b⟩
end My
set_option Elab.async false
set_option linter.all false
set_option maxRecDepth 100000
set_option maxHeartbeats 4000000
namespace My
open PySem PySem.Spec PyProof.Rows L2
/-! ### == of two instances of a class with its own __eq__ -/
end My
set_option Elab.async false
set_option linter.all false
set_option maxRecDepth 100000
set_option maxHeartbeats 4000000
namespace My
open PySem PySem.Spec PyProof.Rows L2
/-! ### a map, what is kept of the calls that made it (any entries), and the pen -/
structure LedG (g : PyData × Rec → PyData) (K : PySem.W.Frag) (CM : Addr) (H : Hp) (p c : Addr) (k : Nat) (cc sa ca ea : Addr) (n : Nat) (S : List Rec) (r : Rec) (cs : List PyData) (es : List (PyData × Rec)) : Prop where
  pen : Pen H p c k
  ch : Chart K CM [ea, sa, ca, p] H cc sa ca n (S ++ [r]) cs
  el : ∃ us, H ea = some (.lst us) ∧ DqAll K (wos [ea, sa, ca, p] H) us (es.map g)
  hd : (S ++ [r]).head? = some ([], [])
  n1 : ea ≠ sa
  n2 : ea ≠ ca
  n3 : p ≠ sa
  n4 : p ≠ ca
  n5 : p ≠ ea
  n6 : c ≠ sa
  n7 : c ≠ ca
  n8 : c ≠ ea
section
variable {g : PyData × Rec → PyData} {K : PySem.W.Frag} {CM : Addr} {H H' : Hp} {p c : Addr} {k k' : Nat} {cc sa ca ea : Addr} {n : Nat} {S : List Rec} {r r' : Rec} {cs cs' : List PyData} {es : List (PyData × Rec)}
theorem LedG.ok (h : LedG g K CM H p c k cc sa ca ea n S r cs es) : RecOk n r := h.ch.ok r (by simp)
theorem LedG.same (h : LedG g K CM H p c k cc sa ca ea n S r cs es) (s : Same H H') : LedG g K CM H' p c k cc sa ca ea n S r cs es := by
  obtain ⟨us, e, hus⟩ := h.el
  exact { h with pen := Pen.same s h.pen, ch := h.ch.same s, el := ⟨us, s _ _ e, DqAll.same (My.Same.wos s) hus⟩ }
theorem LedG.take (h : LedG g K CM H p c k cc sa ca ea n S r cs es) (hp : Pen H' p c k') (s : Same (wo p H) (wo p H')) : LedG g K CM H' p c k' cc sa ca ea n S r cs es := by
  obtain ⟨us, e, hus⟩ := h.el
  have sw : Same (wos [ea, sa, ca, p] H) (wos [ea, sa, ca, p] H') := My.Same.wos_of (by simp) s
  exact { h with pen := hp, ch := h.ch.other (by simp) h.pen.lst h.n3.symm h.n4.symm s, el := ⟨us, (wo_some (s _ _ ((wo_ne h.n5.symm).trans e))).2, DqAll.same sw hus⟩ }
theorem LedG.step {S' : List Rec} {r' : Rec} {cs' : List PyData} (h : LedG g K CM H p c k cc sa ca ea n S r cs es) (s : Same (wos [sa, ca] H) (wos [sa, ca] H')) (ch : Chart K CM [ea, sa, ca, p] H' cc sa ca n (S' ++ [r']) cs') (hd : (S' ++ [r']).head? = some ([], [])) : LedG g K CM H' p c k cc sa ca ea n S' r' cs' es := by
  obtain ⟨us, e, hus⟩ := h.el
  exact { h with pen := h.pen.two s h.n3 h.n4 h.n6 h.n7, ch := ch, hd := hd, el := ⟨us, off_two s h.n1 h.n2 e, DqAll.same (Led.sub s) hus⟩ }
end
section
variable {g : PyData × Rec → PyData} {K : PySem.W.Frag} {CM : Addr} {H H' : Hp} {p c : Addr} {k : Nat} {cc sa ca ea : Addr} {n : Nat} {S : List Rec} {r : Rec} {cs : List PyData} {es : List (PyData × Rec)}
theorem LedG.pop {us : List V} {e : PyData × Rec} (h : LedG g K CM H p c k cc sa ca ea n S r cs (es ++ [e])) (eu : H ea = some (.lst us)) : ∃ v, us[us.length - 1]? = some v ∧ Dq K (wos [ea, sa, ca, p] (upd H ea (.lst us.dropLast))) v (g e) ∧ LedG g K CM (upd H ea (.lst us.dropLast)) p c k cc sa ca ea n S r cs es := by
  obtain ⟨us', eu', hus⟩ := h.el
  rw [eu] at eu'
  cases eu'
  rw [List.map_append] at hus
  obtain ⟨ws, v, rfl, lws, hws, hv⟩ := hus.lastV
  have d1 : (ws ++ [v]).dropLast = ws := List.dropLast_concat
  rw [d1]
  refine ⟨v, by simp, Dq.same wos_put hv, ?_⟩
  refine { h with pen := Pen.upd h.pen ⟨h.n5.symm, h.n8.symm⟩, ch := h.ch.other (p := ea) (by simp) ⟨_, eu⟩ h.n1.symm h.n2.symm (fun b o e => ?_), el := ⟨ws, upd_same, DqAll.same wos_put hws⟩ }
  obtain ⟨nb, e⟩ := wo_some e
  exact (wo_ne nb).trans ((upd_ne nb).trans e)
end
def IsCall (d : PyData) : Prop := ∃ (w : Wd) (ds : List PyData), d = callD w ds ∧ ds.length = w.ar ∧ ∀ x ∈ ds, ∃ i : Int, x = .int i
theorem IsCall.of {n : Nat} {w : Wd} {ds : List PyData} (hl : ds.length = w.ar) (h : PlacesD n ds) : IsCall (callD w ds) := ⟨w, ds, rfl, hl, fun x hx => by
  obtain ⟨i, e, _⟩ := placeD_int (h x hx)
  exact ⟨i, e⟩⟩
end My
set_option Elab.async false
set_option linter.all false
set_option maxRecDepth 100000
set_option maxHeartbeats 4000000
namespace My
open PySem PySem.Spec PyProof.Rows L2
/-! ### own defs that may raise -/
structure OwnX (P : Program) (w : World) (K : PySem.W.Frag) (mg : Str → Option Value) (base : Heap) (CX : CXT) (x : Str) (k : Nat) (ps : List Str) (sp : Sp) : Prop where
  ex : ∃ (f : Addr) (fd : FuncData), FnOk P w K mg base CX k f fd ps sp ∧ mg x = some (.ref f) ∧ PySem.W.keepIn K (.ref f) = true ∧ Binds K fd ps []
theorem OwnX.up {P : Program} {w : World} {K : PySem.W.Frag} {mg : Str → Option Value} {base : Heap} {CX : CXT} {x : Str} {j k : Nat} {ps : List Str} {sp : Sp} (D : OwnX P w K mg base CX x j ps sp) (h : j ≤ k) : OwnX P w K mg base CX x k ps sp := by
  obtain ⟨f, fd, F, m, kp, b⟩ := D.ex
  exact ⟨f, fd, F.mono h, m, kp, b⟩
/-! ### logs of maps -/
def StrHead (d : PyData) : Prop := ∀ d0 ds, d = .tuple (d0 :: ds) → ∃ s, d0 = .str s
theorem callD_inj {w w' : Wd} {ds ds' : List PyData} (h : callD w ds = callD w' ds') : w = w' ∧ ds = ds' := by
  unfold callD at h
  simp only [PyData.tuple.injEq, List.cons.injEq, PyData.str.injEq] at h
  refine ⟨?_, h.2⟩
  have h1 := h.1
  cases w <;> cases w' <;> first | rfl | exact absurd h1 (by decide +kernel)
end My
set_option Elab.async false
set_option linter.all false
set_option maxRecDepth 100000
set_option maxHeartbeats 4000000
namespace My
open PySem PySem.Spec PyProof.Rows L2
/-! ### logs: what they tell -/
def GoesTo (n : Nat) (r : Rec) (d : PyData) (r' : Rec) : Prop := ∃ (wd : Wd) (ds : List PyData) (t : Int) (rs : List Int), d = .tuple [callD wd ds, .int t, tI rs] ∧ ds.length = wd.ar ∧ verdict n r wd ds = .fine ∧ t = ((after r wd ds).1.length : Nat) ∧ rs = (after r wd ds).2 ∧ r' = after r wd ds
theorem GoesTo.inj {n : Nat} {r : Rec} {d : PyData} {a b : Rec} (h : GoesTo n r d a) (g : GoesTo n r d b) : a = b := by
  obtain ⟨wd, ds, t, rs, e, _, _, _, _, rfl⟩ := h
  obtain ⟨wd', ds', t', rs', e', _, _, _, _, rfl⟩ := g
  rw [e] at e'
  simp only [PyData.tuple.injEq, List.cons.injEq] at e'
  obtain ⟨rfl, rfl⟩ := callD_inj e'.1
  rfl
end My
set_option Elab.async false
set_option linter.all false
set_option maxRecDepth 100000
set_option maxHeartbeats 4000000
namespace My
open PySem PySem.Spec PyProof.Rows L2
/-! ### logs of a map -/
def recAt (es : List (PyData × Rec)) : Nat → Rec
  | 0 => ([], [])
  | i + 1 => match es[i]? with
    | some e => e.2
    | none => ([], [])
def LogIs (n : Nat) (es : List (PyData × Rec)) : Prop := ∀ (i : Nat) (e : PyData × Rec), es[i]? = some e → ∃ (wd : Wd) (ds : List PyData), e.1 = callD wd ds ∧ ds.length = wd.ar ∧ verdict n (recAt es i) wd ds = .fine ∧ e.2 = after (recAt es i) wd ds
end My
set_option Elab.async false
set_option linter.all false
set_option maxRecDepth 100000
set_option maxHeartbeats 4000000
namespace My
open PySem PySem.Spec PyProof.Rows L2
theorem recAt_append {es l : List (PyData × Rec)} {i : Nat} (h : i ≤ es.length) : recAt (es ++ l) i = recAt es i := by
  cases i with
  | zero => rfl
  | succ i =>
    show (match (es ++ l)[i]? with | some e => e.2 | none => ([], [])) = (match es[i]? with | some e => e.2 | none => ([], []))
    rw [List.getElem?_append_left (by omega)]
theorem LogIs.snoc {n : Nat} {es : List (PyData × Rec)} {r : Rec} {wd : Wd} {ds : List PyData} (h : LogIs n es) (hr : recAt es es.length = r) (hl : ds.length = wd.ar) (hf : verdict n r wd ds = .fine) : LogIs n (es ++ [(callD wd ds, after r wd ds)]) := fun i e he => by
  by_cases hi : i < es.length
  · rw [List.getElem?_append_left hi] at he
    rw [recAt_append (Nat.le_of_lt hi)]
    exact h i e he
  · have : i = es.length := by
      have := (List.getElem?_eq_some_iff.mp he).1
      rw [List.length_append, List.length_singleton] at this
      omega
    subst this
    rw [List.getElem?_append_right (Nat.le_refl _), Nat.sub_self] at he
    cases he
    rw [recAt_append (Nat.le_refl _), hr]
    exact ⟨wd, ds, rfl, hl, hf, rfl⟩
theorem LogIs.call {n : Nat} {es : List (PyData × Rec)} (h : LogIs n es) {e : PyData × Rec} (he : e ∈ es) : IsCall e.1 := by
  obtain ⟨i, hi, e0⟩ := List.getElem_of_mem he
  obtain ⟨wd, ds, e1, hl, hf, e2⟩ := h i e (by rw [← e0]; exact List.getElem?_eq_getElem hi)
  refine ⟨wd, ds, e1, hl, fun x hx => ?_⟩
  cases wd with
  | tie =>
    obtain ⟨a, b, rfl⟩ := two_of hl
    have hc : check2 n a b = .fine := by
      by_cases c : check2 n a b = .fine
      · exact c
      · rw [verdict_tieX c] at hf
        exact absurd hf c
    obtain ⟨x', y', rfl, rfl, _⟩ := check2_fine hc
    rcases List.mem_cons.mp hx with rfl | hx
    · exact ⟨_, rfl⟩
    · rw [List.mem_singleton.mp hx]
      exact ⟨_, rfl⟩
  | untie =>
    obtain ⟨a, b, rfl⟩ := two_of hl
    have hc : check2 n a b = .fine := by
      by_cases c : check2 n a b = .fine
      · exact c
      · rw [verdict_untieX c] at hf
        exact absurd hf c
    obtain ⟨x', y', rfl, rfl, _⟩ := check2_fine hc
    rcases List.mem_cons.mp hx with rfl | hx
    · exact ⟨_, rfl⟩
    · rw [List.mem_singleton.mp hx]
      exact ⟨_, rfl⟩
  | root =>
    obtain ⟨a, rfl⟩ := one_of hl
    rw [List.mem_singleton.mp hx]
    by_cases hp : placeD n a = true
    · obtain ⟨i, rfl, _⟩ := placeD_int hp
      exact ⟨i, rfl⟩
    · rw [verdict_rootX (by simpa using hp)] at hf
      cases hf
  | unroot =>
    obtain ⟨a, rfl⟩ := one_of hl
    rw [List.mem_singleton.mp hx]
    by_cases hp : placeD n a = true
    · obtain ⟨i, rfl, _⟩ := placeD_int hp
      exact ⟨i, rfl⟩
    · rw [verdict_unrootX (by simpa using hp)] at hf
      cases hf
theorem IsCall.head {d : PyData} (h : IsCall d) : StrHead d := fun d0 ds e => by
  obtain ⟨w, es, rfl, _⟩ := h
  unfold callD at e
  simp only [PyData.tuple.injEq, List.cons.injEq] at e
  exact ⟨_, e.1.symm⟩
theorem wos_sub2 {X Y : List Addr} {H : Hp} (h : ∀ b ∈ X, b ∈ Y) : Same (wos Y H) (wos X H) := fun b o e => by
  obtain ⟨n, e⟩ := wos_some e
  exact (wos_in fun z => n (h b z)).trans e
end My
set_option Elab.async false
set_option linter.all false
set_option maxRecDepth 100000
set_option maxHeartbeats 4000000
namespace My
open PySem PySem.Spec PyProof.Rows L2
/-! ### != of two instances of a class that has its own __eq__ and no __ne__ -/
end My
set_option Elab.async false
set_option linter.all false
set_option maxRecDepth 100000
set_option maxHeartbeats 4000000
namespace My
open PySem PySem.Spec PyProof.Rows L2
/-! ### a built-in value == or != an instance of an own class: what the value's own slot says -/
end My
set_option Elab.async false
set_option linter.all false
set_option maxRecDepth 100000
set_option maxHeartbeats 4000000
namespace PySem.SeqAt
open AutoSeq1 (wpAny_loadPart')
open MeetsSeq MeetsSeq2 MeetsSeq3
end PySem.SeqAt
namespace My
open PySem PySem.Spec PyProof.Rows L2
/-! ### x in a tuple of texts, x any data -/
end My
set_option Elab.async false
set_option linter.all false
set_option maxRecDepth 100000
set_option maxHeartbeats 4000000
namespace My
open PySem PySem.Spec PyProof.Rows L2
end My
namespace My
open PySem PySem.Spec PyProof.Rows L2
end My
set_option Elab.async false
set_option linter.all false
set_option maxRecDepth 100000
set_option maxHeartbeats 4000000
namespace My
open PySem PySem.Spec PyProof.Rows L2
/-! ### entries of any data (their roots of at most 10,000 items) -/
end My
set_option Elab.async false
set_option linter.all false
set_option maxRecDepth 100000
set_option maxHeartbeats 4000000
namespace My
open PySem PySem.Spec PyProof.Rows L2
/-! ### dicts whose keys are tuples of numbers, of any record: the keys' places are told -/
abbrev Ent := List Int × Addr × V
def kL (ns : List Int) : List Key := ns.map Sum.inl
theorem kL_inj : ∀ {a b : List Int}, kL a = kL b → a = b
  | [], [], _ => rfl
  | x :: a, y :: b, h => by
    have h : (Sum.inl x : Key) :: kL a = Sum.inl y :: kL b := h
    rw [List.cons.injEq] at h
    rw [Sum.inl.inj h.1, kL_inj h.2]
  | [], _ :: _, h => by cases h
  | _ :: _, [], h => by cases h
theorem kL_V (ns : List Int) : (kL ns).map kV = ns.map V.int := by unfold kL; rw [List.map_map]; rfl
def EntP (p : Ent) (q : List Key × Addr × Value) : Prop := q.1 = kL p.1 ∧ q.2.1 = p.2.1 ∧ RelV p.2.2 q.2.2
/-- a key's hash: of numbers only, so no world matters -/
def hashI : Key → Int
  | .inl i => hashInt i
  | .inr _ => 0
def entI (x : List Key × Addr × Value) : DictEntry := ⟨reduceHash (Builtin.Tuple.tupleHashOf (x.1.map hashI)), .ref x.2.1, x.2.2⟩
theorem entI_def (x : List Key × Addr × Value) : entI x = ⟨reduceHash (Builtin.Tuple.tupleHashOf (x.1.map hashI)), .ref x.2.1, x.2.2⟩ := by unfold entI; rfl
theorem hash_eq (w : World) (ns : List Int) : (kL ns).map (keyH w) = (kL ns).map hashI := List.map_congr_left fun k hk => by
  obtain ⟨i, _, rfl⟩ := List.mem_map.mp hk
  unfold keyH hashI
  rfl
theorem entry_is {P : Program} {w : World} (q : List Key × Addr × Value) : entryOfKey (tupleKind (mixKind P w)) q = ⟨reduceHash (Builtin.Tuple.tupleHashOf (q.1.map (keyH w))), .ref q.2.1, q.2.2⟩ := by
  unfold entryOfKey tupleKind tupleKeyHash mixKind
  rfl
theorem entI_eq {P : Program} {w : World} {es : List Ent} {xs : List (List Key × Addr × Value)} (r : Paired EntP es xs) : xs.map (entryOfKey (tupleKind (mixKind P w))) = xs.map entI := by
  induction r with
  | nil => rw [List.map_nil, List.map_nil]
  | @cons p q ps qs h t ih =>
    rw [List.map_cons, List.map_cons, ih, entry_is, entI_def, h.1, hash_eq]
def DctIs (a : Addr) (es : List Ent) (h : Heap) : Prop := es.length ≤ sizeLine ∧ (a == sysModules) = false ∧ ∃ xs, Paired EntP es xs ∧ ∃ o eA ep, h.get? a = some o ∧ o.ExactDict ∧ o.data = .dict eA ep ∧ eA.toList = xs.map entI ∧ (xs.map (·.1)).Nodup
def dctO (a : Addr) (es : List Ent) : HO := .ext (DctIs a es)
theorem dctO_ok {P : Program} {w : World} {H : Hp} {h : Heap} {a : Addr} {es : List Ent} (d : DctIs a es h) : ObjOk P w H h a (dctO a es) :=
  ⟨d, by obtain ⟨_, _, _, _, o, _, _, e, _⟩ := d; exact ⟨o, e⟩, fun h1 h2 d k => by
    obtain ⟨z, y, xs, r, o, eA, ep, e, rest⟩ := d
    exact ⟨z, y, xs, r, o, eA, ep, k o e, rest⟩⟩
/-- the keys are where they are told -/
def KeysOk (K : PySem.W.Frag) (H : Hp) (es : List Ent) : Prop := ∀ p ∈ es, SqT K H p.2.1 (p.1.map V.int)
def valE (es : List Ent) (k : List Int) : Option V := (es.find? fun p => decide (p.1 = k)).map (·.2.2)
def putE (es : List Ent) (k : List Int) (b : Addr) (v : V) : List Ent := if (valE es k).isSome = true then es.map fun p => if p.1 = k then (p.1, p.2.1, v) else p else es ++ [(k, b, v)]
theorem putE_len {es : List Ent} {k : List Int} {b : Addr} {v : V} : (putE es k b v).length ≤ es.length + 1 := by
  unfold putE
  split
  · rw [List.length_map]; omega
  · rw [List.length_append]; simp
theorem ent_val {es : List Ent} {xs : List (List Key × Addr × Value)} (r : Paired EntP es xs) (k : List Int) : RelO (valE es k) ((atKey xs (kL k)).map (·.2)) := by
  induction r with
  | nil => exact True.intro
  | @cons p q ps qs h t ih =>
    obtain ⟨h1, _, h2⟩ := h
    by_cases e : p.1 = k
    · have e' : q.1 = kL k := by rw [h1, e]
      have b : atKey (q :: qs) (kL k) = some q.2 := by simp [atKey, List.find?_cons, e']
      have c : valE (p :: ps) k = some p.2.2 := by simp [valE, List.find?_cons, e]
      rw [c, b]
      exact h2
    · have e' : ¬ q.1 = kL k := fun z => e (kL_inj (h1.symm.trans z))
      have b : atKey (q :: qs) (kL k) = atKey qs (kL k) := by simp [atKey, List.find?_cons, e']
      have c : valE (p :: ps) k = valE ps k := by simp [valE, List.find?_cons, e]
      rw [c, b]
      exact ih
theorem ent_repl {es : List Ent} {xs : List (List Key × Addr × Value)} (r : Paired EntP es xs) (k : List Int) {v : V} {u : Value} (ry : RelV v u) : Paired EntP (es.map fun p => if p.1 = k then (p.1, p.2.1, v) else p) (xs.map (putAt (kL k) u)) := by
  induction r with
  | nil => exact .nil
  | @cons p q ps qs h t ih =>
    obtain ⟨h1, h2, h3⟩ := h
    refine .cons ?_ ih
    unfold putAt
    dsimp only
    by_cases e : p.1 = k
    · rw [if_pos e, if_pos (show q.1 = kL k by rw [h1, e])]
      exact ⟨h1, h2, ry⟩
    · rw [if_neg e, if_neg (fun z => e (kL_inj (h1.symm.trans z)))]
      exact ⟨h1, h2, h3⟩
theorem ent_put {es : List Ent} {xs : List (List Key × Addr × Value)} (r : Paired EntP es xs) (k : List Int) {b : Addr} {v : V} {u : Value} (ry : RelV v u) : Paired EntP (putE es k b v) (storedH xs (kL k) b u) := by
  have e : (valE es k).isSome = (atKey xs (kL k)).isSome := by
    rw [(ent_val r k).isSome_eq, Option.isSome_map]
  unfold putE storedH
  rw [e]
  by_cases q : (atKey xs (kL k)).isSome = true
  · rw [if_pos q, if_pos q]
    exact ent_repl r k ry
  · rw [if_neg q, if_neg q]
    exact Paired.snoc r ⟨rfl, rfl, ry⟩
section
variable {X : Cx} {pins : List (Addr × Obj)} {σ : L2.St} {H : Hp} {s : Shared} {a b : Addr} {es : List Ent} {k : List Int} {v : V} {A : Around} {E : Value → Shared → Prop}
theorem key_is (I : Inv X pins σ H s) (hb : SqT X.K H b (k.map V.int)) : (tupleKind (mixKind X.prog X.w)).is s.heap (kL k) b := by
  obtain ⟨its, r, p, _⟩ := I.tuple hb
  obtain ⟨o, h1, h2, n, h3⟩ := p
  exact ⟨o, its.toArray, n, h1, h2, h3, by simpa using items_are (P := X.prog) (w := X.w) (ks := kL k) (by rw [kL_V]; exact r)⟩
theorem dct_of (I : Inv X pins σ H s) (e : Rd H a (dctO a es)) (hk : KeysOk X.K H es) : es.length ≤ sizeLine ∧ (a == sysModules) = false ∧ ∃ xs, Paired EntP es xs ∧ s.heap.DictOfH (tupleKind (mixKind X.prog X.w)) a xs := by
  obtain ⟨⟨z, y, xs, r, o, eA, ep, h1, h2, h3, h4, h5⟩, _⟩ := (show ObjOk X.prog X.w H s.heap a (dctO a es) from e.ok I.hok)
  refine ⟨z, y, xs, r, o, eA, ep, h1, h2, h3, by rw [entI_eq r]; exact h4, fun x hx => ?_, h5⟩
  have all : ∀ {l : List Ent} {m : List (List Key × Addr × Value)}, Paired EntP l m → KeysOk X.K H l → ∀ x ∈ m, (tupleKind (mixKind X.prog X.w)).is s.heap x.1 x.2.1 := by
    intro l m q
    induction q with
    | nil => intro _ x hx; exact nomatch hx
    | @cons p q ps qs hq t ih =>
      intro hk x hx
      rcases List.mem_cons.mp hx with e | hx
      · subst e
        rw [hq.1, hq.2.1]
        exact key_is I (hk p List.mem_cons_self)
      · exact ih (fun p hp => hk p (List.mem_cons_of_mem _ hp)) x hx
  exact all r hk x hx
theorem dct_get {Q : Value → Shared → Prop} (hu : A.units + 1 < cLine) (I : Inv X pins σ H s) (e : Rd H a (dctO a es)) (hk : KeysOk X.K H es) (hb : SqT X.K H b (k.map V.int)) (hv : valE es k = some v) (h : ∀ w' s', Inv X pins σ H s' → RelV v w' → Q w' s') :
    wpAny (model X.prog X.w) A (getItem (.ref a) (.ref b)) Q E s := by
  obtain ⟨z, hd, xs, rel, dd⟩ := dct_of I e hk
  obtain ⟨w', hw, rw'⟩ := RelO.some_of (v := v) (o := (atKey xs (kL k)).map (·.2)) (by rw [← hv]; exact ent_val rel k)
  obtain ⟨p, hp, hp2⟩ := Option.map_eq_some_iff.mp hw
  refine wpAny_getItem_heap (tupleKind_room_in1 hu) (key_is I hb) dd hp ?_
  rw [hp2]
  exact h w' _ (I.tok _) rw'
theorem dct_in {Q : Value → Shared → Prop} (hu : A.units + 1 < cLine) (I : Inv X pins σ H s) (e : Rd H a (dctO a es)) (hk : KeysOk X.K H es) (hb : SqT X.K H b (k.map V.int)) (h : ∀ s', Inv X pins σ H s' → Q (.bool (valE es k).isSome) s') :
    wpAny (model X.prog X.w) A (compareOp .In (.ref b) (.ref a)) Q E s := by
  obtain ⟨z, hd, xs, rel, dd⟩ := dct_of I e hk
  refine wpAny_in_heap (tupleKind_room_in1 hu) (key_is I hb) hd dd ?_
  have q := (ent_val rel k).isSome_eq
  rw [Option.isSome_map] at q
  rw [← q]
  exact h _ (I.tok _)
theorem dct_notIn {Q : Value → Shared → Prop} (hu : A.units + 1 < cLine) (I : Inv X pins σ H s) (e : Rd H a (dctO a es)) (hk : KeysOk X.K H es) (hb : SqT X.K H b (k.map V.int)) (h : ∀ s', Inv X pins σ H s' → Q (.bool (!(valE es k).isSome)) s') :
    wpAny (model X.prog X.w) A (compareOp .NotIn (.ref b) (.ref a)) Q E s := by
  obtain ⟨z, hd, xs, rel, dd⟩ := dct_of I e hk
  refine wpAny_notIn_heap (tupleKind_room_in1 hu) (key_is I hb) hd dd ?_
  have q := (ent_val rel k).isSome_eq
  rw [Option.isSome_map] at q
  rw [← q]
  exact h _ (I.tok _)
theorem dct_set {r : Value} {Q : Unit → Shared → Prop} (hu : A.units + 1 < cLine) (I : Inv X pins σ H s) (e : H a = some (dctO a es)) (hk : KeysOk X.K H es) (hb : SqT X.K H b (k.map V.int)) (hl : es.length < sizeLine) (rv : RelV v r) (h : ∀ s', Inv X pins σ (upd H a (dctO a (putE es k b v))) s' → Q () s') :
    wpAny (model X.prog X.w) A (setItem (.ref a) (.ref b) r) Q E s := by
  obtain ⟨z, hd, xs, rel, dd⟩ := dct_of I (.inl e) hk
  have hz : xs.length ≤ sizeLine := by rw [← Paired.length rel]; exact z
  refine wpAny_setItem_heap (hsz := hz) (tupleKind_room_in1 hu) (key_is I hb) dd fun h' dd' hs => h _ ?_
  obtain ⟨q, eA, ep, hq, h2, h3, h4, _, h5⟩ := dd'
  have hlen := putE_len (es := es) (k := k) (b := b) (v := v)
  exact d_write I (by rw [e]; exact True.intro) hs ⟨q, hq⟩ (dctO_ok ⟨by omega, hd, _, ent_put rel k rv, q, eA, ep, hq, h2, h3, by rw [← entI_eq (P := X.prog) (w := X.w) (ent_put rel k rv)]; exact h4, h5⟩)
end
section
variable {X : Cx}
/-- {} -/
def tDct0 (P : Program) (w : World) : TE := fun _ H Q => ∀ p, H p = none → Q (.ref p) (upd H p (dctO p []))
theorem pe_dct0 {P : Program} {w : World} {pos : Pos} (hP : X.prog = P := by rfl) (hw : X.w = w := by rfl) : PE X (.Dict [] [] pos) (tDct0 P w) := by
  subst hP hw
  exact ⟨fun pins s σ H Q I h =>
    wpAny_Dict_empty ⟨.ref s.heap.objs.size, _, I.laid (a := s.heap.objs.size) (o := dctO s.heap.objs.size []) (t' := s.toks) (fun _ _ q => Heap.get?_push_of_some _ q) (Nat.le_refl _) (dctO_ok ⟨Nat.zero_le _, beq_eq_false_iff_ne.mpr (Ne.symm (Nat.ne_of_lt I.big)), [], .nil, _, #[], 0, Heap.get?_push_size _ rfl, ⟨rfl, rfl, rfl⟩, rfl, rfl, List.nodup_nil⟩), rfl, h _ (I.hok.fresh (Nat.le_refl _))⟩⟩
/-- k in d, k not in d -/
def rInDct (K : PySem.W.Frag) (P : Program) (w : World) (neg : Bool) : R2 := fun x y H Q => ∃ (a b : Addr) (es : List Ent) (k : List Int), x = .ref b ∧ y = .ref a ∧ Rd H a (dctO a es) ∧ KeysOk K H es ∧ SqT K H b (k.map V.int) ∧ Q (.bl (if neg then !(valE es k).isSome else (valE es k).isSome)) H
theorem inDct {K : PySem.W.Frag} {P : Program} {w : World} (hu : X.A.units + 64 < cLine) (hK : X.K = K := by rfl) (hP : X.prog = P := by rfl) (hw : X.w = w := by rfl) : OpR X (compareOp .In) (rInDct K P w false) := by
  subst hK hP hw
  intro pins s σ H x y v u Q I rx ry h
  obtain ⟨a, b, es, k, rfl, rfl, e, hk, hb, q⟩ := h
  cases rx
  cases ry
  exact dct_in (by omega) I e hk hb fun s' I' => ⟨.bl _, H, I', rfl, q⟩
theorem notInDct {K : PySem.W.Frag} {P : Program} {w : World} (hu : X.A.units + 64 < cLine) (hK : X.K = K := by rfl) (hP : X.prog = P := by rfl) (hw : X.w = w := by rfl) : OpR X (compareOp .NotIn) (rInDct K P w true) := by
  subst hK hP hw
  intro pins s σ H x y v u Q I rx ry h
  obtain ⟨a, b, es, k, rfl, rfl, e, hk, hb, q⟩ := h
  cases rx
  cases ry
  exact dct_notIn (by omega) I e hk hb fun s' I' => ⟨.bl _, H, I', rfl, q⟩
/-- d[k] = v -/
def rSetDct (K : PySem.W.Frag) (P : Program) (w : World) : V → V → V → Hp → (Hp → Prop) → Prop := fun o i v H Q => ∃ (a b : Addr) (es : List Ent) (k : List Int), o = .ref a ∧ i = .ref b ∧ H a = some (dctO a es) ∧ KeysOk K H es ∧ SqT K H b (k.map V.int) ∧ es.length < sizeLine ∧ Q (upd H a (dctO a (putE es k b v)))
theorem setDct {K : PySem.W.Frag} {P : Program} {w : World} (hu : X.A.units + 64 < cLine) (hK : X.K = K := by rfl) (hP : X.prog = P := by rfl) (hw : X.w = w := by rfl) : PSet X (rSetDct K P w) := by
  subst hK hP hw
  intro pins s σ H o i v ov iv u Q I ro ri rv h
  obtain ⟨a, b, es, k, rfl, rfl, e, hk, hb, hl, q⟩ := h
  cases ro
  cases ri
  exact dct_set (by omega) I e hk hb hl rv fun s' I' => ⟨_, I', q⟩
end
end My
set_option Elab.async false
set_option linter.all false
set_option maxRecDepth 100000
set_option maxHeartbeats 4000000
namespace My
open PySem PySem.Spec PyProof.Rows L2
/-! ### states without heaps -/
/-- the def's own object: a list, a dict whose keys are tuples of numbers -/
inductive Ob where
  | lst (ds : List PyData)
  | dct (kvs : List (List Int × PyData))
def EntQ (K : PySem.W.Frag) (W : Hp) (p : Ent) (q : List Int × PyData) : Prop := p.1 = q.1 ∧ SqT K W p.2.1 (p.1.map V.int) ∧ Dq K W p.2.2 q.2
/-- a dict's entries told -/
def DctQ (K : PySem.W.Frag) (W : Hp) (es : List Ent) (kvs : List (List Int × PyData)) : Prop := Paired (EntQ K W) es kvs
theorem DctQ.same {K : PySem.W.Frag} {W W' : Hp} {es : List Ent} {kvs : List (List Int × PyData)} (s : Same W W') (h : DctQ K W es kvs) : DctQ K W' es kvs := by
  unfold DctQ at h ⊢
  induction h with
  | nil => exact .nil
  | cons h t ih => exact .cons ⟨h.1, My.Same.sqt s h.2.1, Dq.same s h.2.2⟩ ih
theorem DctQ.keys {K : PySem.W.Frag} {W : Hp} {es : List Ent} {kvs : List (List Int × PyData)} (h : DctQ K W es kvs) : KeysOk K W es := by
  unfold DctQ at h
  induction h with
  | nil => intro p hp; cases hp
  | cons h t ih =>
    intro p hp
    rcases List.mem_cons.mp hp with rfl | hp
    · exact h.2.1
    · exact ih p hp
/-- an own object's record -/
def ObR (K : PySem.W.Frag) (W : Hp) (a : Addr) (o : HO) : Ob → Prop
  | .lst ds => ∃ us, o = .lst us ∧ DqAll K W us ds
  | .dct kvs => ∃ es, o = dctO a es ∧ DctQ K W es kvs
theorem ObR.same {K : PySem.W.Frag} {W W' : Hp} {a : Addr} {o : HO} {ob : Ob} (s : Same W W') (h : ObR K W a o ob) : ObR K W' a o ob := by
  cases ob with
  | lst ds =>
    obtain ⟨us, e, h⟩ := h
    exact ⟨us, e, DqAll.same s h⟩
  | dct kvs =>
    obtain ⟨es, e, h⟩ := h
    exact ⟨es, e, h.same s⟩
/-- a record that may change: a list, a dict -/
def ownO : HO → Prop
  | .lst _ => True
  | .ext _ => True
  | .dK _ => True
  | _ => False
theorem ObR.own {K : PySem.W.Frag} {W : Hp} {a : Addr} {o : HO} {ob : Ob} (h : ObR K W a o ob) : ownO o := by
  cases ob with
  | lst ds =>
    obtain ⟨us, rfl, h⟩ := h
    trivial
  | dct kvs =>
    obtain ⟨es, rfl, h⟩ := h
    trivial
def AvO (av : List Addr) (H : Hp) : Prop := ∀ b ∈ av, ∃ o, H b = some o ∧ ownO o
theorem AvO.same {av : List Addr} {H H' : Hp} (h : AvO av H) (s : Same H H') : AvO av H' := fun b hb => by
  obtain ⟨o, e, w⟩ := h b hb
  exact ⟨o, s _ _ e, w⟩
theorem AvO.avs {av : List Addr} {H : Hp} (h : AvO av H) : Avs av H := fun b hb => by
  obtain ⟨o, e, w⟩ := h b hb
  exact ⟨o, e⟩
theorem AvO.sqt {K : PySem.W.Frag} {av : List Addr} {H : Hp} {a : Addr} {xs : List V} (hL : AvO av H) (h : SqT K H a xs) : SqT K (wos av H) a xs := by
  rcases h with (h | ⟨o, h⟩) | h
  · exact .inl (.inl ((wos_in fun hb => by
      obtain ⟨us, e, w⟩ := hL a hb
      rw [e] at h
      cases h
      exact w).trans h))
  · exact .inl (.inr ⟨o, (wos_in fun hb => by
      obtain ⟨us, e, w⟩ := hL a hb
      rw [e] at h
      cases h
      exact w).trans h⟩)
  · exact .inr h
/-- what a slot holds: nothing told, data, a new list, the def's own list or dict, the pen -/
inductive Sl where
  | no
  | d (x : PyData)
  | nw (ds : List PyData)
  /-- a list that is not changed any more -/
  | l (ds : List PyData)
  | ob (i : Nat)
  | pen
  /-- a tuple of numbers whose methods may be called -/
  | pl (ns : List Int)
  /-- a tuple of numbers that may be a key -/
  | kt (ns : List Int)
  /-- a deal whose roots' methods may be called -/
  | dl (rs ss : List Int)
  /-- a new dict, a dict that is not changed any more -/
  | nd (kvs : List (List Int × PyData))
  | dd (kvs : List (List Int × PyData))
  /-- a dict of numbers that is not changed any more -/
  | di (kvs : List (Int × Int))
structure PSt where
  ρ : List Sl
  θ : List Ob
  k : Nat
  /-- how often an own list was changed -/
  m : Nat
abbrev PE1 := PSt → (Sl → PSt → Prop) → Prop
abbrev PT1 := PSt → (Bool → PSt → Prop) → Prop
abbrev PA1 := PSt → (List Sl → PSt → Prop) → Prop
/-- a value told -/
def VRel (K : PySem.W.Frag) (Hs : Hp) (av A : List Addr) (P : Option (Addr × Addr)) (H : Hp) (x : V) : Sl → Prop
  | .no => True
  | .d e => Dq K (wos av H) x e
  | .nw ds => ∃ a us, x = .ref a ∧ Hs a = none ∧ H a = some (.lst us) ∧ a ∉ av ∧ DqAll K (wos (a :: av) H) us ds
  | .l ds => ∃ a us, x = .ref a ∧ wos av H a = some (.lst us) ∧ DqAll K (wos av H) us ds
  | .ob i => ∃ a, A[i]? = some a ∧ x = .ref a
  | .pen => ∃ p c, P = some (p, c) ∧ x = .ref p
  | .pl ns => ∃ a, x = .ref a ∧ Plain (wos av H) a (ns.map V.int)
  | .kt ns => ∃ a, x = .ref a ∧ wos av H a = some (.tup (ns.map V.int))
  | .dl rs ss => ∃ a, x = .ref a ∧ DealAt K (wos av H) a rs ss
  | .nd kvs => ∃ a es, x = .ref a ∧ Hs a = none ∧ H a = some (dctO a es) ∧ a ∉ av ∧ DctQ K (wos (a :: av) H) es kvs
  | .dd kvs => ∃ a es, x = .ref a ∧ wos av H a = some (dctO a es) ∧ DctQ K (wos av H) es kvs
  | .di kvs => ∃ a, x = .ref a ∧ wos av H a = some (.dK (kvs.map fun p => (Sum.inl p.1, V.int p.2)))
inductive VRels (K : PySem.W.Frag) (Hs : Hp) (av A : List Addr) (P : Option (Addr × Addr)) (H : Hp) : List V → List Sl → Prop
  | nil : VRels K Hs av A P H [] []
  | cons {x z xs zs} : VRel K Hs av A P H x z → z ≠ .no → VRels K Hs av A P H xs zs → VRels K Hs av A P H (x :: xs) (z :: zs)
structure Rl (K : PySem.W.Frag) (H0 Hs : Hp) (P : Option (Addr × Addr)) (A : List Addr) (s : PSt) (av : List Addr) (σ : L2.St) (H : Hp) : Prop where
  avl : AvO av H
  len : s.ρ.length = σ.length
  alen : A.length = s.θ.length
  nd : A.Nodup
  sub : ∀ a ∈ A, a ∈ av ∧ H0 a = none
  obs : ∀ (i : Nat) (a : Addr) (ob : Ob), A[i]? = some a → s.θ[i]? = some ob → ∃ o, H a = some o ∧ ObR K (wos av H) a o ob
  sl : ∀ (i : Nat) (z : Sl), s.ρ[i]? = some z → z ≠ .no → ((∀ ds, z ≠ .nw ds) ∧ ∀ kvs, z ≠ .nd kvs) ∧ ∃ v, σ[i]? = some (some v) ∧ VRel K Hs av A P H v z
  pen : ∀ p c, P = some (p, c) → Pen H p c s.k ∧ p ∈ av ∧ (∃ o, H0 p = some o) ∧ ∃ o, H0 c = some o
  fr : ∀ b o, (∀ p c, P = some (p, c) → b ≠ p) → H0 b = some o → H b = some o
  dom0 : ∀ b, Hs b = none → H0 b = none
  dom : ∀ b, H b = none → Hs b = none
/-- what an expression does to the state -/
structure Stp (P : Option (Addr × Addr)) (A av : List Addr) (s : PSt) (H : Hp) (s' : PSt) (H' : Hp) : Prop where
  same : Same (wos av H) (wos av H')
  rho : s'.ρ = s.ρ
  mle : s.m ≤ s'.m
  keep : s'.m = s.m → s'.θ = s.θ ∧ ∀ a ∈ A, H' a = H a
  oth : ∀ b o, b ∉ A → (∀ p c, P = some (p, c) → b ≠ p) → H b = some o → H' b = some o
theorem Stp.refl {P : Option (Addr × Addr)} {A av : List Addr} {s : PSt} {H : Hp} : Stp P A av s H s H := ⟨Same.refl _, rfl, Nat.le_refl _, fun _ => ⟨rfl, fun _ _ => rfl⟩, fun _ _ _ _ e => e⟩
theorem Stp.trans {P : Option (Addr × Addr)} {A av : List Addr} {s s1 s2 : PSt} {H H1 H2 : Hp} (h : Stp P A av s H s1 H1) (g : Stp P A av s1 H1 s2 H2) : Stp P A av s H s2 H2 :=
  ⟨h.same.trans g.same, g.rho.trans h.rho, Nat.le_trans h.mle g.mle, fun e => by
    have h1 := h.mle
    have h2 := g.mle
    obtain ⟨a1, a2⟩ := h.keep (by omega)
    obtain ⟨b1, b2⟩ := g.keep (by omega)
    exact ⟨b1.trans a1, fun a ha => (b2 a ha).trans (a2 a ha)⟩, fun b o n1 n2 e => g.oth b o n1 n2 (h.oth b o n1 n2 e)⟩
structure SE (K : PySem.W.Frag) (t : TE) (p : PE1) : Prop where
  run : ∀ {H0 Hs : Hp} {P : Option (Addr × Addr)} {A : List Addr} {s : PSt} {av : List Addr} {σ : L2.St} {H : Hp} {Q : Sl → PSt → Prop} {R : VK}, Rl K H0 Hs P A s av σ H → p s Q →
  (∀ x z s' H', Rl K H0 Hs P A s' av σ H' → Stp P A av s H s' H' → VRel K Hs av A P H' x z → z ≠ .no → Q z s' → R x H') → t σ H R
structure ST (K : PySem.W.Frag) (t : TT) (p : PT1) : Prop where
  run : ∀ {H0 Hs : Hp} {P : Option (Addr × Addr)} {A : List Addr} {s : PSt} {av : List Addr} {σ : L2.St} {H : Hp} {Q : Bool → PSt → Prop} {R : Bool → Hp → Prop}, Rl K H0 Hs P A s av σ H → p s Q →
  (∀ b s' H', Rl K H0 Hs P A s' av σ H' → Stp P A av s H s' H' → Q b s' → R b H') → t σ H R
structure SA (K : PySem.W.Frag) (t : TA) (p : PA1) : Prop where
  run : ∀ {H0 Hs : Hp} {P : Option (Addr × Addr)} {A : List Addr} {s : PSt} {av : List Addr} {σ : L2.St} {H : Hp} {Q : List Sl → PSt → Prop} {R : List V → Hp → Prop}, Rl K H0 Hs P A s av σ H → p s Q →
  (∀ xs zs s' H', Rl K H0 Hs P A s' av σ H' → Stp P A av s H s' H' → VRels K Hs av A P H' xs zs → Q zs s' → R xs H') → t σ H R
section
variable {K : PySem.W.Frag} {H0 Hs : Hp} {P : Option (Addr × Addr)} {A : List Addr} {s : PSt} {av : List Addr} {σ : L2.St} {H H' : Hp} {x : V} {z : Sl}
theorem VRel.same (sm : Same (wos av H) (wos av H')) (h : VRel K Hs av A P H x z) : VRel K Hs av A P H' x z := by
  cases z with
  | no => trivial
  | d e => exact Dq.same sm h
  | nw ds =>
    obtain ⟨a, us, rfl, h0, e, n, hd⟩ := h
    refine ⟨a, us, rfl, h0, (wos_some (sm _ _ ((wos_in n).trans e))).2, n, DqAll.same (fun b o hb => ?_) hd⟩
    obtain ⟨nb, eb⟩ := wos_some hb
    rw [List.mem_cons, not_or] at nb
    exact (wos_in (by rw [List.mem_cons, not_or]; exact nb)).trans (wos_some (sm _ _ ((wos_in nb.2).trans eb))).2
  | l ds =>
    obtain ⟨a, us, rfl, e, hd⟩ := h
    exact ⟨a, us, rfl, sm _ _ e, DqAll.same sm hd⟩
  | ob i => exact h
  | pen => exact h
  | pl ns =>
    obtain ⟨a, rfl, h⟩ := h
    exact ⟨a, rfl, h.same sm⟩
  | kt ns =>
    obtain ⟨a, rfl, h⟩ := h
    exact ⟨a, rfl, sm _ _ h⟩
  | dl rs ss =>
    obtain ⟨a, rfl, h⟩ := h
    exact ⟨a, rfl, h.same sm⟩
  | nd kvs =>
    obtain ⟨a, es, rfl, h0, e, n, hd⟩ := h
    refine ⟨a, es, rfl, h0, (wos_some (sm _ _ ((wos_in n).trans e))).2, n, hd.same (fun b o hb => ?_)⟩
    obtain ⟨nb, eb⟩ := wos_some hb
    rw [List.mem_cons, not_or] at nb
    exact (wos_in (by rw [List.mem_cons, not_or]; exact nb)).trans (wos_some (sm _ _ ((wos_in nb.2).trans eb))).2
  | dd kvs =>
    obtain ⟨a, es, rfl, e, hd⟩ := h
    exact ⟨a, es, rfl, sm _ _ e, hd.same sm⟩
  | di kvs =>
    obtain ⟨a, rfl, e⟩ := h
    exact ⟨a, rfl, sm _ _ e⟩
theorem VRels.same (sm : Same (wos av H) (wos av H')) {xs : List V} {zs : List Sl} (h : VRels K Hs av A P H xs zs) : VRels K Hs av A P H' xs zs := by
  induction h with
  | nil => exact .nil
  | cons h n _ ih => exact .cons (h.same sm) n ih
theorem Rl.same (sm : Same H H') (h : Rl K H0 Hs P A s av σ H) : Rl K H0 Hs P A s av σ H' where
  avl := h.avl.same sm
  len := h.len
  alen := h.alen
  nd := h.nd
  sub := h.sub
  obs := fun i a ds e1 e2 => by
    obtain ⟨o, e, hd⟩ := h.obs i a ds e1 e2
    exact ⟨o, sm _ _ e, hd.same (My.Same.wos sm)⟩
  sl := fun i z e n => by
    obtain ⟨n2, v, e1, hv⟩ := h.sl i z e n
    exact ⟨n2, v, e1, hv.same (My.Same.wos sm)⟩
  pen := fun p c e => by
    obtain ⟨h1, h2⟩ := h.pen p c e
    exact ⟨Pen.same sm h1, h2⟩
  fr := fun b o n e => sm _ _ (h.fr b o n e)
  dom0 := h.dom0
  dom := fun b e => h.dom b (by
    cases e2 : H b with
    | none => rfl
    | some o => rw [sm _ _ e2] at e; cases e)
theorem Rl.here (h : Rl K H0 Hs P A s av σ H) {a : Addr} (ha : a ∈ A) : ∃ o, H a = some o := by
  obtain ⟨i, hi, e⟩ := List.getElem_of_mem ha
  have e1 : A[i]? = some a := by rw [List.getElem?_eq_getElem hi, e]
  have h2 : i < s.θ.length := by rw [← h.alen]; exact hi
  obtain ⟨us, e3, _⟩ := h.obs i a _ e1 (List.getElem?_eq_getElem h2)
  exact ⟨us, e3⟩
theorem Rl.stp (h : Rl K H0 Hs P A s av σ H) (sm : Same H H') : Stp P A av s H s H' := by
  refine ⟨My.Same.wos sm, rfl, Nat.le_refl _, fun _ => ⟨rfl, fun a ha => ?_⟩, fun b o _ _ e => sm _ _ e⟩
  obtain ⟨us, e⟩ := h.here ha
  rw [e, sm _ _ e]
theorem Rl.lobs (h : Rl K H0 Hs P A s av σ H) {i : Nat} {a : Addr} {ds : List PyData} (e1 : A[i]? = some a) (e2 : s.θ[i]? = some (.lst ds)) : ∃ us, H a = some (.lst us) ∧ DqAll K (wos av H) us ds := by
  obtain ⟨o, e, us, rfl, hd⟩ := h.obs i a _ e1 e2
  exact ⟨us, e, hd⟩
theorem Rl.freshS {a : Addr} (h : Rl K H0 Hs P A s av σ H) (ha : H a = none) : Hs a = none := h.dom a ha
theorem Rl.freshAv {a : Addr} (h : Rl K H0 Hs P A s av σ H) (ha : H a = none) : a ∉ av := h.avl.avs.fresh ha
/-- a new object -/
theorem Rl.alloc {a : Addr} {o : HO} (h : Rl K H0 Hs P A s av σ H) (ha : H a = none) : Rl K H0 Hs P A s av σ (upd H a o) ∧ Stp P A av s H s (upd H a o) := ⟨h.same (My.Same.new ha), h.stp (My.Same.new ha)⟩
theorem VRel.lst {a : Addr} {us : List V} {ds : List PyData} (h : Rl K H0 Hs P A s av σ H) (ha : H a = none) (hd : DqAll K (wos av H) us ds) : VRel K Hs av A P (upd H a (.lst us)) (.ref a) (.nw ds) :=
  ⟨a, us, rfl, h.freshS ha, upd_same, h.freshAv ha, DqAll.same (wos_fresh ha (My.Same.new ha)) hd⟩
theorem VRel.tup {a : Addr} {us : List V} {ds : List PyData} (h : Rl K H0 Hs P A s av σ H) (ha : H a = none) (hd : DqAll K (wos av H) us ds) : VRel K Hs av A P (upd H a (.tup us)) (.ref a) (.d (.tuple ds)) :=
  Dq.tup (SqT.of ((wos_in (h.freshAv ha)).trans upd_same)) (DqAll.same (My.Same.wos (My.Same.new ha)) hd)
end
section
variable {K : PySem.W.Frag} {Hs : Hp} {P : Option (Addr × Addr)} {A : List Addr} {av : List Addr} {H : Hp}
theorem VRel.vint (i : Int) : VRel K Hs av A P H (.int i) (.d (.int i)) := Dq.int i
theorem VRel.vbl (b : Bool) : VRel K Hs av A P H (.bl b) (.d (.bool b)) := Dq.bl b
theorem VRel.vstr (x : Str) : VRel K Hs av A P H (.str x) (.d (.str x)) := Dq.str x
theorem VRel.vnon : VRel K Hs av A P H .non (.d .none) := Dq.non
theorem VRel.vd {x : V} {d : PyData} (h : Dq K (wos av H) x d) : VRel K Hs av A P H x (.d d) := h
end
/-! ### what a value tells, as data -/
def datOf : Sl → Option PyData
  | .d e => some e
  | .nw ds => some (.list ds)
  | .l ds => some (.list ds)
  | .pl ns => some (tI ns)
  | .kt ns => some (tI ns)
  | .dl rs ss => some (.tuple [tI rs, tI ss])
  | _ => none
theorem VRel.dat {K : PySem.W.Frag} {Hs : Hp} {P : Option (Addr × Addr)} {A av : List Addr} {H : Hp} {x : V} {z : Sl} {d : PyData} (h : VRel K Hs av A P H x z) (e : datOf z = some d) : Dq K (wos av H) x d := by
  cases z with
  | d e' => cases e; exact h
  | nw ds =>
    cases e
    obtain ⟨a, us, rfl, h0, ea, n, hd⟩ := h
    exact .lst (SqL.of ((wos_in n).trans ea)) (DqAll.same wos_less hd)
  | l ds =>
    cases e
    obtain ⟨a, us, rfl, ea, hd⟩ := h
    exact .lst (SqL.of ea) hd
  | pl ns =>
    cases e
    obtain ⟨a, rfl, h⟩ := h
    exact Dq.ofTI h.sqt
  | kt ns =>
    cases e
    obtain ⟨a, rfl, h⟩ := h
    exact Dq.ofTI (SqT.of h)
  | dl rs ss =>
    cases e
    obtain ⟨a, rfl, h⟩ := h
    exact h.dq
  | _ => cases e
def datsOf : List Sl → Option (List PyData)
  | [] => some []
  | z :: zs => match datOf z, datsOf zs with
    | some d, some ds => some (d :: ds)
    | _, _ => none
theorem VRels.dats {K : PySem.W.Frag} {Hs : Hp} {P : Option (Addr × Addr)} {A av : List Addr} {H : Hp} {xs : List V} {zs : List Sl} {ds : List PyData} (h : VRels K Hs av A P H xs zs) (e : datsOf zs = some ds) : DqAll K (wos av H) xs ds := by
  induction h generalizing ds with
  | nil => cases e; exact .nil
  | @cons x z xs zs h n _ ih =>
    unfold datsOf at e
    cases e1 : datOf z with
    | none => rw [e1] at e; cases e
    | some d =>
      cases e2 : datsOf zs with
      | none => rw [e1, e2] at e; cases e
      | some es =>
        rw [e1, e2] at e
        cases e
        exact .cons (h.dat e1) (ih e2)
/-- an own list -/
def lstAt (θ : List Ob) (i : Nat) : Option (List PyData) := match θ[i]? with
  | some (.lst ds) => some ds
  | _ => none
theorem lstAt_some {θ : List Ob} {i : Nat} {ds : List PyData} (h : lstAt θ i = some ds) : θ[i]? = some (.lst ds) := by
  unfold lstAt at h
  split at h
  · rename_i e; rw [e]; cases h; rfl
  · cases h
def seqOf (s : PSt) : Sl → Option (Bool × List PyData)
  | .d (.list ds) => some (true, ds)
  | .d (.tuple ds) => some (false, ds)
  | .nw ds => some (true, ds)
  | .l ds => some (true, ds)
  | .ob i => (lstAt s.θ i).map fun ds => (true, ds)
  | .pl ns => some (false, ns.map PyData.int)
  | .kt ns => some (false, ns.map PyData.int)
  | .dl rs ss => some (false, [tI rs, tI ss])
  | _ => none
theorem VRel.seq {K : PySem.W.Frag} {H0 Hs : Hp} {P : Option (Addr × Addr)} {A av : List Addr} {s : PSt} {σ : L2.St} {H : Hp} {x : V} {z : Sl} {b : Bool} {ds : List PyData} (r : Rl K H0 Hs P A s av σ H) (h : VRel K Hs av A P H x z) (e : seqOf s z = some (b, ds)) :
    ∃ a us, x = .ref a ∧ (if b = true then SqL K H a us else SqT K H a us) ∧ DqAll K (wos av H) us ds := by
  cases z with
  | no => cases e
  | pen => cases e
  | d e' =>
    cases e' with
    | list es =>
      cases e
      obtain ⟨a, us, rfl, hA, hd⟩ := Dq.un_lst h
      exact ⟨a, us, rfl, wos_le.seq hA, hd⟩
    | tuple es =>
      cases e
      obtain ⟨a, us, rfl, hA, hd⟩ := Dq.un_tup h
      exact ⟨a, us, rfl, My.Same.sqt wos_le hA, hd⟩
    | _ => cases e
  | nw es =>
    cases e
    obtain ⟨a, us, rfl, h0, ea, n, hd⟩ := h
    exact ⟨a, us, rfl, SqL.of ea, DqAll.same wos_less hd⟩
  | l es =>
    cases e
    obtain ⟨a, us, rfl, ea, hd⟩ := h
    exact ⟨a, us, rfl, wos_le.seq (SqL.of ea), hd⟩
  | ob i =>
    obtain ⟨a, e1, rfl⟩ := h
    cases e2 : lstAt s.θ i with
    | none => rw [seqOf, e2] at e; cases e
    | some es =>
      rw [seqOf, e2] at e
      obtain ⟨rfl, rfl⟩ : true = b ∧ es = ds := by simpa using e
      obtain ⟨us, ea, hd⟩ := r.lobs e1 (lstAt_some e2)
      exact ⟨a, us, rfl, SqL.of ea, hd⟩
  | pl ns =>
    cases e
    obtain ⟨a, us, rfl, hT, hd⟩ := Dq.un_tup (h.dat (z := .pl ns) rfl)
    exact ⟨a, us, rfl, My.Same.sqt wos_le hT, hd⟩
  | kt ns =>
    cases e
    obtain ⟨a, us, rfl, hT, hd⟩ := Dq.un_tup (h.dat (z := .kt ns) rfl)
    exact ⟨a, us, rfl, My.Same.sqt wos_le hT, hd⟩
  | dl rs ss =>
    cases e
    obtain ⟨a, us, rfl, hT, hd⟩ := Dq.un_tup (h.dat (z := .dl rs ss) rfl)
    exact ⟨a, us, rfl, My.Same.sqt wos_le hT, hd⟩
  | _ => cases e
/-- a list's own record -/
theorem VRel.lseq {K : PySem.W.Frag} {H0 Hs : Hp} {P : Option (Addr × Addr)} {A av : List Addr} {s : PSt} {σ : L2.St} {H : Hp} {x : V} {z : Sl} {ds : List PyData} (r : Rl K H0 Hs P A s av σ H) (h : VRel K Hs av A P H x z) (e : seqOf s z = some (true, ds)) :
    ∃ a us, x = .ref a ∧ SqL K H a us ∧ DqAll K (wos av H) us ds := by
  obtain ⟨a, us, e1, h1, h2⟩ := h.seq r e
  exact ⟨a, us, e1, h1, h2⟩
theorem VRel.tseq {K : PySem.W.Frag} {H0 Hs : Hp} {P : Option (Addr × Addr)} {A av : List Addr} {s : PSt} {σ : L2.St} {H : Hp} {x : V} {z : Sl} {ds : List PyData} (r : Rl K H0 Hs P A s av σ H) (h : VRel K Hs av A P H x z) (e : seqOf s z = some (false, ds)) :
    ∃ a us, x = .ref a ∧ SqT K H a us ∧ DqAll K (wos av H) us ds := by
  obtain ⟨a, us, e1, h1, h2⟩ := h.seq r e
  exact ⟨a, us, e1, h1, h2⟩
/-! ### expressions -/
def pVar (i : Nat) : PE1 := fun s Q => match s.ρ[i]? with
  | some (.d e) => Q (.d e) s
  | some (.l e) => Q (.l e) s
  | some (.ob j) => Q (.ob j) s
  | some .pen => Q .pen s
  | some (.pl ns) => Q (.pl ns) s
  | some (.kt ns) => Q (.kt ns) s
  | some (.dl rs ss) => Q (.dl rs ss) s
  | some (.dd kvs) => Q (.dd kvs) s
  | some (.di kvs) => Q (.di kvs) s
  | _ => False
def pC (d : PyData) : PE1 := fun s Q => Q (.d d) s
abbrev F1 := PSt → Sl → (Sl → Prop) → Prop
abbrev F2 := PSt → Sl → Sl → (Sl → Prop) → Prop
abbrev FN := PSt → List Sl → (Sl → Prop) → Prop
/-- a state that calls change, too -/
abbrev FC := PSt → List Sl → (Sl → PSt → Prop) → Prop
def pOp (f : F2) (p q : PE1) : PE1 := fun s Q => p s fun a s1 => q s1 fun b s2 => f s2 a b fun z => Q z s2
def pUn (f : F1) (p : PE1) : PE1 := fun s Q => p s fun a s1 => f s1 a fun z => Q z s1
def pNil : PA1 := fun s Q => Q [] s
def pCons (p : PE1) (q : PA1) : PA1 := fun s Q => p s fun a s1 => q s1 fun as s2 => Q (a :: as) s2
def pCB (f : FN) (p : PA1) : PE1 := fun s Q => p s fun as s1 => f s1 as fun z => Q z s1
def pCall (f : FC) (p : PA1) : PE1 := fun s Q => p s fun as s1 => f s1 as Q
def pTup (p : PA1) : PE1 := fun s Q => p s fun as s1 => ∃ ds, datsOf as = some ds ∧ ds.length ≤ 10000 ∧ Q (.d (.tuple ds)) s1
def pLst (p : PA1) : PE1 := fun s Q => p s fun as s1 => ∃ ds, datsOf as = some ds ∧ ds.length ≤ 10000 ∧ Q (.nw ds) s1
def blOf (z : Sl) (Q : Bool → Prop) : Prop := match z with
  | .d (.bool b) => Q b
  | _ => False
def pB (p : PE1) : PT1 := fun s Q => p s fun z s1 => blOf z fun b => Q b s1
def pNot (p : PT1) : PT1 := fun s Q => p s fun b s1 => Q (!b) s1
def pAnd (p q : PT1) : PT1 := fun s Q => p s fun b s1 => if b = true then q s1 Q else Q false s1
def pOr (p q : PT1) : PT1 := fun s Q => p s fun b s1 => if b = true then Q true s1 else q s1 Q
def pYes : PT1 := fun s Q => Q true s
def pAndV (p q : PE1) : PE1 := fun s Q => p s fun z s1 => blOf z fun b => if b = true then q s1 Q else Q (.d (.bool false)) s1
def pOrV (p q : PE1) : PE1 := fun s Q => p s fun z s1 => blOf z fun b => if b = true then Q (.d (.bool true)) s1 else q s1 Q
def pNotV (p : PE1) : PE1 := fun s Q => p s fun z s1 => blOf z fun b => Q (.d (.bool (!b))) s1
def pIf (c : PT1) (p q : PE1) : PE1 := fun s Q => c s fun b s1 => if b = true then p s1 Q else q s1 Q
def pChain (f g : F2) (p q r : PE1) : PE1 := fun s Q => p s fun a s1 => q s1 fun b s2 => f s2 a b fun z => blOf z fun c => if c = true then r s2 fun e s3 => g s3 b e fun z => Q z s3 else Q (.d (.bool false)) s2
section
variable {K : PySem.W.Frag}
structure OpOk (K : PySem.W.Frag) (r : R2) (f : F2) : Prop where
  run : ∀ {H0 Hs : Hp} {P : Option (Addr × Addr)} {A : List Addr} {s : PSt} {av : List Addr} {σ : L2.St} {H : Hp} {x y : V} {a b : Sl} {Q : Sl → Prop} {R : VK}, Rl K H0 Hs P A s av σ H → VRel K Hs av A P H x a → a ≠ .no → VRel K Hs av A P H y b → b ≠ .no → f s a b Q →
  (∀ v z H', Same H H' → VRel K Hs av A P H' v z → z ≠ .no → Q z → R v H') → r x y H R
structure UnOk (K : PySem.W.Frag) (r : V → Hp → VK → Prop) (f : F1) : Prop where
  run : ∀ {H0 Hs : Hp} {P : Option (Addr × Addr)} {A : List Addr} {s : PSt} {av : List Addr} {σ : L2.St} {H : Hp} {x : V} {a : Sl} {Q : Sl → Prop} {R : VK}, Rl K H0 Hs P A s av σ H → VRel K Hs av A P H x a → a ≠ .no → f s a Q →
  (∀ v z H', Same H H' → VRel K Hs av A P H' v z → z ≠ .no → Q z → R v H') → r x H R
structure CbOk (K : PySem.W.Frag) (r : List V → Hp → VK → Prop) (f : FN) : Prop where
  run : ∀ {H0 Hs : Hp} {P : Option (Addr × Addr)} {A : List Addr} {s : PSt} {av : List Addr} {σ : L2.St} {H : Hp} {xs : List V} {as : List Sl} {Q : Sl → Prop} {R : VK}, Rl K H0 Hs P A s av σ H → VRels K Hs av A P H xs as → f s as Q →
  (∀ v z H', Same H H' → VRel K Hs av A P H' v z → z ≠ .no → Q z → R v H') → r xs H R
structure ClOk (K : PySem.W.Frag) (sp : L2.Sp) (f : FC) : Prop where
  run : ∀ {H0 Hs : Hp} {P : Option (Addr × Addr)} {A : List Addr} {s : PSt} {av : List Addr} {σ : L2.St} {H : Hp} {xs : List V} {as : List Sl} {Q : Sl → PSt → Prop} {R : VK}, Rl K H0 Hs P A s av σ H → VRels K Hs av A P H xs as → f s as Q →
  (∀ v z s' H', Rl K H0 Hs P A s' av σ H' → Stp P A av s H s' H' → VRel K Hs av A P H' v z → z ≠ .no → Q z s' → R v H') → sp xs H R E0
theorem SE.var (i : Nat) : SE K (tVar i) (pVar i) := by
  constructor
  intro H0 Hs P A s av σ H Q R r h q
  unfold pVar at h
  split at h
  · rename_i e he
    obtain ⟨_, v, e1, hv⟩ := r.sl i _ he (by simp)
    exact ⟨v, e1, q v _ s H r Stp.refl hv (by simp) h⟩
  · rename_i j he
    obtain ⟨_, v, e1, hv⟩ := r.sl i _ he (by simp)
    exact ⟨v, e1, q v _ s H r Stp.refl hv (by simp) h⟩
  · rename_i j he
    obtain ⟨_, v, e1, hv⟩ := r.sl i _ he (by simp)
    exact ⟨v, e1, q v _ s H r Stp.refl hv (by simp) h⟩
  · rename_i he
    obtain ⟨_, v, e1, hv⟩ := r.sl i _ he (by simp)
    exact ⟨v, e1, q v _ s H r Stp.refl hv (by simp) h⟩
  · rename_i ns he
    obtain ⟨_, v, e1, hv⟩ := r.sl i _ he (by simp)
    exact ⟨v, e1, q v _ s H r Stp.refl hv (by simp) h⟩
  · rename_i ns he
    obtain ⟨_, v, e1, hv⟩ := r.sl i _ he (by simp)
    exact ⟨v, e1, q v _ s H r Stp.refl hv (by simp) h⟩
  · rename_i rs ss he
    obtain ⟨_, v, e1, hv⟩ := r.sl i _ he (by simp)
    exact ⟨v, e1, q v _ s H r Stp.refl hv (by simp) h⟩
  · rename_i kvs he
    obtain ⟨_, v, e1, hv⟩ := r.sl i _ he (by simp)
    exact ⟨v, e1, q v _ s H r Stp.refl hv (by simp) h⟩
  · rename_i kvs he
    obtain ⟨_, v, e1, hv⟩ := r.sl i _ he (by simp)
    exact ⟨v, e1, q v _ s H r Stp.refl hv (by simp) h⟩
  · exact h.elim
theorem SE.int (i : Int) : SE K (tC (.int i)) (pC (.int i)) := by
  constructor
  intro H0 Hs P A s av σ H Q R r h q
  exact q _ _ s H r Stp.refl (VRel.vint i) (by simp) h
theorem SE.bl (b : Bool) : SE K (tC (.bl b)) (pC (.bool b)) := by
  constructor
  intro H0 Hs P A s av σ H Q R r h q
  exact q _ _ s H r Stp.refl (VRel.vbl b) (by simp) h
theorem SE.str (x : Str) : SE K (tC (.str x)) (pC (.str x)) := by
  constructor
  intro H0 Hs P A s av σ H Q R r h q
  exact q _ _ s H r Stp.refl (VRel.vstr x) (by simp) h
theorem SE.non : SE K (tC .non) (pC .none) := by
  constructor
  intro H0 Hs P A s av σ H Q R r h q
  exact q _ _ s H r Stp.refl VRel.vnon (by simp) h
variable {t u v : TE} {p q p3 : PE1} {ta : TA} {pa : PA1} {tc td : TT} {pc pd : PT1}
theorem SE.op {r : R2} {f : F2} (o : OpOk K r f) (h1 : SE K t p) (h2 : SE K u q) : SE K (tOp r t u) (pOp f p q) := by
  constructor
  intro H0 Hs P A s av σ H Q R rl h k
  refine h1.run rl h fun x a s1 H1 r1 m1 v1 n1 h => ?_
  refine h2.run r1 h fun y b s2 H2 r2 m2 v2 n2 h => ?_
  exact o.run r2 (v1.same m2.same) n1 v2 n2 h fun w z H3 s3 hz nz hq => k w z s2 H3 (r2.same s3) (m1.trans (m2.trans (r2.stp s3))) hz nz hq
theorem SE.un {r : V → Hp → VK → Prop} {f : F1} (o : UnOk K r f) (h1 : SE K t p) : SE K (tUn r t) (pUn f p) := by
  constructor
  intro H0 Hs P A s av σ H Q R rl h k
  refine h1.run rl h fun x a s1 H1 r1 m1 v1 n1 h => ?_
  exact o.run r1 v1 n1 h fun w z H3 s3 hz nz hq => k w z s1 H3 (r1.same s3) (m1.trans (r1.stp s3)) hz nz hq
theorem SA.nil : SA K tNil pNil := by
  constructor
  intro H0 Hs P A s av σ H Q R rl h k
  exact k [] [] s H rl Stp.refl .nil h
theorem SA.cons (h1 : SE K t p) (h2 : SA K ta pa) : SA K (tCons t ta) (pCons p pa) := by
  constructor
  intro H0 Hs P A s av σ H Q R rl h k
  refine h1.run rl h fun x a s1 H1 r1 m1 v1 n1 h => ?_
  exact h2.run r1 h fun xs as s2 H2 r2 m2 v2 h => k _ _ s2 H2 r2 (m1.trans m2) (.cons (v1.same m2.same) n1 v2) h
theorem SE.cb {r : List V → Hp → VK → Prop} {f : FN} (o : CbOk K r f) (h1 : SA K ta pa) : SE K (tCB r ta) (pCB f pa) := by
  constructor
  intro H0 Hs P A s av σ H Q R rl h k
  refine h1.run rl h fun xs as s1 H1 r1 m1 v1 h => ?_
  exact o.run r1 v1 h fun w z H3 s3 hz nz hq => k w z s1 H3 (r1.same s3) (m1.trans (r1.stp s3)) hz nz hq
theorem SE.call {sp : L2.Sp} {f : FC} (o : ClOk K sp f) (h1 : SA K ta pa) : SE K (tCall sp [] E0 ta) (pCall f pa) := by
  constructor
  intro H0 Hs P A s av σ H Q R rl h k
  refine h1.run rl h fun xs as s1 H1 r1 m1 v1 h => ?_
  show sp (xs ++ []) H1 R E0
  rw [List.append_nil]
  exact o.run r1 v1 h fun w z s2 H3 r3 s3 hz nz hq => k w z s2 H3 r3 (m1.trans s3) hz nz hq
theorem SE.tup (h1 : SA K ta pa) : SE K (tTup ta) (pTup pa) := by
  constructor
  intro H0 Hs P A s av σ H Q R rl h k
  refine h1.run rl h fun xs as s1 H1 r1 m1 v1 ⟨ds, e, hl, hq⟩ => ?_
  have hd := v1.dats e
  refine ⟨by rw [hd.len]; exact smallN hl, fun a ha => ?_⟩
  exact k _ _ s1 _ (r1.alloc ha).1 (m1.trans (r1.alloc (o := .tup xs) ha).2) (VRel.tup r1 ha hd) (by simp) hq
theorem SE.lst (h1 : SA K ta pa) : SE K (tLst ta) (pLst pa) := by
  constructor
  intro H0 Hs P A s av σ H Q R rl h k
  refine h1.run rl h fun xs as s1 H1 r1 m1 v1 ⟨ds, e, hl, hq⟩ => ?_
  have hd := v1.dats e
  refine ⟨by rw [hd.len]; exact smallN hl, fun a ha => ?_⟩
  exact k _ _ s1 _ (r1.alloc ha).1 (m1.trans (r1.alloc (o := .lst xs) ha).2) (VRel.lst r1 ha hd) (by simp) hq
theorem blOf_un {Hs : Hp} {P : Option (Addr × Addr)} {A av : List Addr} {H : Hp} {x : V} {z : Sl} {Q : Bool → Prop} (h : VRel K Hs av A P H x z) (q : blOf z Q) : ∃ b, x = .bl b ∧ Q b := by
  unfold blOf at q
  split at q
  · rename_i b
    cases h
    exact ⟨b, rfl, q⟩
  · exact q.elim
theorem ST.b (h1 : SE K t p) : ST K (tB t) (pB p) := by
  constructor
  intro H0 Hs P A s av σ H Q R rl h k
  refine h1.run rl h fun x a s1 H1 r1 m1 v1 n1 h => ?_
  obtain ⟨b, rfl, hq⟩ := blOf_un v1 h
  exact ⟨b, rfl, k b s1 H1 r1 m1 hq⟩
theorem ST.test (h1 : SE K t p) : ST K (tTest t) (pB p) := by
  constructor
  intro H0 Hs P A s av σ H Q R rl h k
  refine h1.run rl h fun x a s1 H1 r1 m1 v1 n1 h => ?_
  obtain ⟨b, rfl, hq⟩ := blOf_un v1 h
  exact ⟨b, rfl, k b s1 H1 r1 m1 hq⟩
theorem ST.and (h1 : ST K tc pc) (h2 : ST K td pd) : ST K (tAnd tc td) (pAnd pc pd) := by
  constructor
  intro H0 Hs P A s av σ H Q R rl h k
  refine h1.run rl h fun b s1 H1 r1 m1 h => ?_
  cases b with
  | true => exact iteT (h2.run r1 ((if_pos rfl).mp h) fun c s2 H2 r2 m2 h => k _ s2 H2 r2 (m1.trans m2) h)
  | false => exact iteF (k _ s1 H1 r1 m1 ((if_neg (by simp)).mp h))
theorem ST.or (h1 : ST K tc pc) (h2 : ST K td pd) : ST K (tOr tc td) (pOr pc pd) := by
  constructor
  intro H0 Hs P A s av σ H Q R rl h k
  refine h1.run rl h fun b s1 H1 r1 m1 h => ?_
  cases b with
  | true => exact iteT (k _ s1 H1 r1 m1 ((if_pos rfl).mp h))
  | false => exact iteF (h2.run r1 ((if_neg (by simp)).mp h) fun c s2 H2 r2 m2 h => k _ s2 H2 r2 (m1.trans m2) h)
theorem ST.yes : ST K tYes pYes := by
  constructor
  intro H0 Hs P A s av σ H Q R rl h k
  exact k true s H rl Stp.refl h
theorem SE.andV (h1 : SE K t p) (h2 : SE K u q) : SE K (tAndV t u) (pAndV p q) := by
  constructor
  intro H0 Hs P A s av σ H Q R rl h k
  refine h1.run rl h fun x a s1 H1 r1 m1 v1 n1 h => ?_
  obtain ⟨b, rfl, h⟩ := blOf_un v1 h
  refine ⟨b, rfl, ?_⟩
  cases b with
  | true => exact iteT (h2.run r1 ((if_pos rfl).mp h) fun y c s2 H2 r2 m2 v2 n2 h => k _ _ s2 H2 r2 (m1.trans m2) v2 n2 h)
  | false => exact iteF (k _ _ s1 H1 r1 m1 (VRel.vbl false) (by simp) ((if_neg (by simp)).mp h))
theorem SE.ifE (hc : ST K tc pc) (h1 : SE K t p) (h2 : SE K u q) : SE K (tIf tc t u) (pIf pc p q) := by
  constructor
  intro H0 Hs P A s av σ H Q R rl h k
  refine hc.run rl h fun b s1 H1 r1 m1 h => ?_
  cases b with
  | true => exact iteT (h1.run r1 ((if_pos rfl).mp h) fun y c s2 H2 r2 m2 v2 n2 h => k _ _ s2 H2 r2 (m1.trans m2) v2 n2 h)
  | false => exact iteF (h2.run r1 ((if_neg (by simp)).mp h) fun y c s2 H2 r2 m2 v2 n2 h => k _ _ s2 H2 r2 (m1.trans m2) v2 n2 h)
end
end My
set_option Elab.async false
set_option linter.all false
set_option maxRecDepth 100000
set_option maxHeartbeats 4000000
namespace My
open PySem PySem.Spec PyProof.Rows L2
/-! ### states without heaps: loops, statements -/
structure Gx (av A : List Addr) (H : Hp) (av' A' : List Addr) (H' : Hp) : Prop where
  sub : ∀ b ∈ av, b ∈ av'
  same : Same (wos av H) (wos av' H')
  pre : ∃ B, A' = A ++ B
section
variable {K : PySem.W.Frag} {H0 Hs : Hp} {P : Option (Addr × Addr)} {A A1 A2 : List Addr} {s : PSt} {av av1 av2 : List Addr} {σ : L2.St} {H H1 H2 H' : Hp} {x : V} {z : Sl}
theorem Gx.refl : Gx av A H av A H := ⟨fun _ h => h, Same.refl _, [], by simp⟩
theorem Gx.of (s : Same (wos av H) (wos av H')) : Gx av A H av A H' := ⟨fun _ h => h, s, [], by simp⟩
theorem Gx.trans (h : Gx av A H av1 A1 H1) (g : Gx av1 A1 H1 av2 A2 H2) : Gx av A H av2 A2 H2 := by
  obtain ⟨B, e⟩ := h.pre
  obtain ⟨C, e'⟩ := g.pre
  exact ⟨fun b hb => g.sub b (h.sub b hb), h.same.trans g.same, B ++ C, by rw [e', e, List.append_assoc]⟩
theorem VRel.ext (e : Gx av A H av1 A1 H1) (n : (∀ ds, z ≠ .nw ds) ∧ ∀ kvs, z ≠ .nd kvs) (h : VRel K Hs av A P H x z) : VRel K Hs av1 A1 P H1 x z := by
  cases z with
  | no => trivial
  | d y => exact Dq.same e.same h
  | nw ds => exact absurd rfl (n.1 ds)
  | l ds =>
    obtain ⟨a, us, rfl, e1, hd⟩ := h
    exact ⟨a, us, rfl, e.same _ _ e1, DqAll.same e.same hd⟩
  | ob i =>
    obtain ⟨a, e1, rfl⟩ := h
    obtain ⟨B, eB⟩ := e.pre
    exact ⟨a, by rw [eB]; exact List.getElem?_append_left (List.getElem?_eq_some_iff.mp e1).1 ▸ e1, rfl⟩
  | pen => exact h
  | pl ns =>
    obtain ⟨a, rfl, h⟩ := h
    exact ⟨a, rfl, h.same e.same⟩
  | kt ns =>
    obtain ⟨a, rfl, h⟩ := h
    exact ⟨a, rfl, e.same _ _ h⟩
  | dl rs ss =>
    obtain ⟨a, rfl, h⟩ := h
    exact ⟨a, rfl, h.same e.same⟩
  | nd kvs => exact absurd rfl (n.2 kvs)
  | dd kvs =>
    obtain ⟨a, es, rfl, e1, hd⟩ := h
    exact ⟨a, es, rfl, e.same _ _ e1, hd.same e.same⟩
  | di kvs =>
    obtain ⟨a, rfl, e1⟩ := h
    exact ⟨a, rfl, e.same _ _ e1⟩
end
/-- the walk tells ds; gd: the def's own list that must stay as it is -/
def ItOk (K : PySem.W.Frag) (H0 : Hp) (P : Option (Addr × Addr)) (A av : List Addr) (H : Hp) (J : It) (gd : Option Nat) (ds : List PyData) : Prop := ∀ (Hs : Hp) (A' : List Addr) (s' : PSt) (av' : List Addr) (σ' : L2.St) (H' : Hp), Gx av A H av' A' H' → Rl K H0 Hs P A' s' av' σ' H' → (∀ j, gd = some j → s'.θ[j]? = some (.lst ds)) →
  J.stop ds.length H' ∧ ∀ (i : Nat) (d : PyData), ds[i]? = some d → J.go i H' ∧ ∀ x H'', J.yld i H' x H'' → Same H' H'' ∧ Dq K (wos av' H'') x d
abbrev PI1 := PSt → (Option Nat → List PyData → PSt → Prop) → Prop
structure SI (K : PySem.W.Frag) (wi : TI) (pi : PI1) : Prop where
  run : ∀ {H0 Hs : Hp} {P : Option (Addr × Addr)} {A : List Addr} {s : PSt} {av : List Addr} {σ : L2.St} {H : Hp} {Q : Option Nat → List PyData → PSt → Prop} {R : It → Hp → Prop}, Rl K H0 Hs P A s av σ H → pi s Q →
  (∀ J gd ds s' H', Rl K H0 Hs P A s' av σ H' → Stp P A av s H s' H' → ItOk K H0 P A av H' J gd ds → (∀ j, gd = some j → s'.θ[j]? = some (.lst ds)) → Q gd ds s' → R J H') → wi σ H R
theorem seqOf_ob {s : PSt} {i : Nat} : seqOf s (.ob i) = (lstAt s.θ i).map fun ds => (true, ds) := rfl
def gdOf : Sl → Option Nat
  | .ob j => some j
  | _ => none
def pSeqL (p : PE1) : PI1 := fun s Q => p s fun z s1 => ∃ ds, seqOf s1 z = some (true, ds) ∧ Q (gdOf z) ds s1
def pSeqT (p : PE1) : PI1 := fun s Q => p s fun z s1 => ∃ ds, seqOf s1 z = some (false, ds) ∧ Q none ds s1
def intsFrom (lo : Int) (n : Nat) : List PyData := (List.range n).map fun i => .int (lo + (i : Nat))
def pRng1 (pa : PA1) : PI1 := fun s Q => pa s fun zs s1 => ∃ j : Int, zs = [.d (.int j)] ∧ (-(2 ^ 62) ≤ j ∧ j < 2 ^ 62) ∧ Q none (intsFrom 0 j.toNat) s1
def pRng2 (pa : PA1) : PI1 := fun s Q => pa s fun zs s1 => ∃ i j : Int, zs = [.d (.int i), .d (.int j)] ∧ (-(2 ^ 62) ≤ i ∧ i < 2 ^ 62 ∧ -(2 ^ 62) ≤ j ∧ j < 2 ^ 62) ∧ Q none (intsFrom i (j - i).toNat) s1
def enumD (ds : List PyData) : List PyData := ds.zipIdx.map fun q => .tuple [.int (q.2 : Nat), q.1]
def pEnumL (pa : PA1) : PI1 := fun s Q => pa s fun zs s1 => ∃ z ds, zs = [z] ∧ gdOf z = none ∧ seqOf s1 z = some (true, ds) ∧ Q none (enumD ds) s1
def pEnumT (pa : PA1) : PI1 := fun s Q => pa s fun zs s1 => ∃ z ds, zs = [z] ∧ seqOf s1 z = some (false, ds) ∧ Q none (enumD ds) s1
def zipD (ds es : List PyData) : List PyData := (ds.zip es).map fun q => .tuple [q.1, q.2]
def pZip (pa : PA1) : PI1 := fun s Q => pa s fun zs s1 => ∃ y z b ds es, zs = [y, z] ∧ gdOf y = none ∧ gdOf z = none ∧ seqOf s1 y = some (b, ds) ∧ seqOf s1 z = some (b, es) ∧ Q none (zipD ds es) s1
theorem intsFrom_get {lo : Int} {n i : Nat} {d : PyData} (h : (intsFrom lo n)[i]? = some d) : i < n ∧ d = .int (lo + (i : Nat)) := by
  unfold intsFrom at h
  rw [List.getElem?_map] at h
  by_cases hi : i < n
  · rw [List.getElem?_range hi] at h
    exact ⟨hi, (Option.some.inj h).symm⟩
  · rw [List.getElem?_eq_none (by rw [List.length_range]; omega)] at h
    cases h
theorem intsFrom_len {lo : Int} {n : Nat} : (intsFrom lo n).length = n := by unfold intsFrom; rw [List.length_map, List.length_range]
theorem zipD_get {ds es : List PyData} {i : Nat} {d : PyData} (h : (zipD ds es)[i]? = some d) : ∃ a b, ds[i]? = some a ∧ es[i]? = some b ∧ d = .tuple [a, b] := by
  unfold zipD at h
  rw [List.getElem?_map] at h
  cases e : (ds.zip es)[i]? with
  | none => rw [e] at h; cases h
  | some q =>
    rw [e] at h
    obtain ⟨a, b⟩ := q
    obtain ⟨h1, h2⟩ := List.getElem?_zip_eq_some.mp e
    exact ⟨a, b, h1, h2, (Option.some.inj h).symm⟩
theorem zipD_len {ds es : List PyData} : (zipD ds es).length = min ds.length es.length := by unfold zipD; simp
section
variable {K : PySem.W.Frag} {t u : TE} {p q : PE1} {ta : TA} {pa : PA1}
theorem sql_of_ext {H0 Hs Hs2 : Hp} {P : Option (Addr × Addr)} {A A' : List Addr} {s : PSt} {av av' : List Addr} {H H' : Hp} {x : V} {z : Sl} {ds : List PyData} {s1 : PSt} {σ σ' : L2.St} (r : Rl K H0 Hs P A s av σ H) (h : VRel K Hs av A P H x z) (e : seqOf s z = some (true, ds)) (ex : Gx av A H av' A' H') (r' : Rl K H0 Hs2 P A' s1 av' σ' H')
    (g : ∀ j, gdOf z = some j → s1.θ[j]? = some (.lst ds)) : ∀ a, x = .ref a → ∃ us, SqL K H' a us ∧ DqAll K (wos av' H') us ds := by
  intro a ea
  cases z with
  | no => cases e
  | pen => cases e
  | d e' =>
    cases e' with
    | list es =>
      cases e
      obtain ⟨a', us, e1, hA, hd⟩ := Dq.un_lst h
      rw [ea] at e1
      cases e1
      exact ⟨us, wos_le.seq (ex.same.seq hA), DqAll.same ex.same hd⟩
    | _ => cases e
  | nw es =>
    cases e
    obtain ⟨a', us, e1, h0, eA, n, hd⟩ := h
    rw [ea] at e1
    cases e1
    exact ⟨us, wos_le.seq (ex.same.seq (SqL.of ((wos_in n).trans eA))), DqAll.same ex.same (DqAll.same wos_less hd)⟩
  | l es =>
    cases e
    obtain ⟨a', us, e1, eA, hd⟩ := h
    rw [ea] at e1
    cases e1
    exact ⟨us, wos_le.seq (ex.same.seq (SqL.of eA)), DqAll.same ex.same hd⟩
  | ob j =>
    obtain ⟨a', e1, e2⟩ := h
    rw [ea] at e2
    cases e2
    obtain ⟨B, eB⟩ := ex.pre
    obtain ⟨us, h1, h2⟩ := r'.lobs (i := j) (a := a) (ds := ds) (by rw [eB]; exact (List.getElem?_append_left (List.getElem?_eq_some_iff.mp e1).1).trans e1) (g j rfl)
    exact ⟨us, SqL.of h1, h2⟩
  | pl ns => cases e
  | kt ns => cases e
  | dl rs ss => cases e
  | _ => cases e
theorem sqt_of_ext {H0 Hs : Hp} {P : Option (Addr × Addr)} {A A' : List Addr} {s : PSt} {av av' : List Addr} {H H' : Hp} {x : V} {z : Sl} {ds : List PyData} {σ : L2.St} (r : Rl K H0 Hs P A s av σ H) (h : VRel K Hs av A P H x z) (e : seqOf s z = some (false, ds)) (ex : Gx av A H av' A' H') : ∀ a, x = .ref a → ∃ us, SqT K H' a us ∧ DqAll K (wos av' H') us ds := by
  intro a ea
  cases z with
  | no => cases e
  | pen => cases e
  | d e' =>
    cases e' with
    | tuple es =>
      cases e
      obtain ⟨a', us, e1, hA, hd⟩ := Dq.un_tup h
      rw [ea] at e1
      cases e1
      exact ⟨us, My.Same.sqt wos_le (My.Same.sqt ex.same hA), DqAll.same ex.same hd⟩
    | _ => cases e
  | nw es => cases e
  | l es => cases e
  | ob j =>
    cases e2 : lstAt s.θ j with
    | none => rw [seqOf, e2] at e; cases e
    | some es => rw [seqOf, e2] at e; cases e
  | pl ns =>
    cases e
    obtain ⟨a', us, e1, hA, hd⟩ := Dq.un_tup (h.dat (z := .pl ns) rfl)
    rw [ea] at e1
    cases e1
    exact ⟨us, My.Same.sqt wos_le (My.Same.sqt ex.same hA), DqAll.same ex.same hd⟩
  | kt ns =>
    cases e
    obtain ⟨a', us, e1, hA, hd⟩ := Dq.un_tup (h.dat (z := .kt ns) rfl)
    rw [ea] at e1
    cases e1
    exact ⟨us, My.Same.sqt wos_le (My.Same.sqt ex.same hA), DqAll.same ex.same hd⟩
  | dl rs ss =>
    cases e
    obtain ⟨a', us, e1, hA, hd⟩ := Dq.un_tup (h.dat (z := .dl rs ss) rfl)
    rw [ea] at e1
    cases e1
    exact ⟨us, My.Same.sqt wos_le (My.Same.sqt ex.same hA), DqAll.same ex.same hd⟩
  | _ => cases e
theorem dq_at {K : PySem.W.Frag} {H : Hp} {us : List V} {ds : List PyData} {i : Nat} {d : PyData} (hd : DqAll K H us ds) (e : ds[i]? = some d) : ∃ v, us[i]? = some v ∧ Dq K H v d := by
  have hl := hd.len
  have hi := (List.getElem?_eq_some_iff.mp e).1
  have hv : us[i]? = some us[i] := List.getElem?_eq_getElem (by omega)
  obtain ⟨d', e', hd'⟩ := hd.get hv
  rw [e] at e'
  cases e'
  exact ⟨_, hv, hd'⟩
theorem SI.lst (h1 : SE K t p) : SI K (iList K t) (pSeqL p) := by
  constructor
  intro H0 Hs P A s av σ H Q R rl h k
  refine h1.run rl h fun x z s1 H1 r1 m1 v1 n1 ⟨ds, e, hq⟩ => ?_
  obtain ⟨a, us, rfl, hA, hd⟩ := v1.lseq r1 e
  refine ⟨a, rfl, ⟨us, hA⟩, k _ (gdOf z) ds s1 H1 r1 m1 ?_ ?_ hq⟩
  · intro Hs2 A' s' av' σ' H' ex r' g
    obtain ⟨us', hA', hd'⟩ := sql_of_ext r1 v1 e ex r' g a rfl
    have hl := hd'.len
    refine ⟨⟨us', hA', by omega⟩, fun i d ed => ?_⟩
    obtain ⟨v, ev, hv⟩ := dq_at hd' ed
    refine ⟨⟨us', v, hA', ev⟩, fun x H'' ⟨eH, hx⟩ => ?_⟩
    subst eH
    have := hx us' hA'
    rw [ev] at this
    cases this
    exact ⟨Same.refl _, hv⟩
  · intro j e2
    cases z with
    | ob i =>
      cases e2
      rw [seqOf_ob] at e
      cases e3 : lstAt s1.θ j with
      | none => rw [e3] at e; cases e
      | some es =>
        rw [e3] at e
        have : es = ds := by simpa using e
        rw [lstAt_some e3, this]
    | _ => cases e2
theorem SI.tup (h1 : SE K t p) : SI K (iTup K t) (pSeqT p) := by
  constructor
  intro H0 Hs P A s av σ H Q R rl h k
  refine h1.run rl h fun x z s1 H1 r1 m1 v1 n1 ⟨ds, e, hq⟩ => ?_
  obtain ⟨a, us, rfl, hA, hd⟩ := v1.tseq r1 e
  refine ⟨a, rfl, ⟨us, hA⟩, k _ none ds s1 H1 r1 m1 ?_ (fun j e => by cases e) hq⟩
  intro Hs2 A' s' av' σ' H' ex r' g
  obtain ⟨us', hA', hd'⟩ := sqt_of_ext r1 v1 e ex a rfl
  have hl := hd'.len
  refine ⟨⟨us', hA', by omega⟩, fun i d ed => ?_⟩
  obtain ⟨v, ev, hv⟩ := dq_at hd' ed
  refine ⟨⟨us', v, hA', ev⟩, fun x H'' ⟨eH, hx⟩ => ?_⟩
  subst eH
  have := hx us' hA'
  rw [ev] at this
  cases this
  exact ⟨Same.refl _, hv⟩
theorem VRels.int1 {Hs : Hp} {P : Option (Addr × Addr)} {A av : List Addr} {H : Hp} {xs : List V} {j : Int} (h : VRels K Hs av A P H xs [.d (.int j)]) : xs = [.int j] := by
  cases h with
  | cons h _ h2 =>
    cases h2
    cases h
    rfl
theorem VRels.int2 {Hs : Hp} {P : Option (Addr × Addr)} {A av : List Addr} {H : Hp} {xs : List V} {i j : Int} (h : VRels K Hs av A P H xs [.d (.int i), .d (.int j)]) : xs = [.int i, .int j] := by
  cases h with
  | cons h _ h2 =>
    cases h
    rw [h2.int1]
theorem SI.rng1 (h1 : SA K ta pa) : SI K (iRng1 ta) (pRng1 pa) := by
  constructor
  intro H0 Hs P A s av σ H Q R rl h k
  refine h1.run rl h fun xs zs s1 H1 r1 m1 v1 ⟨j, e, ⟨b1, b2⟩, hq⟩ => ?_
  subst e
  refine ⟨j, v1.int1, b1, b2, k _ none _ s1 H1 r1 m1 ?_ (fun j e => by cases e) hq⟩
  intro Hs2 A' s' av' σ' H' ex r' g
  refine ⟨by show _ ≤ _; rw [intsFrom_len]; exact Nat.le_refl _, fun i d ed => ?_⟩
  obtain ⟨hi, rfl⟩ := intsFrom_get ed
  refine ⟨hi, fun x H'' ⟨eH, hx⟩ => ?_⟩
  subst eH
  subst hx
  exact ⟨Same.refl _, .int _⟩
theorem SI.rng2 (h1 : SA K ta pa) : SI K (iRng2 ta) (pRng2 pa) := by
  constructor
  intro H0 Hs P A s av σ H Q R rl h k
  refine h1.run rl h fun xs zs s1 H1 r1 m1 v1 ⟨i, j, e, b, hq⟩ => ?_
  subst e
  refine ⟨i, j, v1.int2, b, k _ none _ s1 H1 r1 m1 ?_ (fun j e => by cases e) hq⟩
  intro Hs2 A' s' av' σ' H' ex r' g
  refine ⟨by show _ ≤ _; rw [intsFrom_len]; exact Nat.le_refl _, fun i d ed => ?_⟩
  obtain ⟨hi, rfl⟩ := intsFrom_get ed
  refine ⟨hi, fun x H'' ⟨eH, hx⟩ => ?_⟩
  subst eH
  subst hx
  exact ⟨Same.refl _, .int _⟩
theorem VRels.one {Hs : Hp} {P : Option (Addr × Addr)} {A av : List Addr} {H : Hp} {xs : List V} {z : Sl} (h : VRels K Hs av A P H xs [z]) : ∃ x, xs = [x] ∧ VRel K Hs av A P H x z ∧ z ≠ .no := by
  cases h with
  | cons h n h2 =>
    cases h2
    exact ⟨_, rfl, h, n⟩
theorem VRels.two {Hs : Hp} {P : Option (Addr × Addr)} {A av : List Addr} {H : Hp} {xs : List V} {y z : Sl} (h : VRels K Hs av A P H xs [y, z]) : ∃ u v, xs = [u, v] ∧ VRel K Hs av A P H u y ∧ y ≠ .no ∧ VRel K Hs av A P H v z ∧ z ≠ .no := by
  cases h with
  | cons h n h2 =>
    obtain ⟨x, rfl, h3, n3⟩ := h2.one
    exact ⟨_, _, rfl, h, n, h3, n3⟩
theorem dq_pair {av : List Addr} {H : Hp} {T : Addr} {x y : V} {d e : PyData} (hL : AvO av H) (hT : H T = none) (hx : Dq K (wos av H) x d) (hy : Dq K (wos av H) y e) : Same H (upd H T (.tup [x, y])) ∧ Dq K (wos av (upd H T (.tup [x, y]))) (.ref T) (.tuple [d, e]) := by
  have sm := My.Same.new (o := HO.tup [x, y]) hT
  exact ⟨sm, .tup (SqT.of ((wos_in (hL.avs.fresh hT)).trans upd_same)) (.cons (Dq.same (My.Same.wos sm) hx) (.cons (Dq.same (My.Same.wos sm) hy) .nil))⟩
theorem SI.zip (h1 : SA K ta pa) : SI K (RZ.iZipA K ta) (pZip pa) := by
  constructor
  intro H0 Hs P A s av σ H Q R rl h k
  refine h1.run rl h fun xs zs s1 H1 r1 m1 v1 ⟨y, z, b, ds, es, e0, gy, gz, ey, ez, hq⟩ => ?_
  subst e0
  obtain ⟨x1, x2, rfl, w1, n1, w2, n2⟩ := v1.two
  cases b with
  | true =>
    obtain ⟨a1, us1, rfl, hA1, hd1⟩ := w1.lseq r1 ey
    obtain ⟨a2, us2, rfl, hA2, hd2⟩ := w2.lseq r1 ez
    refine ⟨a1, a2, us1, us2, rfl, .inl ⟨hA1, hA2, k _ none _ s1 H1 r1 m1 ?_ (fun j e => by cases e) hq⟩⟩
    intro Hs2 A' s' av' σ' H' ex r' g
    obtain ⟨q1, hB1, he1⟩ := sql_of_ext r1 w1 ey ex r' (fun j e => by rw [gy] at e; cases e) a1 rfl
    obtain ⟨q2, hB2, he2⟩ := sql_of_ext r1 w2 ez ex r' (fun j e => by rw [gz] at e; cases e) a2 rfl
    have hl1 := he1.len
    have hl2 := he2.len
    refine ⟨⟨q1, q2, hB1, hB2, by rw [zipD_len]; omega⟩, fun i d ed => ?_⟩
    obtain ⟨d1, d2, e1, e2, rfl⟩ := zipD_get ed
    obtain ⟨u1, f1, g1⟩ := dq_at he1 e1
    obtain ⟨u2, f2, g2⟩ := dq_at he2 e2
    refine ⟨⟨q1, q2, u1, u2, hB1, hB2, f1, f2⟩, ?_⟩
    rintro x H'' ⟨T, y1, y2, rfl, hT, rfl, hx1, hx2⟩
    have := hx1 q1 hB1
    rw [f1] at this
    cases this
    have := hx2 q2 hB2
    rw [f2] at this
    cases this
    exact dq_pair r'.avl hT g1 g2
  | false =>
    obtain ⟨a1, us1, rfl, hA1, hd1⟩ := w1.tseq r1 ey
    obtain ⟨a2, us2, rfl, hA2, hd2⟩ := w2.tseq r1 ez
    refine ⟨a1, a2, us1, us2, rfl, .inr ⟨hA1, hA2, k _ none _ s1 H1 r1 m1 ?_ (fun j e => by cases e) hq⟩⟩
    intro Hs2 A' s' av' σ' H' ex r' g
    obtain ⟨q1, hB1, he1⟩ := sqt_of_ext r1 w1 ey ex a1 rfl
    obtain ⟨q2, hB2, he2⟩ := sqt_of_ext r1 w2 ez ex a2 rfl
    have hl1 := he1.len
    have hl2 := he2.len
    refine ⟨⟨q1, q2, hB1, hB2, by rw [zipD_len]; omega⟩, fun i d ed => ?_⟩
    obtain ⟨d1, d2, e1, e2, rfl⟩ := zipD_get ed
    obtain ⟨u1, f1, g1⟩ := dq_at he1 e1
    obtain ⟨u2, f2, g2⟩ := dq_at he2 e2
    refine ⟨⟨q1, q2, u1, u2, hB1, hB2, f1, f2⟩, ?_⟩
    rintro x H'' ⟨T, y1, y2, rfl, hT, rfl, hx1, hx2⟩
    have := hx1 q1 hB1
    rw [f1] at this
    cases this
    have := hx2 q2 hB2
    rw [f2] at this
    cases this
    exact dq_pair r'.avl hT g1 g2
end
end My
set_option Elab.async false
set_option linter.all false
set_option maxRecDepth 100000
set_option maxHeartbeats 4000000
namespace My
open PySem PySem.Spec PyProof.Rows L2
/-! ### states without heaps: comprehensions -/
def wipeP (ρ : List Sl) : List Nat → List Sl
  | [] => ρ
  | v :: vs => (wipeP ρ vs).set v .no
theorem wipeP_length (ρ : List Sl) : ∀ vs : List Nat, (wipeP ρ vs).length = ρ.length
  | [] => rfl
  | v :: vs => by unfold wipeP; rw [List.length_set, wipeP_length ρ vs]
theorem wipeP_some {ρ : List Sl} {i : Nat} {z : Sl} (n : z ≠ .no) : ∀ {vs : List Nat}, (wipeP ρ vs)[i]? = some z → ρ[i]? = some z ∧ i ∉ vs
  | [], h => ⟨h, by simp⟩
  | v :: vs, h => by
    unfold wipeP at h
    by_cases hi : v = i
    · subst hi
      by_cases hv : v < (wipeP ρ vs).length
      · rw [List.getElem?_set_self hv] at h
        cases h
        exact absurd rfl n
      · rw [List.getElem?_eq_none (by simpa using hv)] at h; cases h
    · rw [List.getElem?_set_ne hi] at h
      obtain ⟨h1, h2⟩ := wipeP_some n h
      exact ⟨h1, by simp only [List.mem_cons, not_or]; exact ⟨fun e => hi e.symm, h2⟩⟩
theorem wipe_set {σ : L2.St} {i : Nat} {x : Option V} : ∀ {vs : List Nat}, i ∈ vs → wipe (σ.set i x) vs = wipe σ vs
  | v :: vs, h => by
    have key : ∀ ws : List Nat, wipe (σ.set i x) ws = wipe σ ws ∨ wipe (σ.set i x) ws = (wipe σ ws).set i x := fun ws => by
      induction ws with
      | nil => exact .inr rfl
      | cons w ws ih =>
        unfold wipe
        rcases ih with e | e
        · rw [e]; exact .inl rfl
        · rw [e]
          by_cases hw : i = w
          · subst hw
            rw [List.set_set]
            exact .inl rfl
          · rw [List.set_comm _ _ hw]
            exact .inr rfl
    by_cases e : v = i
    · subst e
      unfold wipe
      rcases key vs with e | e
      · rw [e]
      · rw [e, List.set_set]
    · have : i ∈ vs := by
        rcases List.mem_cons.mp h with h | h
        · exact absurd h.symm e
        · exact h
      unfold wipe
      rw [wipe_set this]
theorem wipe_wipe {σ : L2.St} {vs : List Nat} : ∀ {us : List Nat}, (∀ i ∈ us, i ∈ vs) → L2.wipe (L2.wipe σ us) vs = L2.wipe σ vs
  | [], _ => rfl
  | u :: us, h => by
    show L2.wipe ((L2.wipe σ us).set u none) vs = _
    rw [wipe_set (h u (by simp)), wipe_wipe fun i hi => h i (List.mem_cons_of_mem _ hi)]
def plainS : Sl → Sl
  | .nw ds => .l ds
  | .nd kvs => .dd kvs
  | z => z
section
variable {K : PySem.W.Frag} {H0 Hs : Hp} {P : Option (Addr × Addr)} {A A' : List Addr} {s s' : PSt} {av av' : List Addr} {σ σ' : L2.St} {H H' : Hp} {x : V} {z : Sl} {i : Nat}
theorem VRel.plain (h : VRel K Hs av A P H x z) : VRel K Hs av A P H x (plainS z) := by
  cases z with
  | nw ds =>
    obtain ⟨a, us, rfl, _, e, n, hd⟩ := h
    exact ⟨a, us, rfl, (wos_in n).trans e, DqAll.same wos_less hd⟩
  | nd kvs =>
    obtain ⟨a, es, rfl, _, e, n, hd⟩ := h
    exact ⟨a, es, rfl, (wos_in n).trans e, hd.same wos_less⟩
  | _ => exact h
theorem plainS_nw : (∀ ds, plainS z ≠ .nw ds) ∧ ∀ kvs, plainS z ≠ .nd kvs := by cases z <;> simp [plainS]
theorem plainS_no (n : z ≠ .no) : plainS z ≠ .no := by cases z <;> simp [plainS] at n ⊢
theorem Rl.set (r : Rl K H0 Hs P A s av σ H) (h : VRel K Hs av A P H x z) (n : (∀ ds, z ≠ .nw ds) ∧ ∀ kvs, z ≠ .nd kvs) : Rl K H0 Hs P A { s with ρ := s.ρ.set i z } av (σ.set i (some x)) H :=
  { r with
    len := by
      show (s.ρ.set i z).length = _
      rw [List.length_set, List.length_set, r.len]
    sl := fun j y e ny => by
      have e : (s.ρ.set i z)[j]? = some y := e
      by_cases hj : i = j
      · subst hj
        by_cases hl : i < s.ρ.length
        · rw [List.getElem?_set_self hl] at e
          cases e
          exact ⟨n, x, List.getElem?_set_self (by rw [← r.len]; exact hl), h⟩
        · rw [List.getElem?_eq_none (by rw [List.length_set]; omega)] at e
          cases e
      · rw [List.getElem?_set_ne hj] at e
        obtain ⟨n2, v, e1, hv⟩ := r.sl j y e ny
        exact ⟨n2, v, by rw [List.getElem?_set_ne hj]; exact e1, hv⟩ }
theorem Rl.wipe (r : Rl K H0 Hs P A s av σ H) (vs : List Nat) : Rl K H0 Hs P A { s with ρ := wipeP s.ρ vs } av (L2.wipe σ vs) H :=
  { r with
    len := by
      show (wipeP s.ρ vs).length = _
      rw [wipeP_length, wipe_length, r.len]
    sl := fun j y e ny => by
      obtain ⟨e1, hj⟩ := wipeP_some ny e
      obtain ⟨n2, v, e2, hv⟩ := r.sl j y e1 ny
      exact ⟨n2, v, by rw [wipe_out hj]; exact e2, hv⟩ }
/-- other slots' words, told of the same heap -/
theorem Rl.reslot (r' : Rl K H0 Hs P A s' av' σ' H') (r : Rl K H0 Hs P A s av σ H) (sm : Same (wos av H) (wos av' H')) : Rl K H0 Hs P A { s' with ρ := s.ρ } av' σ H' :=
  { r' with
    len := r.len
    sl := fun j y e ny => by
      obtain ⟨n2, v, e2, hv⟩ := r.sl j y e ny
      refine ⟨n2, v, e2, ?_⟩
      cases y with
      | no => trivial
      | d e => exact Dq.same sm hv
      | nw ds => exact absurd rfl (n2.1 ds)
      | l ds =>
        obtain ⟨a, us, e, e1, hd⟩ := hv
        exact ⟨a, us, e, sm _ _ e1, DqAll.same sm hd⟩
      | ob i => exact hv
      | pen => exact hv
      | pl ns =>
        obtain ⟨a, e, h⟩ := hv
        exact ⟨a, e, h.same sm⟩
      | kt ns =>
        obtain ⟨a, e, h⟩ := hv
        exact ⟨a, e, sm _ _ h⟩
      | dl rs ss =>
        obtain ⟨a, e, h⟩ := hv
        exact ⟨a, e, h.same sm⟩
      | nd kvs => exact absurd rfl (n2.2 kvs)
      | dd kvs =>
        obtain ⟨a, es, e, e1, hd⟩ := hv
        exact ⟨a, es, e, sm _ _ e1, hd.same sm⟩
      | di kvs =>
        obtain ⟨a, e, e1⟩ := hv
        exact ⟨a, e, sm _ _ e1⟩ }
/-- a list under way -/
structure Under (H0 Hs : Hp) (P : Option (Addr × Addr)) (A : List Addr) (D : Addr) : Prop where
  s : Hs D = none
  n : D ∉ A
  p : ∀ p c, P = some (p, c) → D ≠ p ∧ D ≠ c
theorem Rl.under {D : Addr} (r : Rl K H0 Hs P A s av σ H) (hD : H D = none) : Under H0 Hs P A D := by
  refine ⟨r.freshS hD, fun h => ?_, fun p c e => Pen.ne (r.pen p c e).1 hD⟩
  obtain ⟨us, e⟩ := r.here h
  rw [hD] at e
  cases e
theorem Rl.pushO {D : Addr} {o : HO} (r : Rl K H0 Hs P A s av σ H) (hD : H D = none) (oo : ownO o) : Rl K H0 Hs P A s (D :: av) σ (upd H D o) := by
  have sm := My.Same.new (o := o) hD
  have r2 := r.same sm
  have sw : Same (wos av H) (wos (D :: av) (upd H D o)) := wos_fresh hD sm
  exact { r2 with
    avl := fun b hb => by
      rcases List.mem_cons.mp hb with rfl | hb
      · exact ⟨o, upd_same, oo⟩
      · exact r2.avl b hb
    sub := fun a ha => ⟨List.mem_cons_of_mem _ (r.sub a ha).1, (r.sub a ha).2⟩
    obs := fun i a ds e1 e2 => by
      obtain ⟨us, e, hd⟩ := r.obs i a ds e1 e2
      exact ⟨us, sm _ _ e, hd.same sw⟩
    sl := fun j y e ny => by
      obtain ⟨n2, v, e2, hv⟩ := r.sl j y e ny
      refine ⟨n2, v, e2, ?_⟩
      cases y with
      | no => trivial
      | d e => exact Dq.same sw hv
      | nw ds => exact absurd rfl (n2.1 ds)
      | l ds =>
        obtain ⟨a, us, e, e1, hd⟩ := hv
        exact ⟨a, us, e, sw _ _ e1, DqAll.same sw hd⟩
      | ob i => exact hv
      | pen => exact hv
      | pl ns =>
        obtain ⟨a, e, h⟩ := hv
        exact ⟨a, e, h.same sw⟩
      | kt ns =>
        obtain ⟨a, e, h⟩ := hv
        exact ⟨a, e, sw _ _ h⟩
      | dl rs ss =>
        obtain ⟨a, e, h⟩ := hv
        exact ⟨a, e, h.same sw⟩
      | nd kvs => exact absurd rfl (n2.2 kvs)
      | dd kvs =>
        obtain ⟨a, es, e, e1, hd⟩ := hv
        exact ⟨a, es, e, sw _ _ e1, hd.same sw⟩
      | di kvs =>
        obtain ⟨a, e, e1⟩ := hv
        exact ⟨a, e, sw _ _ e1⟩
    pen := fun p c e => ⟨(r2.pen p c e).1, List.mem_cons_of_mem _ (r2.pen p c e).2.1, (r2.pen p c e).2.2⟩ }
theorem Rl.push {D : Addr} (r : Rl K H0 Hs P A s av σ H) (hD : H D = none) : Rl K H0 Hs P A s (D :: av) σ (upd H D (.lst [])) := r.pushO hD trivial
theorem Rl.pop {D : Addr} (r : Rl K H0 Hs P A s (D :: av) σ H) (u : Under H0 Hs P A D) : Rl K H0 Hs P A s av σ H :=
  { r with
    avl := fun b hb => r.avl b (List.mem_cons_of_mem _ hb)
    sub := fun a ha => by
      refine ⟨?_, (r.sub a ha).2⟩
      rcases List.mem_cons.mp (r.sub a ha).1 with e | h
      · exact absurd (e ▸ ha) u.n
      · exact h
    obs := fun i a ds e1 e2 => by
      obtain ⟨us, e, hd⟩ := r.obs i a ds e1 e2
      exact ⟨us, e, hd.same wos_less⟩
    sl := fun j y e ny => by
      obtain ⟨n2, v, e2, hv⟩ := r.sl j y e ny
      refine ⟨n2, v, e2, ?_⟩
      cases y with
      | no => trivial
      | d e => exact Dq.same wos_less hv
      | nw ds => exact absurd rfl (n2.1 ds)
      | l ds =>
        obtain ⟨a, us, e, e1, hd⟩ := hv
        exact ⟨a, us, e, wos_less _ _ e1, DqAll.same wos_less hd⟩
      | ob i => exact hv
      | pen => exact hv
      | pl ns =>
        obtain ⟨a, e, h⟩ := hv
        exact ⟨a, e, h.same wos_less⟩
      | kt ns =>
        obtain ⟨a, e, h⟩ := hv
        exact ⟨a, e, wos_less _ _ h⟩
      | dl rs ss =>
        obtain ⟨a, e, h⟩ := hv
        exact ⟨a, e, h.same wos_less⟩
      | nd kvs => exact absurd rfl (n2.2 kvs)
      | dd kvs =>
        obtain ⟨a, es, e, e1, hd⟩ := hv
        exact ⟨a, es, e, wos_less _ _ e1, hd.same wos_less⟩
      | di kvs =>
        obtain ⟨a, e, e1⟩ := hv
        exact ⟨a, e, wos_less _ _ e1⟩
    pen := fun p c e => by
      refine ⟨(r.pen p c e).1, ?_, (r.pen p c e).2.2⟩
      rcases List.mem_cons.mp (r.pen p c e).2.1 with h | h
      · exact absurd h.symm (u.p p c e).1
      · exact h }
/-- the list under way changes -/
theorem Rl.putDO {D : Addr} {o : HO} (r : Rl K H0 Hs P A s (D :: av) σ H) (u : Under H0 Hs P A D) (oo : ownO o) : Rl K H0 Hs P A s (D :: av) σ (upd H D o) := by
  have sw : Same (wos (D :: av) H) (wos (D :: av) (upd H D o)) := wos_put
  exact { r with
    avl := fun b hb => by
      by_cases e : b = D
      · rw [e]; exact ⟨o, upd_same, oo⟩
      · obtain ⟨w, e1, ow⟩ := r.avl b hb
        exact ⟨w, (upd_ne e).trans e1, ow⟩
    obs := fun i a ds e1 e2 => by
      obtain ⟨w, e, hd⟩ := r.obs i a ds e1 e2
      have na : a ≠ D := fun z => u.n (z ▸ List.mem_of_getElem? e1)
      exact ⟨w, (upd_ne na).trans e, hd.same sw⟩
    sl := fun j y e ny => by
      obtain ⟨n2, v, e2, hv⟩ := r.sl j y e ny
      exact ⟨n2, v, e2, hv.same sw⟩
    pen := fun p c e => ⟨Pen.upd (r.pen p c e).1 (u.p p c e), (r.pen p c e).2⟩
    fr := fun b o n e => by
      have nb : b ≠ D := fun z => by
        rw [z, r.dom0 _ u.s] at e
        cases e
      exact (upd_ne nb).trans (r.fr b o n e)
    dom := fun b e => by
      by_cases nb : b = D
      · rw [nb]; exact u.s
      · rw [upd_ne nb] at e
        exact r.dom b e }
theorem Rl.putD {D : Addr} {us : List V} (r : Rl K H0 Hs P A s (D :: av) σ H) (u : Under H0 Hs P A D) : Rl K H0 Hs P A s (D :: av) σ (upd H D (.lst us)) := r.putDO u trivial
end
abbrev PG1 := Sl → PSt → (PSt → Prop) → Prop
abbrev PGs1 := List Sl → PSt → (PSt → Prop) → Prop
def pgName (i : Nat) : PG1 := fun z s Q => Q { s with ρ := s.ρ.set i (plainS z) }
def pgNil : PGs1 := fun zs s Q => match zs with
  | [] => Q s
  | _ => False
def pgCons (g : PG1) (r : PGs1) : PGs1 := fun zs s Q => match zs with
  | z :: zs => g z s fun s' => r zs s' Q
  | [] => False
def pgTup (n : Nat) (g : PGs1) : PG1 := fun z s Q => ∃ ds, seqOf s z = some (false, ds) ∧ ds.length = n ∧ g (ds.map Sl.d) s Q
/-- a target: only slots of ws change -/
structure SG (K : PySem.W.Frag) (ws : List Nat) (g : TG) (pg : PG1) : Prop where
  run : ∀ {H0 Hs : Hp} {P : Option (Addr × Addr)} {A : List Addr} {s : PSt} {av : List Addr} {σ : L2.St} {H : Hp} {x : V} {z : Sl} {Q : PSt → Prop} {R : L2.St → Hp → Prop}, Rl K H0 Hs P A s av σ H → VRel K Hs av A P H x z → z ≠ .no → pg z s Q →
  (∀ ρ' σ', Rl K H0 Hs P A { s with ρ := ρ' } av σ' H → (∀ vs : List Nat, (∀ i ∈ ws, i ∈ vs) → wipe σ' vs = wipe σ vs) → Q { s with ρ := ρ' } → R σ' H) → g x σ H R
structure SGs (K : PySem.W.Frag) (ws : List Nat) (g : TGs) (pg : PGs1) : Prop where
  run : ∀ {H0 Hs : Hp} {P : Option (Addr × Addr)} {A : List Addr} {s : PSt} {av : List Addr} {σ : L2.St} {H : Hp} {xs : List V} {zs : List Sl} {Q : PSt → Prop} {R : L2.St → Hp → Prop}, Rl K H0 Hs P A s av σ H → VRels K Hs av A P H xs zs → pg zs s Q →
  (∀ ρ' σ', Rl K H0 Hs P A { s with ρ := ρ' } av σ' H → (∀ vs : List Nat, (∀ i ∈ ws, i ∈ vs) → wipe σ' vs = wipe σ vs) → Q { s with ρ := ρ' } → R σ' H) → g xs σ H R
section
variable {K : PySem.W.Frag}
theorem SG.name (i : Nat) : SG K [i] (gName i) (pgName i) := by
  constructor
  intro H0 Hs P A s av σ H x z Q R r h n q k
  exact k _ _ (r.set h.plain plainS_nw) (fun vs hv => wipe_set (hv i (by simp))) q
theorem SGs.nil : SGs K [] gNil pgNil := by
  constructor
  intro H0 Hs P A s av σ H xs zs Q R r h q k
  cases h with
  | nil => exact ⟨rfl, k s.ρ σ r (fun _ _ => rfl) q⟩
  | cons _ _ _ => exact False.elim q
theorem SGs.cons {ws us : List Nat} {g : TG} {gs : TGs} {pg : PG1} {pgs : PGs1} (h1 : SG K ws g pg) (h2 : SGs K us gs pgs) : SGs K (ws ++ us) (gCons g gs) (pgCons pg pgs) := by
  constructor
  intro H0 Hs P A s av σ H xs zs Q R r h q k
  cases h with
  | nil => exact False.elim q
  | cons hx n hr =>
    refine ⟨_, _, rfl, h1.run r hx n q fun ρ1 σ1 r1 w1 q1 => ?_⟩
    refine h2.run r1 hr q1 fun ρ2 σ2 r2 w2 q2 => ?_
    exact k ρ2 σ2 r2 (fun vs hv => (w2 vs fun i hi => hv i (List.mem_append_right _ hi)).trans (w1 vs fun i hi => hv i (List.mem_append_left _ hi))) q2
theorem VRels.ofDq {Hs : Hp} {P : Option (Addr × Addr)} {A av : List Addr} {H : Hp} {us : List V} {ds : List PyData} (h : DqAll K (wos av H) us ds) : VRels K Hs av A P H us (ds.map Sl.d) := by
  match us, ds, h with
  | _, _, .nil => exact .nil
  | _, _, .cons h t => exact .cons h (by simp) (VRels.ofDq t)
theorem SG.tup {ws : List Nat} {n : Nat} {g : TGs} {pg : PGs1} (h1 : SGs K ws g pg) : SG K ws (gTup K n g) (pgTup n pg) := by
  constructor
  intro H0 Hs P A s av σ H x z Q R r h nz ⟨ds, e, hl, q⟩ k
  obtain ⟨a, us, rfl, hA, hd⟩ := h.tseq r e
  exact ⟨a, us, rfl, hA, by rw [hd.len]; exact hl, h1.run r (VRels.ofDq hd) q k⟩
variable {t u te : TE} {p q pe : PE1} {ta : TA} {pa : PA1} {tt : TT} {pt : PT1} {wi : TI} {pi : PI1} {g : TG} {pg : PG1} {ws vs : List Nat}
def pLc (pi : PI1) (pg : PG1) (pt : PT1) (pe : PE1) (vs : List Nat) : PE1 := fun s Q => pi s fun gd ds s1 => ds.length ≤ 10000 ∧ ∃ I : Nat → List PyData → PSt → Prop, I 0 [] s1 ∧ (∀ i acc s2, I i acc s2 → ∀ j, gd = some j → s2.θ[j]? = some (.lst ds)) ∧
  (∀ (i : Nat) (d : PyData) (acc : List PyData) (s2 : PSt), ds[i]? = some d → I i acc s2 → s2.ρ = s1.ρ → pg (.d d) { s2 with ρ := wipeP s1.ρ vs } fun s3 => pt s3 fun b s4 => if b = true then pe s4 fun z s5 => ∃ y, datOf z = some y ∧ I (i + 1) (acc ++ [y]) { s5 with ρ := s1.ρ } else I (i + 1) acc { s4 with ρ := s1.ρ }) ∧
  ∀ acc s2, I ds.length acc s2 → s2.ρ = s1.ρ → Q (.nw acc) s2
theorem SE.lc (hi : SI K wi pi) (hg : SG K ws g pg) (ht : ST K tt pt) (he : SE K te pe) (hw : ∀ i ∈ ws, i ∈ vs) : SE K (tLc wi g tt te vs) (pLc pi pg pt pe vs) := by
  constructor
  intro H0 Hs P A s av σ H Q R rl h k
  refine hi.run rl h fun J gd ds s1 H1 r1 m1 io _ ⟨hl, I, i0, igd, it, iq⟩ => ?_
  intro D hD
  have un := r1.under hD
  refine ⟨fun i m H2 => m = ds.length - i ∧ i ≤ ds.length ∧ ∃ (acc : List PyData) (us : List V) (s2 : PSt), I i acc s2 ∧ s2.ρ = s1.ρ ∧ acc.length ≤ i ∧ Rl K H0 Hs P A s2 (D :: av) σ H2 ∧ H2 D = some (.lst us) ∧ DqAll K (wos (D :: av) H2) us acc ∧ Same (wos av H1) (wos (D :: av) H2) ∧ s1.m ≤ s2.m ∧ (s2.m = s1.m → s2.θ = s1.θ ∧ ∀ a ∈ A, H2 a = H1 a) ∧ (∀ b o, b ∉ A → (∀ p c, P = some (p, c) → b ≠ p) → H1 b = some o → H2 b = some o), ⟨ds.length, rfl, Nat.zero_le _, [], [], s1, i0, rfl, Nat.le_refl _, r1.push hD, upd_same, .nil, wos_fresh hD (My.Same.new hD), Nat.le_refl _, fun _ => ⟨rfl, fun a ha => upd_ne fun z => un.n (z ▸ ha)⟩, fun b o _ _ eb => My.Same.new hD _ _ eb⟩, ?_⟩
  rintro i m H2 ⟨rfl, hi2, acc, us, s2, hI, eρ, hal, r2, eD, hus, sm, ml, mk, mo⟩
  obtain ⟨st, ig⟩ := io Hs A s2 (D :: av) σ H2 ⟨fun b hb => List.mem_cons_of_mem _ hb, sm, [], by simp⟩ r2 (igd i acc s2 hI)
  by_cases hlt : i < ds.length
  · have ed : ds[i]? = some ds[i] := List.getElem?_eq_getElem hlt
    generalize ds[i] = d at ed
    obtain ⟨go, yl⟩ := ig i d ed
    refine .inr ⟨go, fun H3 => ∃ (acc : List PyData) (us : List V) (s2 : PSt), I (i + 1) acc s2 ∧ s2.ρ = s1.ρ ∧ acc.length ≤ i + 1 ∧ Rl K H0 Hs P A s2 (D :: av) σ H3 ∧ H3 D = some (.lst us) ∧ DqAll K (wos (D :: av) H3) us acc ∧ Same (wos av H1) (wos (D :: av) H3) ∧ s1.m ≤ s2.m ∧ (s2.m = s1.m → s2.θ = s1.θ ∧ ∀ a ∈ A, H3 a = H1 a) ∧ (∀ b o, b ∉ A → (∀ p c, P = some (p, c) → b ≠ p) → H1 b = some o → H3 b = some o), fun H3 h3 => ⟨ds.length - (i + 1), by omega, rfl, hlt, h3⟩, fun x H3 y3 => ?_⟩
    obtain ⟨s3, hx⟩ := yl x H3 y3
    have r3 := r2.same s3
    have w3 := r3.wipe vs
    have eD3 := s3 _ _ eD
    have hus3 := DqAll.same (My.Same.wos (av := D :: av) s3) hus
    have sm3 := sm.trans (My.Same.wos (av := D :: av) s3)
    have hstp := r2.stp s3
    have turn := it i d acc s2 ed hI eρ
    rw [show ({ s2 with ρ := wipeP s1.ρ vs } : PSt) = { s2 with ρ := wipeP s2.ρ vs } by rw [eρ]] at turn
    refine hg.run (Hs := Hs) w3 (VRel.vd hx) (by simp) turn fun ρ4 σ4 r4 ww q4 => ?_
    refine ⟨(ww vs hw).trans (wipe_wipe fun _ h => h), ?_⟩
    refine ht.run r4 q4 fun b s5 H5 r5 m5 q5 => ?_
    have ml5 := m5.mle
    have fin : ∀ {s6 : PSt} {H6 : Hp} (m6 : Stp P A (D :: av) { s2 with ρ := ρ4 } H3 s6 H6), s1.m ≤ s6.m ∧ (s6.m = s1.m → s6.θ = s1.θ ∧ ∀ a ∈ A, H6 a = H1 a) := fun {s6 H6} m6 => by
      have := m6.mle
      have e2 : s2.m ≤ s6.m := this
      refine ⟨Nat.le_trans ml e2, fun e => ?_⟩
      have e3 : s2.m = s1.m := by omega
      obtain ⟨a1, a2⟩ := mk e3
      obtain ⟨b1, b2⟩ := m6.keep (show s6.m = s2.m by omega)
      obtain ⟨c1, c2⟩ := hstp.keep rfl
      exact ⟨b1.trans a1, fun a ha => (b2 a ha).trans ((c2 a ha).trans (a2 a ha))⟩
    have nDp : ∀ p c, P = some (p, c) → D ≠ p := fun p c e => (un.p p c e).1
    cases b with
    | true =>
      refine iteT (he.run r5 ((if_pos rfl).mp q5) fun y z s6 H6 r6 m6 v6 n6 ⟨e, hy, hI6⟩ => ?_)
      have m56 := m5.trans m6
      have sD : Same (wos (D :: av) H3) (wos (D :: av) H6) := m56.same
      have eD6 : H6 D = some (.lst us) := m56.oth D _ un.n nDp eD3
      have hus6 := DqAll.same sD hus3
      have hl6 := hus6.len
      refine ⟨us, eD6, by rw [hl6, sizeLine_eq]; omega, acc ++ [e], us ++ [y], { s6 with ρ := s1.ρ }, hI6, rfl, by rw [List.length_append]; simp; omega, (r6.reslot r1 (sm3.trans sD)).putD un, upd_same, ?_, (sm3.trans sD).trans wos_put, (fin m56).1, fun e => ?_, fun b o n1 n2 eb => ?_⟩
      · exact DqAll.append (DqAll.same wos_put hus6) (.cons (Dq.same wos_put (v6.dat hy)) .nil)
      · obtain ⟨a1, a2⟩ := (fin m56).2 e
        exact ⟨a1, fun a ha => (upd_ne (show a ≠ D from fun z => un.n (z ▸ ha))).trans (a2 a ha)⟩
      · have nb : b ≠ D := fun z => by
          rw [z, hD] at eb
          cases eb
        exact (upd_ne nb).trans (m56.oth b o n1 n2 (s3 _ _ (mo b o n1 n2 eb)))
    | false =>
      refine iteF ?_
      have sD : Same (wos (D :: av) H3) (wos (D :: av) H5) := m5.same
      exact ⟨acc, us, { s5 with ρ := s1.ρ }, (if_neg (by simp)).mp q5, rfl, by omega, r5.reslot r1 (sm3.trans sD), m5.oth D _ un.n nDp eD3, DqAll.same sD hus3, sm3.trans sD, (fin m5).1, (fin m5).2, fun b o n1 n2 eb => m5.oth b o n1 n2 (s3 _ _ (mo b o n1 n2 eb))⟩
  · have ei : i = ds.length := by omega
    subst ei
    refine .inl ⟨st, ?_⟩
    refine k _ _ s2 H2 (r2.pop un) ?_ ?_ (by simp) (iq acc s2 hI eρ)
    · exact m1.trans ⟨sm.trans wos_less, eρ, ml, mk, mo⟩
    · exact ⟨D, us, rfl, un.s, eD, r1.freshAv hD, hus⟩
end
end My
set_option Elab.async false
set_option linter.all false
set_option maxRecDepth 100000
set_option maxHeartbeats 4000000
namespace My
open PySem PySem.Spec PyProof.Rows L2
/-! ### states without heaps: statements -/
structure PEnds where
  nx : PSt → Prop
  rt : Sl → PSt → Prop
  bk : PSt → Prop := fun _ => False
  ct : PSt → Prop := fun _ => False
abbrev PS1 := PEnds → PSt → Prop
structure EndsOk (K : PySem.W.Frag) (H0 : Hp) (P : Option (Addr × Addr)) (A av : List Addr) (H : Hp) (PD : PEnds) (D : Ends) : Prop where
  nx : ∀ A' s' av' σ' H', Rl K H0 H' P A' s' av' σ' H' → Gx av A H av' A' H' → PD.nx s' → D.nx σ' H'
  rt : ∀ A' s' av' σ' H' x z, Rl K H0 H' P A' s' av' σ' H' → Gx av A H av' A' H' → VRel K H0 av' A' P H' x z → z ≠ .no → PD.rt z s' → D.rt x H'
  bk : ∀ A' s' av' σ' H', Rl K H0 H' P A' s' av' σ' H' → Gx av A H av' A' H' → PD.bk s' → D.bk σ' H'
  ct : ∀ A' s' av' σ' H', Rl K H0 H' P A' s' av' σ' H' → Gx av A H av' A' H' → PD.ct s' → D.ct σ' H'
structure SS (K : PySem.W.Frag) (t : TS) (p : PS1) : Prop where
  run : ∀ {H0 : Hp} {P : Option (Addr × Addr)} {A : List Addr} {s : PSt} {av : List Addr} {σ : L2.St} {H : Hp} {PD : PEnds} {D : Ends}, Rl K H0 H P A s av σ H → p PD s → EndsOk K H0 P A av H PD D → t D σ H
section
variable {K : PySem.W.Frag} {H0 Hs : Hp} {P : Option (Addr × Addr)} {A A' : List Addr} {s s' s1 : PSt} {av av' : List Addr} {σ σ' : L2.St} {H H' H1 : Hp} {x : V} {z : Sl} {i : Nat} {PD : PEnds} {D : Ends}
theorem VRel.toH (d : ∀ b, H b = none → Hs b = none) (h : VRel K H av A P H1 x z) : VRel K Hs av A P H1 x z := by
  cases z with
  | nw ds =>
    obtain ⟨a, us, rfl, h0, r⟩ := h
    exact ⟨a, us, rfl, d a h0, r⟩
  | nd kvs =>
    obtain ⟨a, us, rfl, h0, r⟩ := h
    exact ⟨a, us, rfl, d a h0, r⟩
  | _ => exact h
theorem VRel.any (n : (∀ ds, z ≠ .nw ds) ∧ ∀ kvs, z ≠ .nd kvs) (h : VRel K H av A P H1 x z) : VRel K Hs av A P H1 x z := by
  cases z with
  | nw ds => exact absurd rfl (n.1 ds)
  | nd kvs => exact absurd rfl (n.2 kvs)
  | _ => exact h
/-- a statement begins: what is new from here -/
theorem Rl.base (r : Rl K H0 Hs P A s av σ H) : Rl K H0 H P A s av σ H :=
  { r with
    sl := fun j y e ny => by
      obtain ⟨n2, v, e2, hv⟩ := r.sl j y e ny
      exact ⟨n2, v, e2, hv.any n2⟩
    dom0 := fun b e => r.dom0 b (r.dom b e)
    dom := fun b e => e }
theorem EndsOk.mono (g : Gx av A H av' A' H') (h : EndsOk K H0 P A av H PD D) : EndsOk K H0 P A' av' H' PD D :=
  ⟨fun _ _ _ _ _ r g2 q => h.nx _ _ _ _ _ r (g.trans g2) q, fun _ _ _ _ _ _ _ r g2 v n q => h.rt _ _ _ _ _ _ _ r (g.trans g2) v n q, fun _ _ _ _ _ r g2 q => h.bk _ _ _ _ _ r (g.trans g2) q, fun _ _ _ _ _ r g2 q => h.ct _ _ _ _ _ r (g.trans g2) q⟩
theorem Stp.gx (m : Stp P A av s H s' H') : Gx av A H av A H' := Gx.of m.same
/-- a value is kept: as data, or (w true) a new list as the def's own -/
def pown (w : Bool) (m0 : Nat) (z : Sl) (s : PSt) (Q : Sl → PSt → Prop) : Prop := match w, z with
  | true, .nw ds => s.m = m0 ∧ Q (.ob s.θ.length) { s with θ := s.θ ++ [.lst ds] }
  | true, .nd kvs => s.m = m0 ∧ Q (.ob s.θ.length) { s with θ := s.θ ++ [.dct kvs] }
  | true, _ => False
  | false, z => Q (plainS z) s
theorem bring_ob {ob : Ob} {a : Addr} {o : HO} (r0 : Rl K H0 H P A s av σ H) (r : Rl K H0 H P A s1 av σ H1) (m : Stp P A av s H s1 H1) (em : s1.m = s.m) (h0 : H a = none) (ea : H1 a = some o) (na : a ∉ av) (hd : ObR K (wos (a :: av) H1) a o ob) :
    Rl K H0 H1 P (A ++ [a]) { s1 with θ := s1.θ ++ [ob] } (a :: av) σ H1 ∧ Gx av A H (a :: av) (A ++ [a]) H1 ∧ VRel K H1 (a :: av) (A ++ [a]) P H1 (.ref a) (.ob s1.θ.length) := by
  obtain ⟨k1, k2⟩ := m.keep em
  have sw : Same (wos av H) (wos (a :: av) H1) := fun b o e => by
    obtain ⟨nb, e1⟩ := wos_some e
    have e2 := (wos_some (m.same _ _ e)).2
    have nba : b ≠ a := fun z => by
      rw [z, h0] at e1
      cases e1
    exact (wos_in (by rw [List.mem_cons, not_or]; exact ⟨nba, nb⟩)).trans e2
  have na2 : a ∉ A := fun z => na (r.sub a z).1
  refine ⟨?_, ⟨fun b hb => List.mem_cons_of_mem _ hb, sw, [a], rfl⟩, ⟨a, by rw [← r.alen, List.getElem?_append_right (Nat.le_refl _), Nat.sub_self]; rfl, rfl⟩⟩
  have rb := r.base
  exact { rb with
    avl := fun b hb => by
      rcases List.mem_cons.mp hb with rfl | hb
      · exact ⟨o, ea, hd.own⟩
      · exact r.avl b hb
    alen := by
      show (A ++ [a]).length = (s1.θ ++ [ob]).length
      rw [List.length_append, List.length_append, r.alen]
      rfl
    nd := by
      rw [List.nodup_append]
      exact ⟨r.nd, by simp, fun b hb c hc => by
        rw [List.mem_singleton.mp hc]
        exact fun z => na2 (z ▸ hb)⟩
    sub := fun b hb => by
      rcases List.mem_append.mp hb with hb | hb
      · exact ⟨List.mem_cons_of_mem _ (r.sub b hb).1, (r.sub b hb).2⟩
      · rw [List.mem_singleton.mp hb]
        exact ⟨List.mem_cons_self, r.dom0 a h0⟩
    obs := fun j b es e1 e2 => by
      by_cases hj : j < A.length
      · rw [List.getElem?_append_left hj] at e1
        have e2 : (s1.θ ++ [ob])[j]? = some es := e2
        rw [List.getElem?_append_left (by rw [← r.alen]; exact hj), k1] at e2
        obtain ⟨ws, f1, f2⟩ := r0.obs j b es e1 e2
        exact ⟨ws, (k2 b (List.mem_of_getElem? e1)).trans f1, f2.same sw⟩
      · have hj2 : j = A.length := by
          have := (List.getElem?_eq_some_iff.mp e1).1
          rw [List.length_append, List.length_singleton] at this
          omega
        subst hj2
        rw [List.getElem?_append_right (Nat.le_refl _), Nat.sub_self] at e1
        have e2 : (s1.θ ++ [ob])[A.length]? = some es := e2
        rw [r.alen, List.getElem?_append_right (Nat.le_refl _), Nat.sub_self] at e2
        cases e1
        cases e2
        exact ⟨o, ea, hd⟩
    sl := fun j y e ny => by
      have e' : s.ρ[j]? = some y := by
        rw [← m.rho]
        exact e
      obtain ⟨n2, v, e2, hv⟩ := r0.sl j y e' ny
      exact ⟨n2, v, e2, (hv.ext ⟨fun b hb => List.mem_cons_of_mem _ hb, sw, [a], rfl⟩ n2).any n2⟩
    pen := fun p c e => ⟨(r.pen p c e).1, List.mem_cons_of_mem _ (r.pen p c e).2.1, (r.pen p c e).2.2⟩ }
theorem bring {w : Bool} {Q : Sl → PSt → Prop} (r0 : Rl K H0 H P A s av σ H) (r : Rl K H0 H P A s1 av σ H1) (m : Stp P A av s H s1 H1) (h : VRel K H av A P H1 x z) (n : z ≠ .no) (q : pown w s.m z s1 Q) :
    ∃ A' av' z' s2, Rl K H0 H1 P A' s2 av' σ H1 ∧ Gx av A H av' A' H1 ∧ VRel K H1 av' A' P H1 x z' ∧ z' ≠ .no ∧ ((∀ ds, z' ≠ .nw ds) ∧ ∀ kvs, z' ≠ .nd kvs) ∧ Q z' s2 := by
  cases w with
  | false => exact ⟨A, av, plainS z, s1, r.base, m.gx, h.plain.any plainS_nw, plainS_no n, plainS_nw, by cases z <;> exact q⟩
  | true =>
    cases z with
    | nw ds =>
      obtain ⟨em, q⟩ := q
      obtain ⟨a, us, rfl, h0, ea, na, hd⟩ := h
      obtain ⟨r2, g, v⟩ := bring_ob (ob := .lst ds) r0 r m em h0 ea na ⟨us, rfl, hd⟩
      exact ⟨_, _, _, _, r2, g, v, by simp, by simp, q⟩
    | nd kvs =>
      obtain ⟨em, q⟩ := q
      obtain ⟨a, us, rfl, h0, ea, na, hd⟩ := h
      obtain ⟨r2, g, v⟩ := bring_ob (ob := .dct kvs) r0 r m em h0 ea na ⟨us, rfl, hd⟩
      exact ⟨_, _, _, _, r2, g, v, by simp, by simp, q⟩
    | _ => exact False.elim q
end
/-! ### the terms -/
def pNext : PS1 := fun D s => D.nx s
def pSeq (t u : PS1) : PS1 := fun D s => t { D with nx := u D } s
def pCut (t u : PS1) : PS1 := fun D s => ∃ Mid : PSt → Prop, t { D with nx := Mid } s ∧ ∀ s', Mid s' → u D s'
def pBreak : PS1 := fun D s => D.bk s
def pCont : PS1 := fun D s => D.ct s
def pDrop (p : PE1) : PS1 := fun D s => p s fun _ s1 => D.nx s1
def pRet (p : PE1) : PS1 := fun D s => p s D.rt
def pRetN : PS1 := fun D s => D.rt (.d .none) s
def pIfS (c : PT1) (t u : PS1) : PS1 := fun D s => c s fun b s1 => if b = true then t D s1 else u D s1
/-- name = value -/
def pSet (w : Bool) (p : PE1) (i : Nat) : PS1 := fun D s => p s fun z s1 => pown w s.m z s1 fun z' s2 => D.nx { s2 with ρ := s2.ρ.set i z' }
def pAsg (p : PE1) (g : PG1) : PS1 := fun D s => p s fun z s1 => g z s1 D.nx
def pPar (w1 w2 : Bool) (i j : Nat) (p q : PE1) : PS1 := fun D s => p s fun z s1 => pown w1 s.m z s1 fun z1 s2 => q s2 fun y s3 => pown w2 s2.m y s3 fun z2 s4 => D.nx { s4 with ρ := (s4.ρ.set i z1).set j z2 }
def pPar3 (w1 w2 w3 : Bool) (i j l : Nat) (p q r : PE1) : PS1 := fun D s => p s fun z s1 => pown w1 s.m z s1 fun z1 s2 => q s2 fun y s3 => pown w2 s2.m y s3 fun z2 s4 => r s4 fun x s5 => pown w3 s4.m x s5 fun z3 s6 => D.nx { s6 with ρ := ((s6.ρ.set i z1).set j z2).set l z3 }
def pFor (pi : PI1) (g : PG1) (b : PS1) : PS1 := fun D s => pi s fun gd ds s1 => ∃ I : Nat → PSt → Prop, I 0 s1 ∧ (∀ i s2, I i s2 → ∀ j, gd = some j → s2.θ[j]? = some (.lst ds)) ∧
  (∀ (i : Nat) (d : PyData) (s2 : PSt), ds[i]? = some d → I i s2 → g (.d d) s2 fun s3 => b { D with nx := I (i + 1), ct := I (i + 1), bk := D.nx } s3) ∧ ∀ s2, I ds.length s2 → D.nx s2
def pWhile (c : PT1) (b : PS1) : PS1 := fun D s => ∃ W : Nat → PSt → Prop, (∃ m, W m s) ∧ ∀ m s1, W m s1 → c s1 fun k s2 => if k = true then ∃ N : PSt → Prop, (∀ s', N s' → ∃ m', m' < m ∧ W m' s') ∧ b { D with nx := N, ct := N, bk := D.nx } s2 else D.nx s2
section
variable {K : PySem.W.Frag} {t u : TS} {te tf tg' : TE} {p q : PS1} {pe pf pg' : PE1} {tc : TT} {pc : PT1} {wi : TI} {pi : PI1} {g : TG} {pg : PG1} {ws : List Nat}
theorem SS.next : SS K tNext pNext := by
  constructor
  intro H0 P A s av σ H PD D r h k
  exact k.nx _ _ _ _ _ r Gx.refl h
theorem SS.seq (h1 : SS K t p) (h2 : SS K u q) : SS K (tSeq t u) (pSeq p q) := by
  constructor
  intro H0 P A s av σ H PD D r h k
  exact h1.run r h ⟨fun _ _ _ _ _ r' g q => h2.run r' q (k.mono g), k.rt, k.bk, k.ct⟩
theorem SS.cut (h1 : SS K t p) (h2 : SS K u q) : SS K (C8.tCut t u) (pCut p q) := by
  constructor
  intro H0 P A s av σ H PD D r ⟨Mid, hm, hu⟩ k
  refine ⟨fun σ' H' => ∃ A' s' av', Rl K H0 H' P A' s' av' σ' H' ∧ Gx av A H av' A' H' ∧ Mid s', ?_, ?_⟩
  · exact h1.run r hm ⟨fun _ _ _ _ _ r' g q => ⟨_, _, _, r', g, q⟩, k.rt, k.bk, k.ct⟩
  · rintro σ' H' ⟨A', s', av', r', g, q⟩
    exact h2.run r' (hu s' q) (k.mono g)
theorem SS.brk : SS K tBreak pBreak := by
  constructor
  intro H0 P A s av σ H PD D r h k
  exact k.bk _ _ _ _ _ r Gx.refl h
theorem SS.cont : SS K tCont pCont := by
  constructor
  intro H0 P A s av σ H PD D r h k
  exact k.ct _ _ _ _ _ r Gx.refl h
theorem SS.drop (h1 : SE K te pe) : SS K (tDrop te) (pDrop pe) := by
  constructor
  intro H0 P A s av σ H PD D r h k
  exact h1.run r h fun x z s1 H1 r1 m1 v1 n1 q => k.nx _ _ _ _ _ r1.base m1.gx q
theorem SS.ret (h1 : SE K te pe) : SS K (tRet te) (pRet pe) := by
  constructor
  intro H0 P A s av σ H PD D r h k
  exact h1.run r h fun x z s1 H1 r1 m1 v1 n1 q => k.rt _ _ _ _ _ _ _ r1.base m1.gx (v1.toH r1.dom0) n1 q
theorem SS.ite (hc : ST K tc pc) (h1 : SS K t p) (h2 : SS K u q) : SS K (tIfS tc t u) (pIfS pc p q) := by
  constructor
  intro H0 P A s av σ H PD D r h k
  refine hc.run r h fun b s1 H1 r1 m1 h => ?_
  cases b with
  | true => exact iteT (h1.run r1.base ((if_pos rfl).mp h) (k.mono m1.gx))
  | false => exact iteF (h2.run r1.base ((if_neg (by simp)).mp h) (k.mono m1.gx))
theorem SS.set (w : Bool) (i : Nat) (h1 : SE K te pe) : SS K (tAsg te (gName i)) (pSet w pe i) := by
  constructor
  intro H0 P A s av σ H PD D r h k
  refine h1.run r h fun x z s1 H1 r1 m1 v1 n1 q => ?_
  obtain ⟨A', av', z', s2, r2, g2, v2, n2, n3, q2⟩ := bring r r1 m1 v1 n1 q
  exact k.nx _ _ _ _ _ (r2.set v2 n3) g2 q2
theorem SS.asg (h1 : SE K te pe) (hg : SG K ws g pg) : SS K (tAsg te g) (pAsg pe pg) := by
  constructor
  intro H0 P A s av σ H PD D r h k
  refine h1.run r h fun x z s1 H1 r1 m1 v1 n1 q => ?_
  exact hg.run r1 v1 n1 q fun ρ' σ' r2 _ q2 => k.nx _ _ _ _ _ r2.base m1.gx q2
theorem SS.par (w1 w2 : Bool) (i j : Nat) (h1 : SE K te pe) (h2 : SE K tf pf) : SS K (tPar i j (tCons te (tCons tf tNil))) (pPar w1 w2 i j pe pf) := by
  constructor
  intro H0 P A s av σ H PD D r h k
  refine h1.run r h fun x z s1 H1 r1 m1 v1 n1 q => ?_
  obtain ⟨A2, av2, z1, s2, r2, g2, v2, n2, n3, q2⟩ := bring r r1 m1 v1 n1 q
  refine h2.run r2 q2 fun y z s3 H3 r3 m3 v3 n4 q3 => ?_
  obtain ⟨A4, av4, z2, s4, r4, g4, v4, n5, n6, q4⟩ := bring r2 r3 m3 v3 n4 q3
  exact ⟨x, y, rfl, k.nx _ _ _ _ _ ((r4.set ((v2.ext g4 n3).any n3) n3).set v4 n6) (g2.trans g4) q4⟩
theorem SS.for_ (hi : SI K wi pi) (hg : SG K ws g pg) (hb : SS K t p) : SS K (tFor wi g t) (pFor pi pg p) := by
  constructor
  intro H0 P A s av σ H PD D r h k
  refine hi.run r h fun J gd ds s1 H1 r1 m1 io _ ⟨I, i0, igd, it, iq⟩ => ?_
  refine ⟨fun i m σ2 H2 => m = ds.length - i ∧ i ≤ ds.length ∧ ∃ A2 s2 av2, Rl K H0 H2 P A2 s2 av2 σ2 H2 ∧ Gx av A H1 av2 A2 H2 ∧ I i s2, ⟨ds.length, rfl, Nat.zero_le _, _, s1, _, r1.base, Gx.refl, i0⟩, ?_⟩
  rintro i m σ2 H2 ⟨rfl, hi2, A2, s2, av2, r2, g2, hI⟩
  obtain ⟨st, ig⟩ := io H2 A2 s2 av2 σ2 H2 g2 r2 (igd i s2 hI)
  by_cases hlt : i < ds.length
  · have ed : ds[i]? = some ds[i] := List.getElem?_eq_getElem hlt
    generalize ds[i] = d at ed
    obtain ⟨go, yl⟩ := ig i d ed
    refine .inr ⟨go, fun σ3 H3 => ∃ A3 s3 av3, Rl K H0 H3 P A3 s3 av3 σ3 H3 ∧ Gx av A H1 av3 A3 H3 ∧ I (i + 1) s3, fun σ3 H3 h3 => ⟨ds.length - (i + 1), by omega, rfl, hlt, h3⟩, fun x H3 y3 => ?_⟩
    obtain ⟨s3, hx⟩ := yl x H3 y3
    have r3 := (r2.same s3).base
    have g3 : Gx av A H1 av2 A2 H3 := g2.trans (Gx.of (My.Same.wos s3))
    refine hg.run r3 (VRel.vd hx) (by simp) (it i d s2 ed hI) fun ρ4 σ4 r4 _ q4 => ?_
    refine hb.run r4 q4 ⟨fun _ _ _ _ _ r' g q => ⟨_, _, _, r', g3.trans g, q⟩, fun _ _ _ _ _ _ _ r' g v n q => k.rt _ _ _ _ _ _ _ r' (m1.gx.trans (g3.trans g)) v n q, fun _ _ _ _ _ r' g q => k.nx _ _ _ _ _ r' (m1.gx.trans (g3.trans g)) q, fun _ _ _ _ _ r' g q => ⟨_, _, _, r', g3.trans g, q⟩⟩
  · have ei : i = ds.length := by omega
    subst ei
    exact .inl ⟨st, k.nx _ _ _ _ _ r2 (m1.gx.trans g2) (iq s2 hI)⟩
theorem SS.while_ (hc : ST K tc pc) (hb : SS K t p) : SS K (tWhile tc t) (pWhile pc p) := by
  constructor
  intro H0 P A s av σ H PD D r ⟨W, ⟨m0, w0⟩, turn⟩ k
  refine ⟨fun m σ2 H2 => ∃ A2 s2 av2, Rl K H0 H2 P A2 s2 av2 σ2 H2 ∧ Gx av A H av2 A2 H2 ∧ W m s2, ⟨m0, A, s, av, r, Gx.refl, w0⟩, ?_⟩
  rintro m σ2 H2 ⟨A2, s2, av2, r2, g2, w2⟩
  refine hc.run r2 (turn m s2 w2) fun b s3 H3 r3 m3 q3 => ?_
  have g3 := g2.trans m3.gx
  cases b with
  | true =>
    obtain ⟨N, hN, hq⟩ := (if_pos rfl).mp q3
    refine iteT ⟨fun σ4 H4 => ∃ A4 s4 av4, Rl K H0 H4 P A4 s4 av4 σ4 H4 ∧ Gx av A H av4 A4 H4 ∧ N s4, ?_, ?_⟩
    · rintro σ4 H4 ⟨A4, s4, av4, r4, g4, n4⟩
      obtain ⟨m', hm, w'⟩ := hN s4 n4
      exact ⟨m', hm, A4, s4, av4, r4, g4, w'⟩
    · exact hb.run r3.base hq ⟨fun _ _ _ _ _ r' g q => ⟨_, _, _, r', g3.trans g, q⟩, fun _ _ _ _ _ _ _ r' g v n q => k.rt _ _ _ _ _ _ _ r' (g3.trans g) v n q, fun _ _ _ _ _ r' g q => k.nx _ _ _ _ _ r' (g3.trans g) q, fun _ _ _ _ _ r' g q => ⟨_, _, _, r', g3.trans g, q⟩⟩
  | false => exact iteF (k.nx _ _ _ _ _ r3.base g3 ((if_neg (by simp)).mp q3))
end
end My
set_option Elab.async false
set_option linter.all false
set_option maxRecDepth 100000
set_option maxHeartbeats 4000000
namespace My
open PySem PySem.Spec PyProof.Rows L2
/-! ### states without heaps: operators -/
def flatD : PyData → Bool
  | .none => true
  | .bool _ => true
  | .int _ => true
  | .str _ => true
  | _ => false
def vOf : PyData → V
  | .none => .non
  | .bool b => .bl b
  | .int i => .int i
  | .str x => .str x
  | _ => .non
theorem Dq.flat {K : PySem.W.Frag} {H : Hp} {x : V} {d : PyData} (h : Dq K H x d) (f : flatD d = true) : x = vOf d ∧ flatV x = true := by
  cases h <;> first | exact ⟨rfl, rfl⟩ | cases f
theorem DqAll.flat {K : PySem.W.Frag} {H : Hp} {xs : List V} {ds : List PyData} (h : DqAll K H xs ds) (f : ds.all flatD = true) : xs = ds.map vOf ∧ xs.all flatV = true := by
  match xs, ds, h with
  | _, _, .nil => exact ⟨rfl, rfl⟩
  | _, _, .cons h t =>
    rw [List.all_cons, Bool.and_eq_true] at f
    obtain ⟨e1, f1⟩ := Dq.flat h f.1
    obtain ⟨e2, f2⟩ := DqAll.flat t f.2
    rw [List.map_cons, ← e1, ← e2]
    exact ⟨rfl, by rw [List.all_cons, f1, f2]; rfl⟩
def inF (d : PyData) (ds : List PyData) : Bool := ds.any fun y => eqV (vOf y) (vOf d)
theorem inF_ints {x : Int} {ns : List Int} : inF (.int x) (ns.map PyData.int) = decide (x ∈ ns) := by
  unfold inF
  rw [List.any_map, Bool.eq_iff_iff, List.any_eq_true, decide_eq_true_eq]
  constructor
  · rintro ⟨y, hy, e⟩
    have e : (y == x) = true := e
    rw [beq_iff_eq] at e
    exact e ▸ hy
  · intro h
    exact ⟨x, h, (show (x == x) = true by simp)⟩
theorem ints_flat {ns : List Int} : (ns.map PyData.int).all flatD = true := by rw [List.all_map, List.all_eq_true]; exact fun _ _ => rfl
theorem bools_flat {bs : List Bool} : (bs.map PyData.bool).all flatD = true := by rw [List.all_map, List.all_eq_true]; exact fun _ _ => rfl
section
variable {K : PySem.W.Frag}
/-- numbers -/
def fI (g : Int → Int → PyData) : F2 := fun _ a b Q => match a, b with
  | .d (.int i), .d (.int j) => Q (.d (g i j))
  | _, _ => False
def fIC (C : Int → Int → Prop) (g : Int → Int → PyData) : F2 := fun _ a b Q => match a, b with
  | .d (.int i), .d (.int j) => C i j ∧ Q (.d (g i j))
  | _, _ => False
theorem OpOk.i0 {gv : Int → Int → V} {g : Int → Int → PyData} (hg : ∀ i j H, Dq K H (gv i j) (g i j)) : OpOk K (rI0 gv) (fI g) := by
  constructor
  intro H0 Hs P A s av σ H x y a b Q R r hx nx hy ny h k
  unfold fI at h
  split at h
  · rename_i i j
    cases hx
    cases hy
    exact ⟨i, j, rfl, rfl, k _ _ H (Same.refl _) (VRel.vd (hg i j _)) (by simp) h⟩
  · exact h.elim
theorem OpOk.i {C : Int → Int → Prop} {gv : Int → Int → V} {g : Int → Int → PyData} (hg : ∀ i j H, Dq K H (gv i j) (g i j)) : OpOk K (rI C gv) (fIC C g) := by
  constructor
  intro H0 Hs P A s av σ H x y a b Q R r hx nx hy ny h k
  unfold fIC at h
  split at h
  · rename_i i j
    cases hx
    cases hy
    exact ⟨i, j, rfl, rfl, h.1, k _ _ H (Same.refl _) (VRel.vd (hg i j _)) (by simp) h.2⟩
  · exact h.elim
def fAdd : F2 := fI fun i j => .int (i + j)
def fSub : F2 := fI fun i j => .int (i - j)
def fMul : F2 := fIC CMul fun i j => .int (i * j)
def fDiv : F2 := fIC CDiv fun i j => .int (i / j)
def fMod : F2 := fIC (fun _ j => 0 < j) fun i j => .int (i % j)
def fPow : F2 := fIC CPow fun i j => .int (i ^ j.toNat)
def fLt : F2 := fI fun i j => .bool (decide (i < j))
def fLe : F2 := fI fun i j => .bool (decide (i ≤ j))
def fGt : F2 := fI fun i j => .bool (decide (j < i))
def fGe : F2 := fI fun i j => .bool (decide (j ≤ i))
theorem OpOk.add : OpOk K (rI0 fun i j => .int (i + j)) fAdd := OpOk.i0 fun _ _ _ => .int _
theorem OpOk.sub : OpOk K (rI0 fun i j => .int (i - j)) fSub := OpOk.i0 fun _ _ _ => .int _
theorem OpOk.mul : OpOk K (rI CMul fun i j => .int (i * j)) fMul := OpOk.i fun _ _ _ => .int _
theorem OpOk.mod : OpOk K (rI (fun _ j => 0 < j) fun i j => .int (i % j)) fMod := OpOk.i fun _ _ _ => .int _
theorem OpOk.lt : OpOk K (rI0 fun i j => .bl (decide (i < j))) fLt := OpOk.i0 fun _ _ _ => .bl _
theorem OpOk.le : OpOk K (rI0 fun i j => .bl (decide (i ≤ j))) fLe := OpOk.i0 fun _ _ _ => .bl _
theorem OpOk.gt : OpOk K (rI0 fun i j => .bl (decide (j < i))) fGt := OpOk.i0 fun _ _ _ => .bl _
/-- == and != of numbers, texts, truths, None -/
def fEq : F2 := fun _ a b Q => ∃ d e, datOf a = some d ∧ datOf b = some e ∧ flatD d = true ∧ flatD e = true ∧ scal (vOf d) (vOf e) = true ∧ Q (.d (.bool (decide (vOf d = vOf e))))
def fNe : F2 := fun _ a b Q => ∃ d e, datOf a = some d ∧ datOf b = some e ∧ flatD d = true ∧ flatD e = true ∧ scal (vOf d) (vOf e) = true ∧ Q (.d (.bool (!decide (vOf d = vOf e))))
theorem OpOk.eq : OpOk K rEq fEq := by
  constructor
  intro H0 Hs P A s av σ H x y a b Q R r hx nx hy ny ⟨d, e, h1, h2, f1, f2, hs, q⟩ k
  obtain ⟨rfl, _⟩ := Dq.flat (hx.dat h1) f1
  obtain ⟨rfl, _⟩ := Dq.flat (hy.dat h2) f2
  exact ⟨hs, k _ _ H (Same.refl _) (VRel.vbl _) (by simp) q⟩
theorem OpOk.ne : OpOk K rNe fNe := by
  constructor
  intro H0 Hs P A s av σ H x y a b Q R r hx nx hy ny ⟨d, e, h1, h2, f1, f2, hs, q⟩ k
  obtain ⟨rfl, _⟩ := Dq.flat (hx.dat h1) f1
  obtain ⟨rfl, _⟩ := Dq.flat (hy.dat h2) f2
  exact ⟨hs, k _ _ H (Same.refl _) (VRel.vbl _) (by simp) q⟩
/-- == and != of data -/
def fEqD : F2 := fun s a b Q => ∃ d e n m, datOf a = some d ∧ datOf b = some e ∧ Fit n d ∧ Fit m e ∧ SeqAt.shaped d = true ∧ SeqAt.shaped e = true ∧ Q (.d (.bool (PyData.eqv d e)))
def fNeD : F2 := fun s a b Q => ∃ d e n m, datOf a = some d ∧ datOf b = some e ∧ Fit n d ∧ Fit m e ∧ SeqAt.shaped d = true ∧ SeqAt.shaped e = true ∧ Q (.d (.bool (!PyData.eqv d e)))
theorem OpOk.neD : OpOk K (rNeD K) fNeD := by
  constructor
  intro H0 Hs P A s av σ H x y a b Q R r hx nx hy ny ⟨d, e, n, m, h1, h2, f1, f2, s1, s2, q⟩ k
  exact ⟨d, e, (Dq.same wos_le (hx.dat h1)).dp f1, (Dq.same wos_le (hy.dat h2)).dp f2, s1, s2, k _ _ H (Same.refl _) (VRel.vbl _) (by simp) q⟩
/-- in, not in: flat items -/
def fIn (neg : Bool) : F2 := fun s a b Q => ∃ d c ds, datOf a = some d ∧ flatD d = true ∧ seqOf s b = some (c, ds) ∧ ds.all flatD = true ∧ Q (.d (.bool (if neg then !inF d ds else inF d ds)))
theorem inV_map {d : PyData} {ds : List PyData} : inV (vOf d) (ds.map vOf) = inF d ds := by
  unfold inV inF
  rw [List.any_map]
  rfl
theorem OpOk.in_ {neg : Bool} : OpOk K (rIn K neg) (fIn neg) := by
  constructor
  intro H0 Hs P A s av σ H x y a b Q R r hx nx hy ny ⟨d, c, ds, h1, f1, h2, f2, q⟩ k
  obtain ⟨rfl, g1⟩ := Dq.flat (hx.dat h1) f1
  obtain ⟨p, us, rfl, hA, hd⟩ := hy.seq r h2
  obtain ⟨rfl, g2⟩ := DqAll.flat hd f2
  refine ⟨p, _, rfl, ?_, g1, g2, ?_⟩
  · cases c with
    | true => exact .inl hA
    | false => exact .inr hA
  · rw [inV_map]
    exact k _ _ H (Same.refl _) (VRel.vbl _) (by simp) q
/-- in, not in: items of data -/
def fInD (neg l : Bool) : F2 := fun s a b Q => ∃ d ds n m, datOf a = some d ∧ datOf b = some (if l then .list ds else .tuple ds) ∧ Fit n d ∧ Fit m (.tuple ds) ∧ d.canLay0 = true ∧ d.depth ≤ 8 ∧ PyData.canLayAll0 ds = true ∧ Q (.d (.bool (if neg then !(ds.any fun z => PyData.eqv z d) else ds.any fun z => PyData.eqv z d)))
theorem fit_lt {m : Nat} {ds : List PyData} (h : Fit m (.tuple ds)) : Fit m (.list ds) := by
  cases m with
  | zero => exact h.elim
  | succ m => exact h
theorem OpOk.notInDL : OpOk K (rNotInDL K) (fInD true true) := by
  constructor
  intro H0 Hs P A s av σ H x y a b Q R r hx nx hy ny ⟨d, ds, n, m, h1, h2, f1, f2, c1, c2, c3, q⟩ k
  exact ⟨d, ds, (Dq.same wos_le (hx.dat h1)).dp f1, (Dq.same wos_le (hy.dat h2)).dp (fit_lt f2), c1, c2, c3, k _ _ H (Same.refl _) (VRel.vbl _) (by simp) q⟩
/-- is None, is not None -/
def isNon : Sl → Bool
  | .d .none => true
  | _ => false
theorem isNon_iff {Hs : Hp} {P : Option (Addr × Addr)} {A av : List Addr} {H : Hp} {x : V} {z : Sl} (h : VRel K Hs av A P H x z) (n : z ≠ .no) : decide (x = .non) = isNon z := by
  cases z with
  | no => exact absurd rfl n
  | d e => cases h <;> rfl
  | nw ds => obtain ⟨a, us, rfl, _⟩ := h; rfl
  | l ds => obtain ⟨a, us, rfl, _⟩ := h; rfl
  | ob i => obtain ⟨a, _, rfl⟩ := h; rfl
  | pen => obtain ⟨p, c, _, rfl⟩ := h; rfl
  | pl ns => obtain ⟨a, rfl, _⟩ := h; rfl
  | kt ns => obtain ⟨a, rfl, _⟩ := h; rfl
  | dl rs ss => obtain ⟨a, rfl, _⟩ := h; rfl
  | nd kvs => obtain ⟨a, es, rfl, _⟩ := h; rfl
  | dd kvs => obtain ⟨a, es, rfl, _⟩ := h; rfl
  | di kvs => obtain ⟨a, rfl, _⟩ := h; rfl
def fIsN : F2 := fun _ a b Q => isNon b = true ∧ Q (.d (.bool (isNon a)))
def fNotN : F2 := fun _ a b Q => isNon b = true ∧ Q (.d (.bool (!isNon a)))
theorem OpOk.isN : OpOk K (fun x y H Q => y = .non ∧ Q (.bl (decide (x = .non))) H) fIsN := by
  constructor
  intro H0 Hs P A s av σ H x y a b Q R r hx nx hy ny ⟨e, q⟩ k
  have := isNon_iff hy ny
  rw [e, decide_eq_true_eq] at this
  exact ⟨this, by rw [isNon_iff hx nx]; exact k _ _ H (Same.refl _) (VRel.vbl _) (by simp) q⟩
theorem OpOk.notN : OpOk K (fun x y H Q => y = .non ∧ Q (.bl (!decide (x = .non))) H) fNotN := by
  constructor
  intro H0 Hs P A s av σ H x y a b Q R r hx nx hy ny ⟨e, q⟩ k
  have := isNon_iff hy ny
  rw [e, decide_eq_true_eq] at this
  exact ⟨this, by rw [isNon_iff hx nx]; exact k _ _ H (Same.refl _) (VRel.vbl _) (by simp) q⟩
def fIsB (neg : Bool) : F2 := fun _ a b Q => match a, b with
  | .d (.bool c), .d (.bool e) => Q (.d (.bool (if neg then !decide (c = e) else decide (c = e))))
  | _, _ => False
/-- an item -/
def fIx (l : Bool) : F2 := fun s a b Q => ∃ ds i e, seqOf s a = some (l, ds) ∧ b = .d (.int i) ∧ atI ds i = some e ∧ Q (.d e)
theorem atI_dq {H : Hp} {us : List V} {ds : List PyData} {i : Int} {e : PyData} (h : DqAll K H us ds) (g : atI ds i = some e) : ∃ v, atI us i = some v ∧ Dq K H v e := by
  unfold atI at g ⊢
  rw [h.len]
  cases q : ixN ds.length i with
  | none => rw [q] at g; cases g
  | some j =>
    rw [q] at g
    exact dq_at h g
theorem OpOk.ixL : OpOk K (rIxL K) (fIx true) := by
  constructor
  intro H0 Hs P A s av σ H x y a b Q R r hx nx hy ny ⟨ds, i, e, h1, h2, h3, q⟩ k
  subst h2
  cases hy
  obtain ⟨p, us, rfl, hA, hd⟩ := hx.lseq r h1
  obtain ⟨v, h4, hv⟩ := atI_dq hd h3
  exact ⟨p, us, i, v, rfl, rfl, hA, h4, k _ _ H (Same.refl _) (VRel.vd hv) (by simp) q⟩
theorem OpOk.ixT : OpOk K (rIxT K) (fIx false) := by
  constructor
  intro H0 Hs P A s av σ H x y a b Q R r hx nx hy ny ⟨ds, i, e, h1, h2, h3, q⟩ k
  subst h2
  cases hy
  obtain ⟨p, us, rfl, hA, hd⟩ := hx.tseq r h1
  obtain ⟨v, h4, hv⟩ := atI_dq hd h3
  exact ⟨p, us, i, v, rfl, rfl, hA, h4, k _ _ H (Same.refl _) (VRel.vd hv) (by simp) q⟩
/-- + of sequences -/
def fCatT : F2 := fun s a b Q => ∃ ds es, seqOf s a = some (false, ds) ∧ seqOf s b = some (false, es) ∧ ds.length + es.length ≤ 10000 ∧ Q (.d (.tuple (ds ++ es)))
theorem seqT_dat {s : PSt} {z : Sl} {ds : List PyData} (h : seqOf s z = some (false, ds)) : datOf z = some (.tuple ds) := by
  cases z with
  | d e =>
    cases e with
    | tuple es' => cases h; rfl
    | _ => cases h
  | ob i =>
    rw [seqOf_ob] at h
    cases e : lstAt s.θ i with
    | none => rw [e] at h; cases h
    | some w => rw [e] at h; cases h
  | pl ns => cases h; rfl
  | kt ns => cases h; rfl
  | dl rs ss => cases h; rfl
  | _ => cases h
theorem OpOk.catT : OpOk K (rCatA K) fCatT := by
  constructor
  intro H0 Hs P A s av σ H x y a b Q R r hx nx hy ny ⟨ds, es, h1, h2, hl, q⟩ k
  obtain ⟨p, us, rfl, hA, hd⟩ := hx.tseq r h1
  obtain ⟨p2, ws, rfl, hB, he⟩ := hy.tseq r h2
  refine ⟨p, p2, us, ws, rfl, rfl, hA, hB, by rw [hd.len, he.len]; exact smallN hl, fun z => ?_, fun z1 z2 => ?_, fun z1 z2 c hc => ?_⟩
  · subst z
    cases hd
    have : VRel K Hs av A P H (.ref p2) (.d (.tuple es)) := VRel.vd (hy.dat (seqT_dat h2))
    exact k _ _ H (Same.refl _) this (by simp) q
  · subst z2
    cases he
    have : VRel K Hs av A P H (.ref p) (.d (.tuple ds)) := VRel.vd (hx.dat (seqT_dat h1))
    rw [List.append_nil] at q
    exact k _ _ H (Same.refl _) this (by simp) q
  · exact k _ _ _ (My.Same.new hc) (VRel.tup r hc (DqAll.append hd he)) (by simp) q
theorem cutD_whole {ds : List PyData} {lo hi : Option Int} (h : HT.sIx ds.length 0 lo = 0 ∧ HT.sIx ds.length ds.length hi = ds.length) : cutD ds lo hi = ds := by
  unfold cutD
  rw [h.1, h.2, List.drop_zero, Nat.sub_zero, List.take_length]
abbrev PO1 := PSt → (Option Int → PSt → Prop) → Prop
structure SO (K : PySem.W.Frag) (t : TO) (p : PO1) : Prop where
  run : ∀ {H0 Hs : Hp} {P : Option (Addr × Addr)} {A : List Addr} {s : PSt} {av : List Addr} {σ : L2.St} {H : Hp} {Q : Option Int → PSt → Prop} {R : Option Int → Hp → Prop}, Rl K H0 Hs P A s av σ H → p s Q →
  (∀ o s' H', Rl K H0 Hs P A s' av σ H' → Stp P A av s H s' H' → Q o s' → R o H') → t σ H R
def pNoP : PO1 := fun s Q => Q none s
def pPart (p : PE1) : PO1 := fun s Q => p s fun z s1 => match z with
  | .d (.int i) => Q (some i) s1
  | _ => False
theorem SO.no : SO K tNoPart pNoP := by
  constructor
  intro H0 Hs P A s av σ H Q R r h k
  exact k none s H r Stp.refl h
theorem SO.part {t : TE} {p : PE1} (h1 : SE K t p) : SO K (tPart t) (pPart p) := by
  constructor
  intro H0 Hs P A s av σ H Q R r h k
  refine h1.run r h fun x z s1 H1 r1 m1 v1 n1 q => ?_
  split at q
  · rename_i i
    cases v1
    exact ⟨i, rfl, k _ s1 H1 r1 m1 q⟩
  · exact q.elim
def pSl (l : Bool) (p : PE1) (lo hi : PO1) : PE1 := fun s Q => p s fun z s1 => lo s1 fun a s2 => hi s2 fun b s3 => ∃ ds, seqOf s3 z = some (l, ds) ∧ Q (if l then .nw (cutD ds a b) else .d (.tuple (cutD ds a b))) s3
theorem SE.slT {t : TE} {tl th : TO} {p : PE1} {pl ph : PO1} (h1 : SE K t p) (h2 : SO K tl pl) (h3 : SO K th ph) : SE K (tSl (rSlA K) t tl th) (pSl false p pl ph) := by
  constructor
  intro H0 Hs P A s av σ H Q R r h k
  refine h1.run r h fun x z s1 H1 r1 m1 v1 n1 q => ?_
  refine h2.run r1 q fun lo s2 H2 r2 m2 q => ?_
  refine h3.run r2 q fun hi s3 H3 r3 m3 q => ?_
  obtain ⟨ds, e, q⟩ := q
  have v3 := v1.same (m2.trans m3).same
  obtain ⟨a, us, rfl, hA, hd⟩ := v3.tseq r3 e
  have m := m1.trans (m2.trans m3)
  refine ⟨a, us, rfl, hA, fun hw => ?_, fun hw b hb => ?_⟩
  · have : VRel K Hs av A P H3 (.ref a) (.d (.tuple ds)) := VRel.vd (v3.dat (seqT_dat e))
    rw [hd.len] at hw
    rw [cutD_whole hw] at q
    exact k _ _ s3 H3 r3 m this (by simp) q
  · exact k _ _ s3 _ (r3.alloc hb).1 (m.trans (r3.alloc (o := .tup (cutV us lo hi)) hb).2) (VRel.tup r3 hb (DqAll.cutD hd)) (by simp) q
theorem SE.slL {t : TE} {tl th : TO} {p : PE1} {pl ph : PO1} (h1 : SE K t p) (h2 : SO K tl pl) (h3 : SO K th ph) : SE K (tSl (rSlL K) t tl th) (pSl true p pl ph) := by
  constructor
  intro H0 Hs P A s av σ H Q R r h k
  refine h1.run r h fun x z s1 H1 r1 m1 v1 n1 q => ?_
  refine h2.run r1 q fun lo s2 H2 r2 m2 q => ?_
  refine h3.run r2 q fun hi s3 H3 r3 m3 q => ?_
  obtain ⟨ds, e, q⟩ := q
  have v3 := v1.same (m2.trans m3).same
  obtain ⟨a, us, rfl, hA, hd⟩ := v3.lseq r3 e
  have m := m1.trans (m2.trans m3)
  exact ⟨a, us, rfl, hA, fun b hb => k _ _ s3 _ (r3.alloc hb).1 (m.trans (r3.alloc (o := .lst (cutV us lo hi)) hb).2) (VRel.lst r3 hb (DqAll.cutD hd)) (by simp) q⟩
end
end My
set_option Elab.async false
set_option linter.all false
set_option maxRecDepth 100000
set_option maxHeartbeats 4000000
namespace My
open PySem PySem.Spec PyProof.Rows L2
/-! ### states without heaps: built-ins, methods, own defs -/
section
variable {K : PySem.W.Frag}
def fLen : FN := fun s as Q => ∃ (z : Sl) (b : Bool) (ds : List PyData), as = [z] ∧ seqOf s z = some (b, ds) ∧ Q (.d (.int (ds.length : Nat)))
theorem CbOk.len : CbOk K (rLenQ K) fLen := by
  constructor
  intro H0 Hs P A s av σ H xs as Q R r h ⟨z, b, ds, e, e2, q⟩ k
  subst e
  obtain ⟨x, rfl, v, n⟩ := h.one
  obtain ⟨a, us, rfl, hA, hd⟩ := v.seq r e2
  refine ⟨a, us, rfl, ?_, ?_⟩
  · cases b with
    | true => exact .inl hA
    | false => exact .inr hA
  · rw [hd.len]
    exact k _ _ H (Same.refl _) (VRel.vint _) (by simp) q
def fList : FN := fun s as Q => ∃ (z : Sl) (b : Bool) (ds : List PyData), as = [z] ∧ seqOf s z = some (b, ds) ∧ Q (.nw ds)
theorem CbOk.list : CbOk K (rListOf K) fList := by
  constructor
  intro H0 Hs P A s av σ H xs as Q R r h ⟨z, b, ds, e, e2, q⟩ k
  subst e
  obtain ⟨x, rfl, v, n⟩ := h.one
  obtain ⟨a, us, rfl, hA, hd⟩ := v.seq r e2
  refine ⟨a, us, rfl, ?_, fun l hl => k _ _ _ (My.Same.new hl) (VRel.lst r hl hd) (by simp) q⟩
  cases b with
  | true => exact .inl hA
  | false => exact .inr hA
def fTuple : FN := fun s as Q => ∃ (z : Sl) (b : Bool) (ds : List PyData), as = [z] ∧ seqOf s z = some (b, ds) ∧ Q (.d (.tuple ds))
theorem CbOk.tuple : CbOk K (rTupleOf K) fTuple := by
  constructor
  intro H0 Hs P A s av σ H xs as Q R r h ⟨z, b, ds, e, e2, q⟩ k
  subst e
  obtain ⟨x, rfl, v, n⟩ := h.one
  obtain ⟨a, us, rfl, hA, hd⟩ := v.seq r e2
  refine ⟨a, us, rfl, ?_⟩
  cases b with
  | true => exact .inl ⟨hA, fun l hl => k _ _ _ (My.Same.new hl) (VRel.tup r hl hd) (by simp) q⟩
  | false => exact .inr ⟨hA, k _ _ H (Same.refl _) (VRel.vd (v.dat (seqT_dat e2))) (by simp) q⟩
def fSum (l : Bool) : FN := fun s as Q => ∃ (z : Sl) (ns : List Int), as = [z] ∧ seqOf s z = some (l, ns.map PyData.int) ∧ Q (.d (.int ns.sum))
def fMin : FN := fun s as Q => ∃ (z : Sl) (ns : List Int) (m : Int), as = [z] ∧ seqOf s z = some (true, ns.map PyData.int) ∧ m ∈ ns ∧ (∀ y ∈ ns, m ≤ y) ∧ Q (.d (.int m))
def fMax : FN := fun s as Q => ∃ (z : Sl) (ns : List Int) (m : Int), as = [z] ∧ seqOf s z = some (true, ns.map PyData.int) ∧ m ∈ ns ∧ (∀ y ∈ ns, y ≤ m) ∧ Q (.d (.int m))
def fMaxT : FN := fun s as Q => ∃ (z : Sl) (n : Int) (ns : List Int), as = [z] ∧ seqOf s z = some (false, (n :: ns).map PyData.int) ∧ Q (.d (.int (ns.foldl max n)))
def fMinT : FN := fun s as Q => ∃ (z : Sl) (n : Int) (ns : List Int), as = [z] ∧ seqOf s z = some (false, (n :: ns).map PyData.int) ∧ Q (.d (.int (ns.foldl min n)))
def fMin2 : FN := fun _ as Q => match as with
  | [.d (.int i), .d (.int j)] => Q (.d (.int (if j < i then j else i)))
  | _ => False
def fMax2 : FN := fun _ as Q => match as with
  | [.d (.int i), .d (.int j)] => Q (.d (.int (if j > i then j else i)))
  | _ => False
def fInt : FN := fun _ as Q => match as with
  | [.d (.int i)] => Q (.d (.int i))
  | [.d (.bool b)] => Q (.d (.int (if b then 1 else 0)))
  | _ => False
theorem CbOk.int : CbOk K (fun xs H Q => (∃ i, xs = [.int i] ∧ Q (.int i) H) ∨ ∃ k, xs = [.bl k] ∧ Q (.int (if k then 1 else 0)) H) fInt := by
  constructor
  intro H0 Hs P A s av σ H xs as Q R r h q k
  unfold fInt at q
  split at q
  · exact .inl ⟨_, h.int1, k _ _ H (Same.refl _) (VRel.vint _) (by simp) q⟩
  · obtain ⟨x, rfl, v, _⟩ := h.one
    cases v
    exact .inr ⟨_, rfl, k _ _ H (Same.refl _) (VRel.vint _) (by simp) q⟩
  · exact q.elim
def fAll : FN := fun s as Q => ∃ (z : Sl) (bs : List Bool), as = [z] ∧ seqOf s z = some (true, bs.map PyData.bool) ∧ Q (.d (.bool (bs.all id)))
def fAny : FN := fun s as Q => ∃ (z : Sl) (bs : List Bool), as = [z] ∧ seqOf s z = some (true, bs.map PyData.bool) ∧ Q (.d (.bool (bs.any id)))
theorem bools_vOf {bs : List Bool} : (bs.map PyData.bool).map vOf = bs.map V.bl := by rw [List.map_map]; rfl
theorem CbOk.all : CbOk K (rAll K) fAll := by
  constructor
  intro H0 Hs P A s av σ H xs as Q R r h ⟨z, bs, e, e2, q⟩ k
  subst e
  obtain ⟨x, rfl, v, _⟩ := h.one
  obtain ⟨a, us, rfl, hA, hd⟩ := v.lseq r e2
  rw [(DqAll.flat hd bools_flat).1, bools_vOf] at hA
  exact ⟨a, bs, rfl, hA, k _ _ H (Same.refl _) (VRel.vbl _) (by simp) q⟩
theorem CbOk.any : CbOk K (rAny K) fAny := by
  constructor
  intro H0 Hs P A s av σ H xs as Q R r h ⟨z, bs, e, e2, q⟩ k
  subst e
  obtain ⟨x, rfl, v, _⟩ := h.one
  obtain ⟨a, us, rfl, hA, hd⟩ := v.lseq r e2
  rw [(DqAll.flat hd bools_flat).1, bools_vOf] at hA
  exact ⟨a, bs, rfl, hA, k _ _ H (Same.refl _) (VRel.vbl _) (by simp) q⟩
/-- sorted: a list, a tuple of numbers -/
def fSorted (l : Bool) : FN := fun s as Q => ∃ (z : Sl) (ns : List Int), as = [z] ∧ seqOf s z = some (l, ns.map PyData.int) ∧ ns.length < 64 ∧ ∀ ns' : List Int, ns'.Perm ns → ns'.Pairwise (· ≤ ·) → Q (.nw (ns'.map PyData.int))
theorem ints_dq {H : Hp} {ns : List Int} : DqAll K H (ns.map V.int) (ns.map PyData.int) := by
  induction ns with
  | nil => exact .nil
  | cons n ns ih => exact .cons (.int n) ih
theorem CbOk.sorted : CbOk K (rSorted K) (fSorted true) := by
  constructor
  intro H0 Hs P A s av σ H xs as Q R r h ⟨z, ns, e, e2, hl, q⟩ k
  subst e
  obtain ⟨x, rfl, v, _⟩ := h.one
  obtain ⟨a, us, rfl, hA, hd⟩ := v.lseq r e2
  rw [hd.intsV] at hA
  exact ⟨a, ns, rfl, hA, hl, fun ns' p h1 h2 hp => k _ _ _ (My.Same.new hp) (VRel.lst r hp ints_dq) (by simp) (q ns' h1 h2)⟩
/-- repr of data -/
def fRepr : FN := fun s as Q => ∃ (z : Sl) (d : PyData), as = [z] ∧ datOf z = some d ∧ d.showable = true ∧ d.depth ≤ 60 ∧ d.shown.length ≤ sizeLine ∧ Q (.d (.str d.shown))
/-- isinstance -/
def kindS (s : PSt) : Sl → Option Kd
  | .d e => some (kd e)
  | .pl _ => some .tup
  | .kt _ => some .tup
  | .dl _ _ => some .tup
  | .nd _ => none
  | .dd _ => none
  | .di _ => none
  | .ob i => match s.θ[i]? with
    | some (.lst _) => some .lst
    | _ => none
  | _ => some .lst
theorem VRel.kind {H0 Hs : Hp} {P : Option (Addr × Addr)} {A : List Addr} {s : PSt} {av : List Addr} {σ : L2.St} {H : Hp} {x : V} {z : Sl} (r : Rl K H0 Hs P A s av σ H) (h : VRel K Hs av A P H x z) (n : z ≠ .no) : ∀ {k : Kd}, kindS s z = some k → Knd K H x k := by
  intro k ek
  cases z with
  | no => exact absurd rfl n
  | d e => cases ek; exact Dq.knd (Dq.same wos_le h)
  | nw ds => cases ek; obtain ⟨a, us, rfl, _, e, _⟩ := h; exact sql_knd (SqL.of e)
  | l ds => cases ek; obtain ⟨a, us, rfl, e, _⟩ := h; exact sql_knd (SqL.of (wos_le _ _ e))
  | ob i =>
    obtain ⟨a, e, rfl⟩ := h
    unfold kindS at ek
    dsimp only at ek
    split at ek
    · rename_i ds e2
      cases ek
      obtain ⟨us, e, _⟩ := r.lobs e e2
      exact sql_knd (SqL.of e)
    · cases ek
  | pen =>
    cases ek
    obtain ⟨p, c, e, rfl⟩ := h
    obtain ⟨xs, i, l, e2, _⟩ := (r.pen p c e).1
    exact sql_knd (SqL.of e2)
  | pl ns => cases ek; exact Dq.knd (Dq.same wos_le (h.dat (z := .pl ns) rfl))
  | kt ns => cases ek; exact Dq.knd (Dq.same wos_le (h.dat (z := .kt ns) rfl))
  | dl rs ss => cases ek; exact Dq.knd (Dq.same wos_le (h.dat (z := .dl rs ss) rfl))
  | _ => cases ek
def kindC (s : PSt) (z : Sl) (Q : Kd → Prop) : Prop := match kindS s z with
  | some k => Q k
  | none => False
def pIsi (c : Kd) (p : PE1) : PE1 := fun s Q => p s fun z s1 => kindC s1 z fun k => Q (.d (.bool (k.is c))) s1
def pIsi2 (c e : Kd) (p : PE1) : PE1 := fun s Q => p s fun z s1 => kindC s1 z fun k => Q (.d (.bool (k.is c || k.is e))) s1
/-- list(range(..)), tuple(range(..)) -/
abbrev PR1 := PSt → (Int → Int → PSt → Prop) → Prop
def pRg1 (p : PE1) : PR1 := fun s Q => p s fun z s1 => ∃ n, z = .d (.int n) ∧ Q 0 n s1
def pRg2 (p q : PE1) : PR1 := fun s Q => p s fun z s1 => q s1 fun y s2 => ∃ i j, z = .d (.int i) ∧ y = .d (.int j) ∧ Q i j s2
def pLstRg (p : PR1) : PE1 := fun s Q => p s fun i j s1 => (-1000000 ≤ i ∧ i ≤ 1000000 ∧ -1000000 ≤ j ∧ j ≤ 1000000) ∧ Q (.nw (intsFrom i (j - i).toNat)) s1
def pTupRg (p : PR1) : PE1 := fun s Q => p s fun i j s1 => (-1000000 ≤ i ∧ i ≤ 1000000 ∧ -1000000 ≤ j ∧ j ≤ 1000000) ∧ Q (.d (.tuple (intsFrom i (j - i).toNat))) s1
/-! ### own lists change -/
theorem wos_in_put {av : List Addr} {a : Addr} {H : Hp} {o : HO} (h : a ∈ av) : Same (wos av H) (wos av (upd H a o)) := fun b x e => by
  obtain ⟨n, e⟩ := wos_some e
  exact (wos_in n).trans ((upd_ne (show b ≠ a from fun z => n (z ▸ h))).trans e)
theorem nodup_ix {α : Type} {A : List α} {i j : Nat} {a : α} (h : A.Nodup) (e1 : A[i]? = some a) (e2 : A[j]? = some a) : i = j := by
  obtain ⟨h1, g1⟩ := List.getElem?_eq_some_iff.mp e1
  obtain ⟨h2, g2⟩ := List.getElem?_eq_some_iff.mp e2
  have hp := List.pairwise_iff_getElem.mp h
  rcases Nat.lt_trichotomy i j with l | l | l
  · exact absurd (g1.trans g2.symm) (hp i j h1 h2 l)
  · exact l
  · exact absurd (g2.trans g1.symm) (hp j i h2 h1 l)
theorem Rl.putO {H0 Hs : Hp} {P : Option (Addr × Addr)} {A : List Addr} {s : PSt} {av : List Addr} {σ : L2.St} {H : Hp} {j : Nat} {a : Addr} {o : HO} {ob : Ob} (r : Rl K H0 Hs P A s av σ H) (ea : A[j]? = some a) (hd : ObR K (wos av H) a o ob) :
    Rl K H0 Hs P A { s with θ := s.θ.set j ob, m := s.m + 1 } av σ (upd H a o) ∧ Stp P A av s H { s with θ := s.θ.set j ob, m := s.m + 1 } (upd H a o) := by
  have ha : a ∈ A := List.mem_of_getElem? ea
  have hav := (r.sub a ha).1
  have sw : Same (wos av H) (wos av (upd H a o)) := wos_in_put hav
  have npen : ∀ p c, P = some (p, c) → a ≠ p ∧ a ≠ c := fun p c e => by
    obtain ⟨_, _, ⟨o1, e1⟩, o2, e2⟩ := r.pen p c e
    have h0 := (r.sub a ha).2
    exact ⟨fun z => (by rw [z, e1] at h0; cases h0), fun z => (by rw [z, e2] at h0; cases h0)⟩
  refine ⟨{ r with
    avl := fun b hb => by
      by_cases e : b = a
      · rw [e]; exact ⟨o, upd_same, hd.own⟩
      · obtain ⟨w, e1, ow⟩ := r.avl b hb
        exact ⟨w, (upd_ne e).trans e1, ow⟩
    alen := by
      show A.length = (s.θ.set j ob).length
      rw [List.length_set, r.alen]
    obs := fun i b ds e1 e2 => by
      have e2 : (s.θ.set j ob)[i]? = some ds := e2
      by_cases hij : j = i
      · subst hij
        rw [ea] at e1
        cases e1
        have hl : j < s.θ.length := by rw [← r.alen]; exact (List.getElem?_eq_some_iff.mp ea).1
        rw [List.getElem?_set_self hl] at e2
        cases e2
        exact ⟨o, upd_same, hd.same sw⟩
      · rw [List.getElem?_set_ne hij] at e2
        obtain ⟨us, f1, f2⟩ := r.obs i b ds e1 e2
        have nb : b ≠ a := fun z => hij (by
          subst z
          exact nodup_ix r.nd ea e1)
        exact ⟨us, (upd_ne nb).trans f1, f2.same sw⟩
    sl := fun i y e ny => by
      obtain ⟨n2, v, e2, hv⟩ := r.sl i y e ny
      exact ⟨n2, v, e2, hv.same sw⟩
    pen := fun p c e => ⟨Pen.upd (r.pen p c e).1 (npen p c e), (r.pen p c e).2⟩
    fr := fun b o n e => by
      have nb : b ≠ a := fun z => by rw [z, (r.sub a ha).2] at e; cases e
      exact (upd_ne nb).trans (r.fr b o n e)
    dom := fun b e => by
      by_cases nb : b = a
      · rw [nb, upd_same] at e
        cases e
      · rw [upd_ne nb] at e
        exact r.dom b e }, ⟨sw, rfl, Nat.le_succ _, fun e => absurd e (by show s.m + 1 ≠ s.m; omega), fun b o n1 n2 e => (upd_ne (show b ≠ a from fun z => n1 (z ▸ ha))).trans e⟩⟩
theorem Rl.put {H0 Hs : Hp} {P : Option (Addr × Addr)} {A : List Addr} {s : PSt} {av : List Addr} {σ : L2.St} {H : Hp} {j : Nat} {a : Addr} {ws : List V} {es : List PyData} (r : Rl K H0 Hs P A s av σ H) (ea : A[j]? = some a) (hd : DqAll K (wos av H) ws es) :
    Rl K H0 Hs P A { s with θ := s.θ.set j (.lst es), m := s.m + 1 } av σ (upd H a (.lst ws)) ∧ Stp P A av s H { s with θ := s.θ.set j (.lst es), m := s.m + 1 } (upd H a (.lst ws)) := r.putO ea ⟨ws, rfl, hd⟩
/-- the own list in slot i -/
def ownOf (s : PSt) (i : Nat) (Q : Nat → List PyData → Prop) : Prop := match s.ρ[i]? with
  | some (.ob j) => ∃ ds, s.θ[j]? = some (.lst ds) ∧ Q j ds
  | _ => False
theorem ownOf_un {H0 Hs : Hp} {P : Option (Addr × Addr)} {A : List Addr} {s : PSt} {av : List Addr} {σ : L2.St} {H : Hp} {i : Nat} {Q : Nat → List PyData → Prop} (r : Rl K H0 Hs P A s av σ H) (h : ownOf s i Q) : ∃ j ds a us, A[j]? = some a ∧ s.θ[j]? = some (.lst ds) ∧ s.ρ[i]? = some (.ob j) ∧ σ[i]? = some (some (.ref a)) ∧ H a = some (.lst us) ∧ DqAll K (wos av H) us ds ∧ Q j ds := by
  unfold ownOf at h
  split at h
  · rename_i j e
    obtain ⟨ds, e2, q⟩ := h
    obtain ⟨_, v, e3, a, e4, rfl⟩ := r.sl i _ e (by simp)
    obtain ⟨us, e5, hd⟩ := r.lobs e4 e2
    exact ⟨j, ds, a, us, e4, e2, e, e3, e5, hd, q⟩
  · exact h.elim
def upO (s : PSt) (j : Nat) (es : List PyData) : PSt := { s with θ := s.θ.set j (.lst es), m := s.m + 1 }
/-- own dicts change -/
def upD (s : PSt) (j : Nat) (kvs : List (List Int × PyData)) : PSt := { s with θ := s.θ.set j (.dct kvs), m := s.m + 1 }
def isOwn (s : PSt) (i : Nat) : Prop := match s.ρ[i]? with
  | some (.ob j) => match s.θ[j]? with
    | some (.lst _) => True
    | _ => False
  | _ => False
theorem isOwn_un {H0 Hs : Hp} {P : Option (Addr × Addr)} {A : List Addr} {s : PSt} {av : List Addr} {σ : L2.St} {H : Hp} {i : Nat} (r : Rl K H0 Hs P A s av σ H) (h : isOwn s i) : ∃ j a us, s.ρ[i]? = some (.ob j) ∧ A[j]? = some a ∧ σ[i]? = some (some (.ref a)) ∧ H a = some (.lst us) := by
  unfold isOwn at h
  split at h
  · rename_i j e
    obtain ⟨_, v, e3, a, e4, rfl⟩ := r.sl i _ e (by simp)
    split at h
    · rename_i ds e2
      obtain ⟨us, e5, _⟩ := r.lobs e4 e2
      exact ⟨j, a, us, e, e4, e3, e5⟩
    · exact h.elim
  · exact h.elim
def pAppend (i : Nat) (p : PE1) : PE1 := fun s Q => isOwn s i ∧ p s fun z s1 => ∃ d, datOf z = some d ∧ ownOf s1 i fun j ds => ds.length < 10000 ∧ Q (.d .none) (upO s1 j (ds ++ [d]))
theorem own_same {P : Option (Addr × Addr)} {A : List Addr} {s s1 : PSt} {av : List Addr} {H H1 : Hp} {i j j1 : Nat} {a a1 : Addr} (m : Stp P A av s H s1 H1) (e : s.ρ[i]? = some (.ob j)) (e1 : s1.ρ[i]? = some (.ob j1)) (ea : A[j]? = some a) (ea1 : A[j1]? = some a1) : a = a1 := by
  rw [m.rho, e] at e1
  cases e1
  rw [ea] at ea1
  exact Option.some.inj ea1
theorem SE.append {t : TE} {p : PE1} (i : Nat) (h1 : SE K t p) : SE K (tBM K "list" rAppend (tVar i) (tCons t tNil)) (pAppend i p) := by
  constructor
  intro H0 Hs P A s av σ H Q R r ⟨ho, h⟩ k
  obtain ⟨j, a, us, e1, e2, e3, e4⟩ := isOwn_un r ho
  refine ⟨.ref a, e3, .inl ⟨rfl, us, SqL.of e4⟩, ?_⟩
  refine h1.run r h fun x z s1 H1 r1 m1 v1 n1 ⟨d, hz, q⟩ => ?_
  obtain ⟨j1, ds, a1, us1, f1, f2, f3, f4, f5, f6, hl, q⟩ := ownOf_un r1 q
  obtain rfl := own_same m1 e1 f3 e2 f1
  obtain ⟨r2, m2⟩ := r1.put f1 (DqAll.append f6 (.cons (v1.dat hz) .nil))
  exact ⟨a, us1, x, rfl, rfl, f5, by rw [f6.len, sizeLine_eq]; omega, k _ _ _ _ r2 (m1.trans m2) VRel.vnon (by simp) q⟩
def pPop (i : Nat) : PE1 := fun s Q => ownOf s i fun j ds => ∃ es e, ds = es ++ [e] ∧ Q (.d e) (upO s j es)
theorem SE.pop (i : Nat) : SE K (tBM0 K "list" rPop (tVar i)) (pPop i) := by
  constructor
  intro H0 Hs P A s av σ H Q R r h k
  obtain ⟨j, ds, a, us, f1, f2, f3, f4, f5, f6, es, e, rfl, q⟩ := ownOf_un r h
  obtain ⟨ws, v, rfl, hl, g1, g2⟩ := f6.lastV
  refine ⟨.ref a, f4, .inl ⟨rfl, _, SqL.of f5⟩, a, ws ++ [v], v, rfl, rfl, f5, by simp, ?_⟩
  rw [List.dropLast_concat]
  obtain ⟨r2, m2⟩ := r.put f1 g1
  exact k _ _ _ _ r2 m2 (VRel.vd (Dq.same m2.same g2)) (by simp) q
theorem DqAll.erase {H : Hp} : ∀ {us : List V} {ds : List PyData} (n : Nat), DqAll K H us ds → DqAll K H (us.eraseIdx n) (ds.eraseIdx n)
  | _, _, n, .nil => by simp only [List.eraseIdx_nil]; exact .nil
  | _, _, 0, .cons h t => t
  | _, _, n + 1, .cons h t => .cons h (DqAll.erase n t)
def pPopAt (i : Nat) (p : PE1) : PE1 := fun s Q => isOwn s i ∧ p s fun z s1 => ownOf s1 i fun j ds => ∃ n e, z = .d (.int (n : Nat)) ∧ ds.length ≤ 100000 ∧ ds[n]? = some e ∧ Q (.d e) (upO s1 j (ds.eraseIdx n))
end
end My
set_option Elab.async false
set_option linter.all false
set_option maxRecDepth 100000
set_option maxHeartbeats 4000000
namespace My
open PySem PySem.Spec PyProof.Rows L2
/-! ### states without heaps: what defs promise -/
/-- a def that changes nothing -/
def spD (K : PySem.W.Frag) (F : List PyData → (Sl → Prop) → Prop) : L2.Sp := fun vs H Q _ => ∃ (av : List Addr) (ds : List PyData) (Qf : Sl → Prop), AvO av H ∧ DqAll K (wos av H) vs ds ∧ F ds Qf ∧ ∀ x z H', Same H H' → VRel K H av [] none H' x z → z ≠ .no → Qf z → Q x H'
/-- a def that takes from the pen -/
def spP (K : PySem.W.Frag) (G : List PyData → Nat → (Sl → Nat → Prop) → Prop) : L2.Sp := fun vs H Q _ => ∃ (p c : Addr) (k : Nat) (av : List Addr) (ws : List V) (ds : List PyData) (Qf : Sl → Nat → Prop), vs = .ref p :: ws ∧ Pen H p c k ∧ p ∈ av ∧ AvO av H ∧ DqAll K (wos av H) ws ds ∧ G ds k Qf ∧
  ∀ x z k' H', Pen H' p c k' → Same (wo p H) (wo p H') → VRel K H av [] none H' x z → z ≠ .no → Qf z k' → Q x H'
def fD (F : List PyData → (Sl → Prop) → Prop) : FC := fun s as Q => ∃ ds, datsOf as = some ds ∧ F ds fun z => Q z s
def fP (G : List PyData → Nat → (Sl → Nat → Prop) → Prop) : FC := fun s as Q => ∃ r ds, as = .pen :: r ∧ datsOf r = some ds ∧ G ds s.k fun z k' => Q z { s with k := k' }
section
variable {K : PySem.W.Frag} {H0 Hs : Hp} {P : Option (Addr × Addr)} {A : List Addr} {s : PSt} {av : List Addr} {σ : L2.St} {H H' : Hp} {x : V} {z : Sl}
theorem VRel.in_ (d : ∀ b, H b = none → Hs b = none) (h : VRel K H av [] none H' x z) : VRel K Hs av A P H' x z := by
  cases z with
  | no => trivial
  | d e => exact h
  | nw ds =>
    obtain ⟨a, us, rfl, h0, r⟩ := h
    exact ⟨a, us, rfl, d a h0, r⟩
  | l ds => exact h
  | ob i => obtain ⟨a, e, _⟩ := h; simp at e
  | pen => obtain ⟨p, c, e, _⟩ := h; cases e
  | pl ns => exact h
  | kt ns => exact h
  | dl rs ss => exact h
  | nd kvs =>
    obtain ⟨a, us, rfl, h0, r⟩ := h
    exact ⟨a, us, rfl, d a h0, r⟩
  | dd kvs => exact h
  | di kvs => exact h
theorem ClOk.d {F : List PyData → (Sl → Prop) → Prop} : ClOk K (spD K F) (fD F) := by
  constructor
  intro H0 Hs P A s av σ H xs as Q R r h ⟨ds, e, hf⟩ k
  exact ⟨av, ds, _, r.avl, h.dats e, hf, fun x z H' s' v n q => k x z s H' (r.same s') (r.stp s') (v.in_ r.dom) n q⟩
theorem ClOk.imp {sp sp' : L2.Sp} {f : FC} (o : ClOk K sp' f) (h : ∀ vs H Q, sp' vs H Q E0 → sp vs H Q E0) : ClOk K sp f := ⟨fun r hv hf k => h _ _ _ (o.run r hv hf k)⟩
/-- the pen has moved -/
theorem Rl.took {p c : Addr} {k' : Nat} (r : Rl K H0 Hs (some (p, c)) A s av σ H) (pen : Pen H' p c k') (sm : Same (wo p H) (wo p H')) : Rl K H0 Hs (some (p, c)) A { s with k := k' } av σ H' ∧ Stp (some (p, c)) A av s H { s with k := k' } H' := by
  obtain ⟨pen0, hp, ⟨o1, e1⟩, o2, e2⟩ := r.pen p c rfl
  have sw : Same (wos av H) (wos av H') := My.Same.wos_of hp sm
  have keep : ∀ b o, b ≠ p → H b = some o → H' b = some o := fun b o n e => (wo_some (sm b o ((wo_ne n).trans e))).2
  have na : ∀ a ∈ A, a ≠ p := fun a ha z => by
    have := (r.sub a ha).2
    rw [z, e1] at this
    cases this
  refine ⟨{ r with
    avl := fun b hb => by
      by_cases e : b = p
      · obtain ⟨xs, i, l, e2, _⟩ := pen
        rw [e]
        exact ⟨_, e2, trivial⟩
      · obtain ⟨w, e1, ow⟩ := r.avl b hb
        exact ⟨w, keep b _ e e1, ow⟩
    obs := fun i a ds f1 f2 => by
      obtain ⟨us, e, hd⟩ := r.obs i a ds f1 f2
      exact ⟨us, keep a _ (na a (List.mem_of_getElem? f1)) e, hd.same sw⟩
    sl := fun i y e ny => by
      obtain ⟨n2, v, e2, hv⟩ := r.sl i y e ny
      exact ⟨n2, v, e2, hv.same sw⟩
    pen := fun p' c' e => by
      cases e
      exact ⟨pen, hp, ⟨o1, e1⟩, o2, e2⟩
    fr := fun b o n e => keep b o (n p c rfl) (r.fr b o n e)
    dom := fun b e => by
      by_cases n : b = p
      · obtain ⟨o, eo⟩ := pen.at
        rw [n, eo] at e
        cases e
      · refine r.dom b ?_
        cases e3 : H b with
        | none => rfl
        | some o => rw [keep b o n e3] at e; cases e }, ⟨sw, rfl, Nat.le_refl _, fun _ => ⟨rfl, fun a ha => ?_⟩, fun b o n1 n2 e => keep b o (n2 p c rfl) e⟩⟩
  obtain ⟨us, e⟩ := r.here ha
  rw [e, keep a _ (na a ha) e]
theorem ClOk.p {G : List PyData → Nat → (Sl → Nat → Prop) → Prop} : ClOk K (spP K G) (fP G) := by
  constructor
  intro H0 Hs P A s av σ H xs as Q R r h ⟨rs, ds, e, e2, hf⟩ k
  subst e
  cases h with
  | cons hx n hr =>
  obtain ⟨p, c, rfl, rfl⟩ := hx
  obtain ⟨pen, hp, _⟩ := r.pen p c rfl
  refine ⟨p, c, s.k, av, _, ds, _, rfl, pen, hp, r.avl, hr.dats e2, hf, fun x z k' H' pen' sm v n q => ?_⟩
  obtain ⟨r2, m2⟩ := r.took pen' sm
  exact k x z _ H' r2 m2 (v.in_ r.dom) n q
/-- an own list told is new -/
def retP (Q : Sl → Nat → Prop) (z : Sl) (s : PSt) : Prop := match z with
  | .ob j => match s.θ[j]? with
    | some (.lst ds) => Q (.nw ds) s.k
    | some (.dct kvs) => Q (.nd kvs) s.k
    | none => False
  | .pen => False
  | z => Q z s.k
theorem ret_rel {vs : List V} {A' : List Addr} {s' : PSt} {av' : List Addr} {σ' : L2.St} {Hz : Hp} {Q : Sl → Nat → Prop} (r : Rl K H Hz P A' s' av' σ' H') (g : ∀ b ∈ av, b ∈ av') (hL : AvO av H) (v : VRel K H av' A' P H' x z) (n : z ≠ .no) (q : retP Q z s') : ∃ z', VRel K H av [] none H' x z' ∧ z' ≠ .no ∧ Q z' s'.k := by
  cases z with
  | no => exact absurd rfl n
  | d e => exact ⟨.d e, Dq.same (wos_sub2 g) v, by simp, q⟩
  | l ds =>
    obtain ⟨a, us, rfl, e, hd⟩ := v
    exact ⟨.l ds, ⟨a, us, rfl, wos_sub2 g _ _ e, DqAll.same (wos_sub2 g) hd⟩, by simp, q⟩
  | nw ds =>
    obtain ⟨a, us, rfl, h0, e, na, hd⟩ := v
    refine ⟨.nw ds, ⟨a, us, rfl, h0, e, fun h => na (g a h), DqAll.same (wos_sub2 fun b hb => ?_) hd⟩, by simp, q⟩
    rcases List.mem_cons.mp hb with rfl | hb
    · exact List.mem_cons_self
    · exact List.mem_cons_of_mem _ (g b hb)
  | ob j =>
    obtain ⟨a, ea, rfl⟩ := v
    have hs := r.sub a (List.mem_of_getElem? ea)
    have na : a ∉ av := fun h => by
      obtain ⟨w, e3, _⟩ := hL a h
      rw [hs.2] at e3
      cases e3
    have gg : ∀ b ∈ a :: av, b ∈ av' := fun b hb => by
      rcases List.mem_cons.mp hb with rfl | hb
      · exact hs.1
      · exact g b hb
    unfold retP at q
    dsimp only at q
    split at q
    · rename_i ds e2
      obtain ⟨us, e, hd⟩ := r.lobs ea e2
      exact ⟨.nw ds, ⟨a, us, rfl, hs.2, e, na, DqAll.same (wos_sub2 gg) hd⟩, by simp, q⟩
    · rename_i kvs e2
      obtain ⟨_, e, es, rfl, hd⟩ := r.obs j a _ ea e2
      exact ⟨.nd kvs, ⟨a, es, rfl, hs.2, e, na, hd.same (wos_sub2 gg)⟩, by simp, q⟩
    · exact q.elim
  | pen => exact q.elim
  | pl ns =>
    obtain ⟨a, rfl, h⟩ := v
    exact ⟨.pl ns, ⟨a, rfl, h.same (wos_sub2 g)⟩, by simp, q⟩
  | kt ns =>
    obtain ⟨a, rfl, h⟩ := v
    exact ⟨.kt ns, ⟨a, rfl, wos_sub2 g _ _ h⟩, by simp, q⟩
  | dl rs ss =>
    obtain ⟨a, rfl, h⟩ := v
    exact ⟨.dl rs ss, ⟨a, rfl, h.same (wos_sub2 g)⟩, by simp, q⟩
  | nd kvs =>
    obtain ⟨a, us, rfl, h0, e, na, hd⟩ := v
    refine ⟨.nd kvs, ⟨a, us, rfl, h0, e, fun h => na (g a h), hd.same (wos_sub2 fun b hb => ?_)⟩, by simp, q⟩
    rcases List.mem_cons.mp hb with rfl | hb
    · exact List.mem_cons_self
    · exact List.mem_cons_of_mem _ (g b hb)
  | dd kvs =>
    obtain ⟨a, es, rfl, e, hd⟩ := v
    exact ⟨.dd kvs, ⟨a, es, rfl, wos_sub2 g _ _ e, hd.same (wos_sub2 g)⟩, by simp, q⟩
  | di kvs =>
    obtain ⟨a, rfl, e⟩ := v
    exact ⟨.di kvs, ⟨a, rfl, wos_sub2 g _ _ e⟩, by simp, q⟩
theorem Rl.first {vs : List V} {ds : List PyData} {n : Nat} (hL : AvO av H) (hd : DqAll K (wos av H) vs ds) : Rl K H H none [] ⟨ds.map Sl.d ++ List.replicate n .no, [], 0, 0⟩ av (vs.map some ++ List.replicate n none) H where
  avl := hL
  len := by
    show (ds.map Sl.d ++ List.replicate n Sl.no).length = _
    rw [List.length_append, List.length_append, List.length_map, List.length_map, List.length_replicate, List.length_replicate, hd.len]
  alen := rfl
  nd := List.nodup_nil
  sub := fun a ha => by simp at ha
  obs := fun i a ds e => by simp at e
  sl := fun i z e nz => by
    have e : (ds.map Sl.d ++ List.replicate n Sl.no)[i]? = some z := e
    by_cases hi : i < ds.length
    · rw [List.getElem?_append_left (by rw [List.length_map]; exact hi), List.getElem?_map] at e
      obtain ⟨d, ed⟩ : ∃ d, ds[i]? = some d := ⟨_, List.getElem?_eq_getElem hi⟩
      rw [ed] at e
      cases e
      obtain ⟨v, ev, hv⟩ := dq_at hd ed
      refine ⟨by simp, v, ?_, hv⟩
      rw [List.getElem?_append_left (by rw [List.length_map, hd.len]; exact hi), List.getElem?_map, ev]
      rfl
    · rw [List.getElem?_append_right (by rw [List.length_map]; omega), List.getElem?_replicate] at e
      split at e
      · cases e
        exact absurd rfl nz
      · cases e
  pen := fun p c e => by cases e
  fr := fun b o _ e => e
  dom0 := fun b e => e
  dom := fun b e => e
end
/-- THE RULE: a body's reading without heaps -/
theorem SS.fn {K : PySem.W.Frag} {t : TS} {p : PS1} (h : SS K t p) {N : List Str} {vs : List V} {H : Hp} {Q : VK} {F : List PyData → (Sl → Prop) → Prop} (m : Nat) (hm : N.length = m) (hsp : spD K F vs H Q E0)
    (hp : ∀ ds Qf, ds.length = vs.length → F ds Qf → p { nx := fun s => Qf (.d .none), rt := retP fun z _ => Qf z } ⟨ds.map Sl.d ++ List.replicate (m - ds.length) .no, [], 0, 0⟩) : t { nx := fun _ H' => Q .non H', rt := Q } (start N vs) H := by
  obtain ⟨av, ds, Qf, hL, hd, hf, q⟩ := hsp
  subst hm
  have r := Rl.first (n := N.length - vs.length) hL hd
  have hp := hp ds Qf hd.len.symm hf
  rw [← hd.len] at hp
  have fr : ∀ {A' s' av' σ' H' Hz}, Rl K H Hz none A' s' av' σ' H' → Same H H' := fun r' b o e => r'.fr b o (fun _ _ e => by cases e) e
  refine h.run r hp ⟨fun A' s' av' σ' H' r' g q' => q _ _ H' (fr r') VRel.vnon (by simp) q', fun A' s' av' σ' H' x z r' g v n q' => ?_, fun _ _ _ _ _ _ _ q => q.elim, fun _ _ _ _ _ _ _ q => q.elim⟩
  obtain ⟨z', v', n', q'⟩ := ret_rel (vs := vs) (Q := fun z _ => Qf z) r' g.sub hL v n q'
  exact q x z' H' (fr r') v' n' q'
end My
set_option Elab.async false
set_option linter.all false
set_option maxRecDepth 100000
set_option maxHeartbeats 4000000
namespace My
open PySem PySem.Spec PyProof.Rows L2
/-! ### states without heaps: more operators -/
section
variable {K : PySem.W.Frag}
/-- the list's record is the plain one -/
def lstOf (s : PSt) : Sl → Option (List PyData)
  | .nw ds => some ds
  | .l ds => some ds
  | .ob i => lstAt s.θ i
  | _ => none
theorem VRel.plst {H0 Hs : Hp} {P : Option (Addr × Addr)} {A : List Addr} {s : PSt} {av : List Addr} {σ : L2.St} {H : Hp} {x : V} {z : Sl} {ds : List PyData} (r : Rl K H0 Hs P A s av σ H) (h : VRel K Hs av A P H x z) (e : lstOf s z = some ds) : ∃ a us, x = .ref a ∧ H a = some (.lst us) ∧ DqAll K (wos av H) us ds := by
  cases z with
  | nw es =>
    cases e
    obtain ⟨a, us, rfl, _, e, _, hd⟩ := h
    exact ⟨a, us, rfl, e, DqAll.same wos_less hd⟩
  | l es =>
    cases e
    obtain ⟨a, us, rfl, e, hd⟩ := h
    exact ⟨a, us, rfl, wos_le _ _ e, hd⟩
  | ob i =>
    obtain ⟨a, ea, rfl⟩ := h
    obtain ⟨us, e1, hd⟩ := r.lobs ea (lstAt_some e)
    exact ⟨a, us, rfl, e1, hd⟩
  | _ => cases e
def fCatL : F2 := fun s a b Q => ∃ ds es, lstOf s a = some ds ∧ lstOf s b = some es ∧ ds.length + es.length ≤ 10000 ∧ Q (.nw (ds ++ es))
theorem OpOk.catL : OpOk K rCat fCatL := by
  constructor
  intro H0 Hs P A s av σ H x y a b Q R r hx nx hy ny ⟨ds, es, h1, h2, hl, q⟩ k
  obtain ⟨p, us, rfl, hA, hd⟩ := hx.plst r h1
  obtain ⟨p2, ws, rfl, hB, he⟩ := hy.plst r h2
  exact ⟨p, p2, us, ws, rfl, rfl, hA, hB, by rw [hd.len, he.len]; exact smallN hl, fun c hc => k _ _ _ (My.Same.new hc) (VRel.lst r hc (DqAll.append hd he)) (by simp) q⟩
theorem DqAll.flatten {H : Hp} : ∀ {n : Nat} {us : List V} {ds : List PyData}, DqAll K H us ds → DqAll K H (List.replicate n us).flatten (List.replicate n ds).flatten
  | 0, _, _, _ => .nil
  | n + 1, us, ds, h => by
    rw [List.replicate_succ, List.replicate_succ, List.flatten_cons, List.flatten_cons]
    exact DqAll.append h (DqAll.flatten h)
def fRepL : F2 := fun s a b Q => ∃ ds k, lstOf s a = some ds ∧ b = .d (.int k) ∧ (-1000000 ≤ k ∧ k ≤ 1000000) ∧ ds.length * k.toNat ≤ 10000 ∧ Q (.nw (List.replicate k.toNat ds).flatten)
def fRepT : F2 := fun s a b Q => ∃ ds k, seqOf s a = some (false, ds) ∧ b = .d (.int k) ∧ ds ≠ [] ∧ 1 ≤ k ∧ k ≤ 1000 ∧ ds.length ≤ 1000 ∧ Q (.d (.tuple (List.replicate k.toNat ds).flatten))
/-- < of numbers, of tuples of numbers -/
def fLtT : F2 := fun s a b Q => ∃ ns ms : List Int, seqOf s a = some (false, ns.map PyData.int) ∧ seqOf s b = some (false, ms.map PyData.int) ∧ Q (.d (.bool (HT.lexLt ns ms)))
def fLtU : F2 := fun s a b Q => fLt s a b Q ∨ fLtT s a b Q
def fNeg : F1 := fun _ a Q => match a with
  | .d (.int i) => Q (.d (.int (-i)))
  | _ => False
theorem UnOk.neg : UnOk K (rU fun i => .int (-i)) fNeg := by
  constructor
  intro H0 Hs P A s av σ H x a Q R r hx nx h k
  unfold fNeg at h
  split at h
  · cases hx
    exact ⟨_, rfl, k _ _ H (Same.refl _) (VRel.vint _) (by simp) h⟩
  · exact h.elim
/-- x[::-1] -/
def pBackT (p : PE1) : PE1 := fun s Q => p s fun z s1 => ∃ ds, seqOf s1 z = some (false, ds) ∧ Q (.d (.tuple ds.reverse)) s1
def pBackL (p : PE1) : PE1 := fun s Q => p s fun z s1 => ∃ ds, seqOf s1 z = some (true, ds) ∧ Q (.nw ds.reverse) s1
theorem SE.backL {t : TE} {p : PE1} (h1 : SE K t p) : SE K (tRevL K t) (pBackL p) := by
  constructor
  intro H0 Hs P A s av σ H Q R r h k
  refine h1.run r h fun x z s1 H1 r1 m1 v1 n1 ⟨ds, e, q⟩ => ?_
  obtain ⟨a, us, rfl, hA, hd⟩ := v1.lseq r1 e
  exact ⟨a, us, rfl, hA, fun c hc => k _ _ s1 _ (r1.alloc hc).1 (m1.trans (r1.alloc (o := .lst us.reverse) hc).2) (VRel.lst r1 hc (DqAll.reverse hd)) (by simp) q⟩
/-- x.extend(y), y a list; y a tuple -/
def pExtend (i : Nat) (l : Bool) (p : PE1) : PE1 := fun s Q => isOwn s i ∧ p s fun z s1 => ∃ es, (if l then lstOf s1 z else (seqOf s1 z).bind fun q => if q.1 then none else some q.2) = some es ∧ ownOf s1 i fun j ds => ds.length + es.length ≤ 10000 ∧ Q (.d .none) (upO s1 j (ds ++ es))
/-- found[k] = .. -/
def pSetIx (i : Nat) (p q : PE1) : PS1 := fun D s => p s fun z s1 => isOwn s1 i ∧ q s1 fun y s2 => ∃ d, datOf z = some d ∧ ownOf s2 i fun j ds => ∃ n : Nat, y = .d (.int n) ∧ n < ds.length ∧ D.nx (upO s2 j (ds.set n d))
/-- x + y of texts -/
def fAddS : F2 := fun _ a b Q => match a, b with
  | .d (.str x), .d (.str y) => x.length + y.length ≤ sizeLine ∧ Q (.d (.str (x ++ y)))
  | _, _ => False
def fStrI : FN := fun _ as Q => ∃ i : Int, as = [.d (.int i)] ∧ i.natAbs.log2 < 1920 ∧ Q (.d (.str (toString i)))
/-- sep.join(list of texts) -/
def pJoin (p q : PE1) : PE1 := fun s Q => p s fun z s1 => ∃ a : Str, z = .d (.str a) ∧ q s1 fun y s2 => ∃ (b : Bool) (ys : List Str), seqOf s2 y = some (b, ys.map PyData.str) ∧ (ys.map (·.length)).sum + ys.length * a.length ≤ 16777216 ∧ Q (.d (.str (Txt.join a ys))) s2
theorem strs_flat {ys : List Str} : (ys.map PyData.str).all flatD = true := by rw [List.all_map, List.all_eq_true]; exact fun _ _ => rfl
theorem strs_vOf {ys : List Str} : (ys.map PyData.str).map vOf = ys.map V.str := by rw [List.map_map]; rfl
theorem SE.join {t u : TE} {p q : PE1} (h1 : SE K t p) (h2 : SE K u q) : SE K (tM1 (fun x xs H Q => ∃ a p, ∃ ys : List Str, x = .str a ∧ xs = [.ref p] ∧ (SqL K H p (ys.map V.str) ∨ SqT K H p (ys.map V.str)) ∧ (ys.map (·.length)).sum + ys.length * a.length ≤ 16777216 ∧ Q (.str (Txt.join a ys)) H) t u) (pJoin p q) := by
  constructor
  intro H0 Hs P A s av σ H Q R r h k
  refine h1.run r h fun x z s1 H1 r1 m1 v1 n1 ⟨a, e, q⟩ => ?_
  subst e
  cases v1
  refine ⟨⟨_, rfl⟩, h2.run r1 q fun y w s2 H2 r2 m2 v2 n2 ⟨b, ys, e2, hl, q⟩ => ?_⟩
  obtain ⟨c, us, rfl, hA, hd⟩ := v2.seq r2 e2
  rw [(DqAll.flat hd strs_flat).1, strs_vOf] at hA
  refine ⟨a, c, ys, rfl, rfl, ?_, hl, k _ _ s2 H2 r2 (m1.trans m2) (VRel.vstr _) (by simp) q⟩
  cases b with
  | true => exact .inl hA
  | false => exact .inr hA
theorem strs_dq {H : Hp} {ys : List Str} : DqAll K H (ys.map V.str) (ys.map PyData.str) := by
  induction ys with
  | nil => exact .nil
  | cons n ns ih => exact .cons (.str n) ih
def pSplit (p q : PE1) : PE1 := fun s Q => p s fun z s1 => ∃ a : Str, z = .d (.str a) ∧ q s1 fun y s2 => ∃ b : Str, y = .d (.str b) ∧ (b.length == 0) = false ∧ a.length + 2 ≤ sizeLine ∧ Q (.nw ((Txt.split a b).map PyData.str)) s2
theorem SE.split {t u : TE} {p q : PE1} (h1 : SE K t p) (h2 : SE K u q) : SE K (tM1 (fun x xs H Q => ∃ a b, x = .str a ∧ xs = [.str b] ∧ (b.length == 0) = false ∧ a.length + 2 ≤ sizeLine ∧ rNewStrs (Txt.split a b) H Q) t u) (pSplit p q) := by
  constructor
  intro H0 Hs P A s av σ H Q R r h k
  refine h1.run r h fun x z s1 H1 r1 m1 v1 n1 ⟨a, e, q⟩ => ?_
  subst e
  cases v1
  refine ⟨⟨_, rfl⟩, h2.run r1 q fun y w s2 H2 r2 m2 v2 n2 ⟨b, e2, hb, hl, q⟩ => ?_⟩
  subst e2
  cases v2
  exact ⟨a, b, rfl, rfl, hb, hl, fun c hc => k _ _ s2 _ (r2.alloc hc).1 ((m1.trans m2).trans (r2.alloc hc).2) (VRel.lst r2 hc strs_dq) (by simp) q⟩
def pEndsw (p q : PE1) : PE1 := fun s Q => p s fun z s1 => ∃ a : Str, z = .d (.str a) ∧ q s1 fun y s2 => ∃ b : Str, y = .d (.str b) ∧ Q (.d (.bool (Txt.endswith a b))) s2
end
end My
set_option Elab.async false
set_option linter.all false
set_option maxRecDepth 100000
set_option maxHeartbeats 4000000
namespace My
open PySem PySem.Spec PyProof.Rows L2
/-! ### states without heaps: the old promises -/
mutual
def noLD : PyData → Bool
  | .list _ => false
  | .dict _ => false
  | .tuple ds => noLDs ds
  | _ => true
def noLDs : List PyData → Bool
  | [] => true
  | d :: ds => noLD d && noLDs ds
end
mutual
theorem Dq.noLX {K : PySem.W.Frag} {H : Hp} {av : List Addr} (hL : AvO av H) : ∀ {d : PyData} {x : V}, Dq K H x d → noLD d = true → Dq K (wos av H) x d
  | _, _, .non, _ => .non
  | _, _, .bl b, _ => .bl b
  | _, _, .int i, _ => .int i
  | _, _, .str s, _ => .str s
  | _, _, .lst _ _, h => by simp [noLD] at h
  | _, _, .tup hT hs, h => .tup (AvO.sqt hL hT) (DqAll.noLX hL hs (by simpa only [noLD] using h))
  | _, _, .dct _, h => by simp [noLD] at h
theorem DqAll.noLX {K : PySem.W.Frag} {H : Hp} {av : List Addr} (hL : AvO av H) : ∀ {ds : List PyData} {xs : List V}, DqAll K H xs ds → noLDs ds = true → DqAll K (wos av H) xs ds
  | _, _, .nil, _ => .nil
  | _, _, .cons h1 h2, h => .cons (Dq.noLX hL h1 (by simp only [noLDs, Bool.and_eq_true] at h; exact h.1)) (DqAll.noLX hL h2 (by simp only [noLDs, Bool.and_eq_true] at h; exact h.2))
end
theorem Dq.noL {K : PySem.W.Frag} {H : Hp} {av : List Addr} {x : V} {d : PyData} (hL : AvO av H) (h : noLD d = true) (hd : Dq K H x d) : Dq K (wos av H) x d := Dq.noLX hL hd h
theorem noLDs_ints (ns : List Int) : noLDs (ns.map PyData.int) = true := by
  induction ns with
  | nil => rfl
  | cons n ns ih => simp only [List.map_cons, noLDs, noLD, ih]; rfl
theorem noLD_tI (ns : List Int) : noLD (tI ns) = true := by unfold tI; simp only [noLD, noLDs_ints]
theorem noLDs_map {α : Type} {f : α → PyData} {l : List α} (h : ∀ a ∈ l, noLD (f a) = true) : noLDs (l.map f) = true := by
  induction l with
  | nil => rfl
  | cons a l ih =>
    simp only [List.map_cons, noLDs, Bool.and_eq_true]
    exact ⟨h a List.mem_cons_self, ih fun b hb => h b (List.mem_cons_of_mem _ hb)⟩
theorem noLD_web (n : Int) (T : List (Int × Int)) : noLD (webD n T) = true := by
  unfold webD
  simp only [noLD, noLDs, noLDs_map (f := fun t => tI (prI t)) (l := T) fun t _ => noLD_tI _]
  rfl
section
variable {K : PySem.W.Frag}
/-- a promise that tells a flat value -/
def fFlat (pre : List PyData → PyData → Prop) : FC := fun s as Q => ∃ ds r, datsOf as = some ds ∧ pre ds r ∧ flatD r = true ∧ Q (.d r) s
theorem vOf_dq {H : Hp} {r : PyData} (f : flatD r = true) : Dq K H (vOf r) r := by
  cases r <;> first | exact .non | exact .bl _ | exact .int _ | exact .str _ | cases f
theorem ClOk.flat {sp : L2.Sp} {pre : List PyData → PyData → Prop} (h : ∀ vs ds r H Q, DqAll K H vs ds → pre ds r → (∀ H', Same H H' → Q (vOf r) H') → sp vs H Q E0) : ClOk K sp (fFlat pre) := by
  constructor
  intro H0 Hs P A s av σ H xs as Q R r hv ⟨ds, e, h1, h2, h3, q⟩ k
  exact h xs ds e H R (DqAll.same wos_le (hv.dats h1)) h2 fun H' s' => k _ _ s H' (r.same s') (r.stp s') (VRel.vd (vOf_dq h3)) (by simp) q
/-- a promise that tells data without lists -/
def fData (pre : List PyData → PyData → Prop) : FC := fun s as Q => ∃ ds, datsOf as = some ds ∧ (∃ r, pre ds r) ∧ ∀ r, pre ds r → noLD r = true ∧ Q (.d r) s
theorem ClOk.data {sp : L2.Sp} {pre : List PyData → PyData → Prop} (h : ∀ vs ds H Q, DqAll K H vs ds → (∃ r, pre ds r) → (∀ r x H', pre ds r → Same H H' → Dq K H' x r → Q x H') → sp vs H Q E0) : ClOk K sp (fData pre) := by
  constructor
  intro H0 Hs P A s av σ H xs as Q R r hv ⟨ds, h1, h2, q⟩ k
  exact h xs ds H R (DqAll.same wos_le (hv.dats h1)) h2 fun d x H' hp s' hx => k x (.d d) s H' (r.same s') (r.stp s') (VRel.vd (Dq.noL (r.avl.same s') (q d hp).1 hx)) (by simp) (q d hp).2
def cPlace (ds : List PyData) (r : PyData) : Prop := ∃ (n : Int) (d : PyData), ds = [.int n, d] ∧ r = .bool (placeD n d)
theorem ClOk.place : ClOk K (spPlace K) (fFlat cPlace) := ClOk.flat fun vs ds r H Q hd ⟨n, d, e, e2⟩ q => by
  subst e e2
  cases hd with
  | cons h t =>
    cases h
    cases t with
    | cons h2 t =>
      cases t
      exact ⟨n, _, d, rfl, h2, q⟩
/-- _law_same: of equal data -/
def cSame (n : Nat) (ds : List PyData) (r : PyData) : Prop := ∃ d, ds = [d, d] ∧ Fit n d ∧ r = .bool true
theorem ClOk.same {n : Nat} : ClOk K (spSame K n) (fFlat (cSame n)) := ClOk.flat fun vs ds r H Q hd ⟨d, e, f, e2⟩ q => by
  subst e e2
  cases hd with
  | cons h t =>
    cases t with
    | cons h2 t =>
      cases t
      exact ⟨_, _, d, rfl, h.dp f, h2.dp f, f, q⟩
/-! ### the pen -/
def fTake : FC := fun s as Q => ∃ m : Int, as = [.pen, .d (.int m)] ∧ s.k ≤ 1000000 ∧ 1 ≤ m ∧ m ≤ 1000000 ∧ ∀ r : Int, 0 ≤ r → r < m → Q (.d (.int r)) { s with k := s.k + 1 }
theorem VRels.pen {Hs : Hp} {P : Option (Addr × Addr)} {A av : List Addr} {H : Hp} {xs : List V} {zs : List Sl} (h : VRels K Hs av A P H xs (.pen :: zs)) : ∃ p c ys, P = some (p, c) ∧ xs = .ref p :: ys ∧ VRels K Hs av A P H ys zs := by
  cases h with
  | cons h n t =>
    obtain ⟨p, c, e, rfl⟩ := h
    exact ⟨p, c, _, e, rfl, t⟩
theorem ClOk.take : ClOk K spTake fTake := by
  constructor
  intro H0 Hs P A s av σ H xs as Q R r hv ⟨m, e, hk, m1, m2, q⟩ k
  subst e
  obtain ⟨p, c, ys, rfl, rfl, hv'⟩ := hv.pen
  obtain ⟨pen, _⟩ := r.pen p c rfl
  have hv1 := VRels.int1 hv'
  subst hv1
  refine ⟨p, c, m, s.k, rfl, pen, hk, m1, m2, fun x H' x0 x1 pen' s' => ?_⟩
  obtain ⟨r2, st2⟩ := r.took pen' s'
  exact k _ _ _ H' r2 st2 (VRel.vint _) (by simp) (q x x0 x1)
/-- one of a list -/
def fOneOf : FC := fun s as Q => ∃ z ds, as = [.pen, z] ∧ gdOf z = none ∧ seqOf s z = some (true, ds) ∧ s.k ≤ 1000000 ∧ 1 ≤ ds.length ∧ ds.length ≤ 100000 ∧ ∀ (j : Nat) (d : PyData), ds[j]? = some d → Q (.d d) { s with k := s.k + 1 }
theorem ClOk.oneOf : ClOk K (spOneOf K) fOneOf := by
  constructor
  intro H0 Hs P A s av σ H xs as Q R r hv ⟨z, ds, e, gz, e2, hk, m1, m2, q⟩ k
  subst e
  obtain ⟨p, c, ys, rfl, rfl, hv'⟩ := hv.pen
  obtain ⟨pen, hp, _⟩ := r.pen p c rfl
  obtain ⟨x, rfl, v, n⟩ := hv'.one
  obtain ⟨a, us, rfl, hA, hd⟩ : ∃ a us, x = .ref a ∧ SqL K (wo p H) a us ∧ DqAll K (wos av H) us ds := by
    cases z with
    | no => cases e2
    | pen => cases e2
    | pl ns => cases e2
    | kt ns => cases e2
    | dl rs ss => cases e2
    | nd kvs => cases e2
    | dd kvs => cases e2
    | di kvs => cases e2
    | d e' =>
      cases e' with
      | list es =>
        cases e2
        obtain ⟨a, us, rfl, hA, hd⟩ := Dq.un_lst v
        exact ⟨a, us, rfl, (wos_wo hp).seq hA, hd⟩
      | tuple es => cases e2
      | _ => cases e2
    | nw es =>
      cases e2
      obtain ⟨a, us, rfl, h0, ea, na, hd⟩ := v
      have nap : a ≠ p := fun e => na (e ▸ hp)
      exact ⟨a, us, rfl, SqL.of ((wo_ne nap).trans ea), DqAll.same wos_less hd⟩
    | l es =>
      cases e2
      obtain ⟨a, us, rfl, ea, hd⟩ := v
      exact ⟨a, us, rfl, SqL.of (wos_wo hp _ _ ea), hd⟩
    | ob i => cases gz
  have hl := hd.len
  refine ⟨p, c, s.k, a, us, rfl, pen, hk, hA, by omega, by omega, fun j y H' ej pen' s' => ?_⟩
  obtain ⟨r2, st2⟩ := r.took pen' s'
  obtain ⟨d, ed, hy⟩ := hd.get ej
  exact k _ _ _ H' r2 st2 (VRel.vd (Dq.same st2.same hy)) (by simp) (q j d ed)
/-- a promise by the pen that tells data without lists -/
def fPen (G : List PyData → Nat → (PyData → Nat → Prop) → Prop) : FC := fun s as Q => ∃ zs ds, as = .pen :: zs ∧ datsOf zs = some ds ∧ G ds s.k fun d k' => noLD d = true ∧ Q (.d d) { s with k := k' }
theorem ClOk.pen {sp : L2.Sp} {G : List PyData → Nat → (PyData → Nat → Prop) → Prop} (h : ∀ p c k vs ds H Q (Qf : PyData → Nat → Prop), Pen H p c k → DqAll K H vs ds → G ds k Qf → (∀ d x k' H', Qf d k' → Pen H' p c k' → Same (wo p H) (wo p H') → Dq K H' x d → Q x H') → sp (.ref p :: vs) H Q E0) : ClOk K sp (fPen G) := by
  constructor
  intro H0 Hs P A s av σ H xs as Q R r hv ⟨zs, ds, e, e2, hg⟩ k
  subst e
  obtain ⟨p, c, ys, rfl, rfl, hv'⟩ := hv.pen
  obtain ⟨pen, _⟩ := r.pen p c rfl
  refine h p c s.k ys ds H R _ pen (DqAll.same wos_le (hv'.dats e2)) hg fun d x k' H' ⟨nl, q⟩ pen' s' hx => ?_
  obtain ⟨r2, st2⟩ := r.took pen' s'
  exact k x (.d d) _ H' r2 st2 (VRel.vd (Dq.noL r2.avl nl hx)) (by simp) q
def gDrawWeb (ds : List PyData) (k : Nat) (Q : PyData → Nat → Prop) : Prop := ∃ lo hi : Nat, ds = [.int lo, .int hi] ∧ k ≤ 800000 ∧ 1 ≤ lo ∧ lo ≤ hi ∧ hi ≤ 12 ∧ ∀ (n : Nat) (T : List (Int × Int)), lo ≤ n → n ≤ hi → WebOk n T → Q (webD n T) (k + 200)
theorem DqAll.intsV' {H : Hp} {xs : List V} {a b : Int} (h : DqAll K H xs [.int a, .int b]) : xs = [.int a, .int b] := DqAll.intsV (ns := [a, b]) h
theorem ClOk.drawWeb : ClOk K (spDrawWeb K) (fPen gDrawWeb) := ClOk.pen fun p c k vs ds H Q Qf pen hd ⟨lo, hi, e, hk, h1, h2, h3, hq⟩ q => by
  subst e
  refine ⟨p, c, k, lo, hi, by rw [hd.intsV'], pen, hk, h1, h2, h3, fun a n T H' l1 l2 hw pen' s' _ hx => q _ _ _ H' (hq n T l1 l2 hw) pen' s' ?_⟩
  exact Dq.same wo_le (Dq.of hx)
def gOrder (ds : List PyData) (k : Nat) (Q : PyData → Nat → Prop) : Prop := ∃ n : Nat, ds = [.int n] ∧ k ≤ 900000 ∧ n ≤ 1000 ∧ ∀ o : List Int, o.Perm (ups n) → Q (tI o) (k + n)
theorem ClOk.order : ClOk K (spOrder K) (fPen gOrder) := ClOk.pen fun p c k vs ds H Q Qf pen hd ⟨n, e, hk, h1, hq⟩ q => by
  subst e
  refine ⟨p, c, k, n, by rw [DqAll.intsV (ns := [(n : Int)]) hd]; rfl, pen, hk, h1, fun a o H' hp pen' s' _ hx => q _ _ _ H' (hq o hp) pen' s' ?_⟩
  exact Dq.ofTI (My.Same.sqt wo_le hx)
/-! ### the law's own start -/
theorem SS.law {t : TS} {p : PS1} (h : SS K t p) {N : List Str} {vs : List V} {H : Hp} {Q : VK} (m : Nat) (hm : N.length = m) (h2 : 2 ≤ m) (hsp : ∃ (a : Addr) (ns : List Int), vs = [.ref a] ∧ SqL K H a (ns.map V.int) ∧ ns.length ≤ 63 ∧ ∀ H', Q (.bl true) H')
    (hp : p { nx := fun _ => False, rt := fun z _ => z = .d (.bool true) } ⟨.no :: .pen :: List.replicate (m - 2) .no, [], 0, 0⟩) : (tSeq (tAsg (tCall (spOpen K) [] E0 (tCons (tVar 0) tNil)) (gName 1)) t) { nx := fun _ H' => Q .non H', rt := Q } (start N vs) H := by
  obtain ⟨a, ns, rfl, hS, hl, q⟩ := hsp
  subst hm
  obtain ⟨x0, x1, N', rfl⟩ : ∃ x0 x1 N', N = x0 :: x1 :: N' := by
    match N, h2 with
    | x0 :: x1 :: N', _ => exact ⟨x0, x1, N', rfl⟩
  refine ⟨_, rfl, a, ns, rfl, hS, hl, fun H1 p c s1 hp0 pen => ?_⟩
  have hL : AvO [p] H1 := fun b hb => by
    rw [List.mem_singleton.mp hb]
    obtain ⟨xs, i, l, e, _⟩ := pen
    exact ⟨_, e, trivial⟩
  obtain ⟨xs, i, l, e1, e2, _⟩ := id pen
  have r : Rl K H1 H1 (some (p, c)) [] ⟨.no :: .pen :: List.replicate N'.length .no, [], 0, 0⟩ [p] (some (.ref a) :: some (.ref p) :: List.replicate N'.length none) H1 := {
    avl := hL
    len := by simp
    alen := rfl
    nd := List.nodup_nil
    sub := fun a ha => by simp at ha
    obs := fun i a ds e => by simp at e
    sl := fun j z e nz => by
      match j, e with
      | 0, e => cases e; exact absurd rfl nz
      | 1, e => cases e; exact ⟨by simp, .ref p, rfl, p, c, rfl, rfl⟩
      | j + 2, e =>
        have e : (List.replicate N'.length Sl.no)[j]? = some z := e
        rw [List.getElem?_replicate] at e
        split at e
        · cases e; exact absurd rfl nz
        · cases e
    pen := fun p' c' e => by
      cases e
      exact ⟨pen, by simp, ⟨_, e1⟩, _, e2⟩
    fr := fun b o _ e => e
    dom0 := fun b e => e
    dom := fun b e => e }
  refine h.run r hp ⟨fun _ _ _ _ _ _ _ q => q.elim, fun A' s' av' σ' H' x z r' g v n q' => ?_, fun _ _ _ _ _ _ _ q => q.elim, fun _ _ _ _ _ _ _ q => q.elim⟩
  have q' : z = .d (.bool true) := q'
  subst q'
  cases v
  exact q H'
/-! ### texts -/
def fStrU : FN := fun _ as Q => (∃ i : Int, as = [.d (.int i)] ∧ i.natAbs.log2 < 1920 ∧ Q (.d (.str (toString i)))) ∨ ∃ a : Str, as = [.d (.str a)] ∧ Q (.d (.str a))
end
end My
set_option Elab.async false
set_option linter.all false
set_option maxRecDepth 100000
set_option maxHeartbeats 4000000
namespace My
open PySem PySem.Spec PyProof.Rows L2
/-! ### states without heaps: steps of a reading -/
def pNever : PS1 := fun _ _ => False
theorem SS.never {K : PySem.W.Frag} : SS K tNever pNever := ⟨fun _ h _ => h.elim⟩
section
variable {D : PEnds} {s : PSt} {A B : PS1} {pi : PI1} {pg : PG1} {pt : PT1} {pe : PE1} {vs : List Nat} {Q : Sl → PSt → Prop}
theorem pSeq_ (h : ∀ X : PSt → Prop, (∀ s', B D s' → X s') → A { D with nx := X } s) : pSeq A B D s := h (B D) fun _ h => h
theorem iteN {A B : Prop} {c : Bool} (h : B) (e : c = false := by rfl) : if c = true then A else B := iteFF e h
theorem iteY {A B : Prop} {c : Bool} (h : A) (e : c = true := by rfl) : if c = true then A else B := iteTT e h
theorem leN {a b : Nat} (h : Nat.ble a b = true) : a ≤ b := Nat.le_of_ble_eq_true h
/-- [.. for .. in ..]: what each turn tells -/
theorem pLc_fun {α : Type} (l : List α) (f : α → PyData) (keep : α → Bool) (g : α → PyData) (hl : l.length ≤ 10000) (gd : Option Nat) (hgd : ∀ j, gd = some j → s.θ[j]? = some (.lst (l.map f)))
    (hi : ∀ R : Option Nat → List PyData → PSt → Prop, R gd (l.map f) s → pi s R)
    (hs : ∀ a ∈ l, ∀ (T : PyData → PSt → Prop) (F : PSt → Prop), (keep a = true → T (g a) s) → (keep a = false → F s) → pg (.d (f a)) { s with ρ := wipeP s.ρ vs } fun s3 => pt s3 fun b s4 => if b = true then pe s4 fun z s5 => ∃ y, datOf z = some y ∧ T y { s5 with ρ := s.ρ } else F { s4 with ρ := s.ρ })
    (q : Q (.nw ((l.filter keep).map g)) s) : pLc pi pg pt pe vs s Q := by
  refine hi _ ⟨by rw [List.length_map]; exact hl, fun i acc s2 => s2 = s ∧ acc = ((l.take i).filter keep).map g, ⟨rfl, rfl⟩, fun i acc s2 ⟨e, _⟩ j ej => by rw [e]; exact hgd j ej, ?_, ?_⟩
  · rintro i d acc s2 ed ⟨rfl, rfl⟩ _
    obtain ⟨a, ea, rfl⟩ := map_at ed
    refine hs a (List.mem_of_getElem? ea) (fun y s5 => s5 = s2 ∧ ((l.take i).filter keep).map g ++ [y] = ((l.take (i + 1)).filter keep).map g) (fun s4 => s4 = s2 ∧ ((l.take i).filter keep).map g = ((l.take (i + 1)).filter keep).map g) (fun hk => ⟨rfl, ?_⟩) fun hk => ⟨rfl, ?_⟩
    · rw [take_filter ea, if_pos hk, List.map_append]
      rfl
    · rw [take_filter ea, if_neg (by rw [hk]; decide), List.append_nil]
  · rintro acc s2 ⟨rfl, rfl⟩ _
    rw [List.length_map, List.take_length]
    exact q
/-- .. the same of all items -/
theorem pLc_all {α : Type} (l : List α) (f g : α → PyData) (hl : l.length ≤ 10000) (gd : Option Nat) (hgd : ∀ j, gd = some j → s.θ[j]? = some (.lst (l.map f)))
    (hi : ∀ R : Option Nat → List PyData → PSt → Prop, R gd (l.map f) s → pi s R)
    (hs : ∀ a ∈ l, ∀ (T : PyData → PSt → Prop), T (g a) s → pg (.d (f a)) { s with ρ := wipeP s.ρ vs } fun s3 => pe s3 fun z s5 => ∃ y, datOf z = some y ∧ T y { s5 with ρ := s.ρ })
    (q : Q (.nw (l.map g)) s) : pLc pi pg pYes pe vs s Q := by
  refine pLc_fun l f (fun _ => true) g hl gd hgd hi (fun a ha T F hT hF => ?_) (by rw [show l.filter (fun _ => true) = l from List.filter_eq_self.mpr fun _ _ => rfl]; exact q)
  have := hs a ha T (hT rfl)
  simp only [pYes, if_true]
  exact this
/-- .. by a word -/
theorem pLc_inv (ds : List PyData) (hl : ds.length ≤ 10000) (I : Nat → List PyData → PSt → Prop) (gd : Option Nat) (hgd : ∀ i acc s2, I i acc s2 → ∀ j, gd = some j → s2.θ[j]? = some (.lst ds))
    (hi : ∀ R : Option Nat → List PyData → PSt → Prop, R gd ds s → pi s R) (h0 : I 0 [] s)
    (hs : ∀ (i : Nat) (d : PyData) (acc : List PyData) (s2 : PSt), ds[i]? = some d → I i acc s2 → s2.ρ = s.ρ → pg (.d d) { s2 with ρ := wipeP s.ρ vs } fun s3 => pt s3 fun b s4 => if b = true then pe s4 fun z s5 => ∃ y, datOf z = some y ∧ I (i + 1) (acc ++ [y]) { s5 with ρ := s.ρ } else I (i + 1) acc { s4 with ρ := s.ρ })
    (q : ∀ acc s2, I ds.length acc s2 → s2.ρ = s.ρ → Q (.nw acc) s2) : pLc pi pg pt pe vs s Q :=
  hi _ ⟨hl, I, h0, hgd, hs, q⟩
theorem pFor_ {b : PS1} (ds : List PyData) (I : Nat → PSt → Prop) (gd : Option Nat) (hgd : ∀ i s2, I i s2 → ∀ j, gd = some j → s2.θ[j]? = some (.lst ds))
    (hi : ∀ R : Option Nat → List PyData → PSt → Prop, R gd ds s → pi s R) (h0 : I 0 s)
    (hs : ∀ (i : Nat) (d : PyData) (s2 : PSt), ds[i]? = some d → I i s2 → pg (.d d) s2 fun s3 => b { D with nx := I (i + 1), ct := I (i + 1), bk := D.nx } s3)
    (q : ∀ s2, I ds.length s2 → D.nx s2) : pFor pi pg b D s :=
  hi _ ⟨I, h0, hgd, hs, q⟩
theorem pIfS_ {c : PT1} {t u : PS1} (h : c s fun b s1 => if b = true then t D s1 else u D s1) : pIfS c t u D s := h
end
end My
set_option Elab.async false
set_option linter.all false
set_option maxRecDepth 100000
set_option maxHeartbeats 4000000
namespace My
open PySem PySem.Spec PyProof.Rows L2 TL
/-- z[lo:hi] of a text -/
def pSlS (p : PE1) (lo hi : PO1) : PE1 := fun s Q => p s fun z s1 => ∃ x : Str, z = .d (.str x) ∧ lo s1 fun a s2 => hi s2 fun b s3 => x.length ≤ sizeLine ∧ Q (.d (.str (cutS x a b))) s3
/-! ### texts of webs -/
def nl : Str := "\n"
/-! ### the rows of a web with a dealing -/
/-! ### the law's own text -/
end My
set_option Elab.async false
set_option linter.all false
set_option maxRecDepth 100000
set_option maxHeartbeats 4000000
/-! zip of a list and a tuple -/
namespace My
open PySem PySem.Spec PyProof.Rows L2
section
variable {K : PySem.W.Frag} {ta : TA} {pa : PA1}
def pZipM (pa : PA1) : PI1 := fun s Q => pa s fun zs s1 => ∃ y z ds es, zs = [y, z] ∧ gdOf y = none ∧ gdOf z = none ∧ seqOf s1 y = some (true, ds) ∧ seqOf s1 z = some (false, es) ∧ Q none (zipD ds es) s1
end
end My
set_option Elab.async false
set_option linter.all false
set_option maxRecDepth 100000
set_option maxHeartbeats 4000000
namespace My
open PySem PySem.Spec PyProof.Rows L2
/-! ### all roots: lists of plain tuples -/
section
variable {γ δ : Type} {p : γ → Nat → Bool} {F : γ → Nat → δ} {n : Nat}
def rowG (p : γ → Nat → Bool) (F : γ → Nat → δ) (j : Nat) (c : γ) : List δ := ((List.range j).filter (p c)).map (F c)
end
/-- plain tuples of numbers -/
def PlsAt (H : Hp) : List V → List (List Int) → Prop
  | [], [] => True
  | u :: us, r :: rs => (∃ a, u = .ref a ∧ Plain H a (r.map V.int)) ∧ PlsAt H us rs
  | _, _ => False
theorem PlsAt.mono {H H' : Hp} (s : ∀ a r, Plain H a r → Plain H' a r) : ∀ {us : List V} {rs : List (List Int)}, PlsAt H us rs → PlsAt H' us rs
  | [], [], _ => trivial
  | u :: us, r :: rs, ⟨⟨a, e, h⟩, t⟩ => ⟨⟨a, e, s _ _ h⟩, PlsAt.mono s t⟩
  | [], _ :: _, h => h.elim
  | _ :: _, [], h => h.elim
theorem PlsAt.same {H H' : Hp} (s : Same H H') {us : List V} {rs : List (List Int)} (h : PlsAt H us rs) : PlsAt H' us rs := h.mono fun _ _ h => h.same s
theorem PlsAt.put {H : Hp} {D : Addr} {ws : List V} {o : HO} (e : H D = some (.lst ws)) {us : List V} {rs : List (List Int)} (h : PlsAt H us rs) : PlsAt (upd H D o) us rs := h.mono fun _ _ h => h.put e
theorem PlsAt.len {H : Hp} : ∀ {us : List V} {rs : List (List Int)}, PlsAt H us rs → us.length = rs.length
  | [], [], _ => rfl
  | u :: us, r :: rs, ⟨_, t⟩ => by rw [List.length_cons, List.length_cons, PlsAt.len t]
  | [], _ :: _, h => h.elim
  | _ :: _, [], h => h.elim
theorem PlsAt.append {H : Hp} : ∀ {us vs : List V} {rs qs : List (List Int)}, PlsAt H us rs → PlsAt H vs qs → PlsAt H (us ++ vs) (rs ++ qs)
  | [], _, [], _, _, h => h
  | u :: us, _, r :: rs, _, ⟨h, t⟩, g => ⟨h, PlsAt.append t g⟩
  | [], _, _ :: _, _, h, _ => h.elim
  | _ :: _, _, [], _, h, _ => h.elim
theorem PlsAt.get {H : Hp} : ∀ {us : List V} {rs : List (List Int)} {i : Nat} {v : V}, PlsAt H us rs → us[i]? = some v → ∃ a r, v = .ref a ∧ rs[i]? = some r ∧ Plain H a (r.map V.int)
  | u :: us, r :: rs, 0, v, ⟨⟨a, e, h⟩, t⟩, e2 => by
    cases e2
    exact ⟨a, r, e, rfl, h⟩
  | u :: us, r :: rs, i + 1, v, ⟨_, t⟩, e2 => PlsAt.get (us := us) (rs := rs) (i := i) t e2
  | [], [], _, _, _, e2 => by cases e2
  | [], _ :: _, _, _, h, _ => h.elim
  | _ :: _, [], _, _, h, _ => h.elim
theorem PlsAt.dq {K : PySem.W.Frag} {H : Hp} : ∀ {us : List V} {rs : List (List Int)}, PlsAt H us rs → DqAll K H us (rs.map tI)
  | [], [], _ => .nil
  | u :: us, r :: rs, ⟨⟨a, e, h⟩, t⟩ => by
    subst e
    exact .cons (Dq.ofTI h.sqt) (PlsAt.dq t)
  | [], _ :: _, h => h.elim
  | _ :: _, [], h => h.elim
/-- all tuples of so many different places, ascending -/
def moreR (n : Nat) (rs : List (List Int)) : List (List Int) := rs.flatMap (rowG (fun (r : List Int) j => !decide ((j : Int) ∈ r)) (fun r j => r ++ [(j : Int)]) n)
def rootsL (n : Nat) : Nat → List (List Int)
  | 0 => [[]]
  | k + 1 => moreR n (rootsL n k)
theorem rootsL_mem {n : Nat} : ∀ {k : Nat} {r : List Int}, r ∈ rootsL n k ↔ r.length = k ∧ r.Nodup ∧ ∀ x ∈ r, 0 ≤ x ∧ x < n
  | 0, r => by
    unfold rootsL
    rw [List.mem_singleton]
    constructor
    · rintro rfl
      exact ⟨rfl, List.nodup_nil, fun x hx => by cases hx⟩
    · rintro ⟨h, _⟩
      exact List.length_eq_zero_iff.mp h
  | k + 1, r => by
    unfold rootsL moreR
    simp only [List.mem_flatMap, rowG, List.mem_map, List.mem_filter, List.mem_range, Bool.not_eq_true', decide_eq_false_iff_not]
    constructor
    · rintro ⟨q, hq, j, ⟨hj, hn⟩, rfl⟩
      obtain ⟨h1, h2, h3⟩ := rootsL_mem.mp hq
      refine ⟨by rw [List.length_append, h1]; rfl, ?_, fun x hx => ?_⟩
      · rw [List.nodup_append]
        refine ⟨h2, by simp, fun a ha b hb e => hn ?_⟩
        rw [List.mem_singleton] at hb
        rw [← hb, ← e]
        exact ha
      · rcases List.mem_append.mp hx with h | h
        · exact h3 x h
        · rw [List.mem_singleton] at h
          subst h
          omega
    · rintro ⟨h1, h2, h3⟩
      have hne : r ≠ [] := fun e => by rw [e] at h1; cases h1
      have e := List.dropLast_concat_getLast hne
      have hl := h3 _ (List.getLast_mem hne)
      have hd : r.dropLast.Nodup ∧ r.getLast hne ∉ r.dropLast := by
        rw [← e, List.nodup_append] at h2
        refine ⟨h2.1, fun h => h2.2.2 _ h _ (by simp) rfl⟩
      refine ⟨r.dropLast, rootsL_mem.mpr ⟨by rw [List.length_dropLast, h1]; omega, hd.1, fun x hx => h3 x ((List.dropLast_sublist r).subset hx)⟩, (r.getLast hne).toNat, ⟨by omega, ?_⟩, ?_⟩
      · rw [Int.toNat_of_nonneg hl.1]
        exact hd.2
      · rw [Int.toNat_of_nonneg hl.1]
        exact e
/-- sizes for a web of up to six places -/
def SzOk (n : Nat) (sz : List Int) : Prop := 1 ≤ sz.length ∧ sz.length ≤ 3 ∧ (∀ x ∈ sz, 1 ≤ x ∧ x ≤ (n : Int)) ∧ sz.sum = n
theorem SzOk.deal {n : Nat} {sz r : List Int} (h : SzOk n sz) (hr : r ∈ rootsL n sz.length) : DealOk n r sz := by
  obtain ⟨h1, h2, h3, h4⟩ := h
  obtain ⟨a, b, c⟩ := rootsL_mem.mp hr
  exact ⟨b, c, by omega, a.symm, h3, h4⟩
end My
namespace My
open PySem PySem.Spec PyProof.Rows L2
section
variable {K : PySem.W.Frag}
theorem SE.never {t : TE} : SE K t (fun _ _ => False) := by
  constructor
  intro H0 Hs P A s av σ H Q R r h k
  exact h.elim
/-- f(..).append(x) -/
def pAppNew (p q : PE1) : PS1 := fun D s => p s fun z s1 => (∃ ds, z = .nw ds) ∧ pown true s.m z s1 fun z' s2 => q s2 fun y s3 => ∃ d j es, z' = .ob j ∧ datOf y = some d ∧ s3.θ[j]? = some (.lst es) ∧ es.length < 10000 ∧ D.nx (upO s3 j (es ++ [d]))
end
end My
set_option Elab.async false
set_option linter.all false
set_option maxRecDepth 100000
set_option maxHeartbeats 4000000
namespace My
open PySem PySem.Spec PyProof.Rows L2
/-! ### free parts: promises, and what is free -/
theorem spD_len {K : PySem.W.Frag} {F : List PyData → (Sl → Prop) → Prop} {n : Nat} (h : ∀ ds Q, F ds Q → ds.length = n) {vs : List V} {H : Hp} {Q : VK} {E : XK} (hs : spD K F vs H Q E) : vs.length = n := by
  obtain ⟨av, ds, Qf, _, hd, hf, _⟩ := hs
  rw [hd.len]
  exact h ds Qf hf
section
variable {K : PySem.W.Frag}
theorem Dq.tI_un {H : Hp} {x : V} {ns : List Int} (h : Dq K H x (tI ns)) : ∃ a, x = .ref a ∧ SqT K H a (ns.map V.int) := by
  unfold tI at h
  obtain ⟨a, us, rfl, hT, hd⟩ := Dq.un_tup h
  rw [hd.intsV] at hT
  exact ⟨a, rfl, hT⟩
def gSizes (ds : List PyData) (k : Nat) (Q : PyData → Nat → Prop) : Prop := ∃ n m : Nat, ds = [.int n, .int m] ∧ k ≤ 800000 ∧ n ≤ 100 ∧ m ≤ n ∧ 1 ≤ m ∧ ∀ r : List Int, (∀ x ∈ r, 1 ≤ x ∧ x ≤ n) → r.sum = n → r.length = m → Q (tI r) (k + n)
theorem ClOk.sizes : ClOk K (spDrawSizes K) (fPen gSizes) := ClOk.pen fun p c k vs ds H Q Qf pen hd ⟨n, m, e, hk, h1, h2, h3, hq⟩ q => by
  subst e
  refine ⟨p, c, k, n, m, by rw [hd.intsV'], pen, hk, h1, h2, h3, fun a r H' b1 b2 b3 pen' s' hx => q _ _ _ H' (hq r b1 b2 b3) pen' s' (Dq.ofTI (My.Same.sqt wo_le hx))⟩
/-- the web with some pairs as ties -/
def fWeb : FC := fun s as Q => ∃ (n : Int) (ps : List (Int × Int)), datsOf as = some [.int n, .list (ps.map fun t => tI (prI t))] ∧ ps.length < 64 ∧ (∀ s ∈ ps, (0 ≤ s.1 ∧ s.1 < 64) ∧ 0 ≤ s.2 ∧ s.2 < 64) ∧ ∀ T, Canon ps T → Q (.d (webD n T)) s
theorem fit_pairs {ps : List (Int × Int)} (h : ps.length ≤ 1000) : Fit 3 (.list (ps.map fun t => tI (prI t))) := by
  have := fit_tIs (rms := ps.map prI) (by rw [List.length_map]; exact h) fun r hr => by
    obtain ⟨t, _, rfl⟩ := List.mem_map.mp hr
    show 2 ≤ 100000
    decide
  rw [List.map_map] at this
  exact this
theorem ClOk.web : ClOk K (spWeb K) fWeb := by
  constructor
  intro H0 Hs P A s av σ H xs as Q R r hv ⟨n, ps, e, hl, hb, q⟩ k
  have hd := hv.dats e
  cases hd with
  | cons h t =>
    cases h
    cases t with
    | cons h2 t =>
      cases t
      obtain ⟨l, us, rfl, hA, hus⟩ := Dq.un_lst (Dq.same wos_le h2)
      refine ⟨n, l, us, ps, rfl, .inl hA, by rw [List.map_map]; exact hus.dp (fit_pairs (by omega)).2, hl, hb, fun a T H' hc s' _ hx => ?_⟩
      exact k _ _ s H' (r.same s') (r.stp s') (VRel.vd (Dq.noL (r.avl.same s') (noLD_web n T) (Dq.of hx))) (by simp) (q T hc)
/-! args: own lists, too -/
def datO (s : PSt) : Sl → Option PyData
  | .ob i => (lstAt s.θ i).map .list
  | z => datOf z
def datsO (s : PSt) : List Sl → Option (List PyData)
  | [] => some []
  | z :: zs => match datO s z, datsO s zs with
    | some d, some ds => some (d :: ds)
    | _, _ => none
def fFlatO (pre : List PyData → PyData → Prop) : FC := fun s as Q => ∃ ds r, datsO s as = some ds ∧ pre ds r ∧ flatD r = true ∧ Q (.d r) s
/-! free parts, served roots -/
theorem noLDs_tIs (l : List (List Int)) : noLDs (l.map tI) = true := noLDs_map fun a _ => noLD_tI a
end
theorem flat_step {α β : Type} {l : List α} {g : α → List β} {j : Nat} {a : α} (h : l[j]? = some a) : (l.take (j + 1)).flatMap g = (l.take j).flatMap g ++ g a := by
  rw [List.take_add_one, h, Option.toList_some, List.flatMap_append, List.flatMap_cons, List.flatMap_nil, List.append_nil]
/-! ### what is free -/
section
variable {T : List (Int × Int)} {n k : Nat} {sz rs zs : List Int}
theorem eqv_map0 {L : List (List Int)} : PyData.eqv (.list (L.map tI)) (.list []) = decide (L = []) := by
  rw [eqv_nil]
  cases L <;> rfl
end
end My
set_option Elab.async false
set_option linter.all false
set_option maxRecDepth 100000
set_option maxHeartbeats 4000000
namespace My
open PySem PySem.Spec PyProof.Rows L2
/-! ### parts of paths, rings, stars, full webs, trees -/
section
variable {T : List (Int × Int)} {n : Nat} {o : List Int} {ps : List (Int × Int)}
theorem adj_symm {x y : Int} (h : y ∈ nearS T x) : x ∈ nearS T y := by
  obtain ⟨t, ht, h2⟩ := mem_nearS.mp h
  rw [mem_nearS]
  exact ⟨t, ht, by rcases h2 with ⟨a, b⟩ | ⟨a, b⟩; exact .inr ⟨b, a⟩; exact .inl ⟨b, a⟩⟩
end
end My
set_option Elab.async false
set_option linter.all false
set_option maxRecDepth 100000
set_option maxHeartbeats 4000000
namespace My
open PySem PySem.Spec PyProof.Rows L2
/-! ### states without heaps: comprehensions of two clauses -/
/-- a list under way at D, from s1, H1 on -/
structure Und (K : PySem.W.Frag) (H0 Hs : Hp) (P : Option (Addr × Addr)) (A : List Addr) (D : Addr) (av : List Addr) (σ : L2.St) (s1 : PSt) (H1 : Hp) (acc : List PyData) (s2 : PSt) (H2 : Hp) : Prop where
  rho : s2.ρ = s1.ρ
  rl : Rl K H0 Hs P A s2 (D :: av) σ H2
  acc : ∃ us, H2 D = some (.lst us) ∧ DqAll K (wos (D :: av) H2) us acc
  same : Same (wos (D :: av) H1) (wos (D :: av) H2)
  mle : s1.m ≤ s2.m
  keep : s2.m = s1.m → s2.θ = s1.θ ∧ ∀ a ∈ A, H2 a = H1 a
  oth : ∀ b o, b ∉ A → (∀ p c, P = some (p, c) → b ≠ p) → b ≠ D → H1 b = some o → H2 b = some o
section
variable {K : PySem.W.Frag} {H0 Hs : Hp} {P : Option (Addr × Addr)} {A av : List Addr} {D : Addr} {σ σ4 : L2.St} {s1 s2 s5 s6 : PSt} {H1 H2 H3 H6 : Hp} {acc : List PyData}
/-- what a turn has done, told from the start again -/
theorem Und.back (u : Und K H0 Hs P A D av σ s1 H1 acc s2 H2) (un : Under H0 Hs P A D) (r1 : Rl K H0 Hs P A s1 (D :: av) σ H1) {ρ4 : List Sl} (sm : Same H2 H3) (m : Stp P A (D :: av) { s2 with ρ := ρ4 } H3 s6 H6) (r6 : Rl K H0 Hs P A s6 (D :: av) σ4 H6) : Und K H0 Hs P A D av σ s1 H1 acc { s6 with ρ := s1.ρ } H6 := by
  have nDp : ∀ p c, P = some (p, c) → D ≠ p := fun p c e => (un.p p c e).1
  have sw := My.Same.wos (av := D :: av) sm
  obtain ⟨us, eD, hus⟩ := u.acc
  refine ⟨rfl, r6.reslot r1 (u.same.trans (sw.trans m.same)), ⟨us, m.oth D _ un.n nDp (sm _ _ eD), DqAll.same (sw.trans m.same) hus⟩, u.same.trans (sw.trans m.same), ?_, fun e => ?_, fun b o n1 n2 n3 e => m.oth b o n1 n2 (sm _ _ (u.oth b o n1 n2 n3 e))⟩
  · have := m.mle
    have e2 : s2.m ≤ s6.m := this
    exact Nat.le_trans u.mle e2
  · have := m.mle
    have e2 : s2.m ≤ s6.m := this
    have := u.mle
    have e : s6.m = s1.m := e
    obtain ⟨a1, a2⟩ := u.keep (by omega)
    obtain ⟨b1, b2⟩ := m.keep (show s6.m = s2.m by omega)
    refine ⟨b1.trans a1, fun a ha => (b2 a ha).trans ?_⟩
    obtain ⟨ws, e3⟩ := u.rl.here ha
    rw [← a2 a ha, e3, sm _ _ e3]
/-- an item more -/
theorem Und.push (u : Und K H0 Hs P A D av σ s1 H1 acc s2 H2) (un : Under H0 Hs P A D) {us : List V} (eD : H2 D = some (.lst us)) {y : V} {e : PyData} (hus : DqAll K (wos (D :: av) H2) us acc) (hy : Dq K (wos (D :: av) H2) y e) : Und K H0 Hs P A D av σ s1 H1 (acc ++ [e]) s2 (upd H2 D (.lst (us ++ [y]))) := by
  have sw : Same (wos (D :: av) H2) (wos (D :: av) (upd H2 D (.lst (us ++ [y])))) := wos_put
  refine ⟨u.rho, u.rl.putD un, ⟨_, upd_same, DqAll.append (DqAll.same sw hus) (.cons (Dq.same sw hy) .nil)⟩, u.same.trans sw, u.mle, fun e => ?_, fun b o n1 n2 n3 e => (upd_ne n3).trans (u.oth b o n1 n2 n3 e)⟩
  obtain ⟨a1, a2⟩ := u.keep e
  exact ⟨a1, fun a ha => (upd_ne (show a ≠ D from fun z => un.n (z ▸ ha))).trans (a2 a ha)⟩
end
section
variable {K : PySem.W.Frag} {te : TE} {pe : PE1} {tt tt1 : TT} {pt pt1 : PT1} {wi wi1 : TI} {pi pi1 : PI1} {g g1 : TG} {pg pg1 : PG1} {ws ws1 vs vs1 : List Nat}
def pLc2 (pi : PI1) (pg : PG1) (pt : PT1) (pi1 : PI1) (pg1 : PG1) (pt1 : PT1) (pe : PE1) (vs vs1 : List Nat) : PE1 := fun s Q => pi s fun gd ds s1 => ∃ I : Nat → List PyData → PSt → Prop, I 0 [] s1 ∧ (∀ i acc s2, I i acc s2 → ∀ j, gd = some j → s2.θ[j]? = some (.lst ds)) ∧
  (∀ (i : Nat) (d : PyData) (acc : List PyData) (s2 : PSt), ds[i]? = some d → I i acc s2 → s2.ρ = s1.ρ → pg (.d d) { s2 with ρ := wipeP s1.ρ vs } fun s3 => pt s3 fun b s4 => if b = true then
    pi1 s4 fun gd1 es s5 => ∃ J : Nat → List PyData → PSt → Prop, J 0 acc s5 ∧ (∀ j acc2 s6, J j acc2 s6 → ∀ l, gd1 = some l → s6.θ[l]? = some (.lst es)) ∧
      (∀ (j : Nat) (e : PyData) (acc2 : List PyData) (s6 : PSt), es[j]? = some e → J j acc2 s6 → s6.ρ = s5.ρ → pg1 (.d e) { s6 with ρ := wipeP s5.ρ vs1 } fun s7 => pt1 s7 fun b s8 => if b = true then pe s8 fun z s9 => ∃ y, datOf z = some y ∧ acc2.length < 10000 ∧ J (j + 1) (acc2 ++ [y]) { s9 with ρ := s5.ρ } else J (j + 1) acc2 { s8 with ρ := s5.ρ }) ∧
      ∀ acc2 s6, J es.length acc2 s6 → s6.ρ = s5.ρ → I (i + 1) acc2 { s6 with ρ := s1.ρ }
    else I (i + 1) acc { s4 with ρ := s1.ρ }) ∧
  ∀ acc s2, I ds.length acc s2 → s2.ρ = s1.ρ → Q (.nw acc) s2
theorem SE.lc2 (hi : SI K wi pi) (hg : SG K ws g pg) (ht : ST K tt pt) (hi1 : SI K wi1 pi1) (hg1 : SG K ws1 g1 pg1) (ht1 : ST K tt1 pt1) (he : SE K te pe) (hw : ∀ i ∈ ws, i ∈ vs) (hw1 : ∀ i ∈ ws1, i ∈ vs1) : SE K (tLc2 wi g tt wi1 g1 tt1 te vs vs1) (pLc2 pi pg pt pi1 pg1 pt1 pe vs vs1) := by
  constructor
  intro H0 Hs P A s av σ H Q R rl h k
  refine hi.run rl h fun J gd ds s1 H1 r1 m1 io _ ⟨I, i0, igd, it, iq⟩ => ?_
  intro D hD
  have un := r1.under hD
  have rB := r1.push hD
  have sB : Same (wos av H1) (wos (D :: av) (upd H1 D (.lst []))) := wos_fresh hD (My.Same.new hD)
  have nDp : ∀ p c, P = some (p, c) → D ≠ p := fun p c e => (un.p p c e).1
  refine ⟨fun i m H2 => m = ds.length - i ∧ i ≤ ds.length ∧ ∃ (acc : List PyData) (s2 : PSt), I i acc s2 ∧ Und K H0 Hs P A D av σ s1 (upd H1 D (.lst [])) acc s2 H2, ⟨ds.length, rfl, Nat.zero_le _, [], s1, i0, rfl, rB, ⟨[], upd_same, .nil⟩, Same.refl _, Nat.le_refl _, fun _ => ⟨rfl, fun _ _ => rfl⟩, fun _ _ _ _ _ e => e⟩, ?_⟩
  rintro i m H2 ⟨rfl, hi2, acc, s2, hI, u⟩
  obtain ⟨st, ig⟩ := io Hs A s2 (D :: av) σ H2 ⟨fun b hb => List.mem_cons_of_mem _ hb, sB.trans u.same, [], by simp⟩ u.rl (igd i acc s2 hI)
  by_cases hlt : i < ds.length
  · have ed : ds[i]? = some ds[i] := List.getElem?_eq_getElem hlt
    generalize ds[i] = d at ed
    obtain ⟨go, yl⟩ := ig i d ed
    refine .inr ⟨go, fun H3 => ∃ (acc : List PyData) (s2 : PSt), I (i + 1) acc s2 ∧ Und K H0 Hs P A D av σ s1 (upd H1 D (.lst [])) acc s2 H3, fun H3 h3 => ⟨ds.length - (i + 1), by omega, rfl, hlt, h3⟩, fun x H3 y3 => ?_⟩
    obtain ⟨s3, hx⟩ := yl x H3 y3
    have w3 := (u.rl.same s3).wipe vs
    have turn := it i d acc s2 ed hI u.rho
    rw [show ({ s2 with ρ := wipeP s1.ρ vs } : PSt) = { s2 with ρ := wipeP s2.ρ vs } by rw [u.rho]] at turn
    refine hg.run (Hs := Hs) w3 (VRel.vd hx) (by simp) turn fun ρ4 σ4 r4 ww q4 => ?_
    refine ⟨(ww vs hw).trans (wipe_wipe fun _ h => h), ?_⟩
    refine ht.run r4 q4 fun b s5 H5 r5 m5 q5 => ?_
    cases b with
    | false => exact iteF ⟨acc, _, (if_neg (by simp)).mp q5, u.back un rB s3 m5 r5⟩
    | true =>
      refine iteT ?_
      refine hi1.run r5 ((if_pos rfl).mp q5) fun J1 gd1 es s6 H6 r6 m6 io1 _ ⟨J, j0, jgd, jt, jq⟩ => ?_
      have m56 := m5.trans m6
      have ub := u.back un rB s3 m56 r6
      have ini : Und K H0 Hs P A D av σ4 s6 H6 acc s6 H6 := ⟨rfl, r6, ub.acc, Same.refl _, Nat.le_refl _, fun _ => ⟨rfl, fun _ _ => rfl⟩, fun _ _ _ _ _ e => e⟩
      -- from the inner list back to the outer one
      have outer : ∀ {acc2 : List PyData} {s7 : PSt} {H7 : Hp}, Und K H0 Hs P A D av σ4 s6 H6 acc2 s7 H7 → Und K H0 Hs P A D av σ s1 (upd H1 D (.lst [])) acc2 { s7 with ρ := s1.ρ } H7 := fun {acc2 s7 H7} v => by
        refine ⟨rfl, v.rl.reslot rB (ub.same.trans v.same), v.acc, ub.same.trans v.same, Nat.le_trans ub.mle v.mle, fun e => ?_, fun b o n1 n2 n3 e => v.oth b o n1 n2 n3 (ub.oth b o n1 n2 n3 e)⟩
        have e : s7.m = s1.m := e
        have h1 : s1.m ≤ s6.m := ub.mle
        have h2 := v.mle
        obtain ⟨a1, a2⟩ := ub.keep (show s6.m = s1.m by omega)
        obtain ⟨b1, b2⟩ := v.keep (by omega)
        exact ⟨b1.trans a1, fun a ha => (b2 a ha).trans (a2 a ha)⟩
      refine ⟨fun j l H7 => l = es.length - j ∧ j ≤ es.length ∧ ∃ (acc2 : List PyData) (s7 : PSt), J j acc2 s7 ∧ Und K H0 Hs P A D av σ4 s6 H6 acc2 s7 H7, ⟨es.length, rfl, Nat.zero_le _, acc, s6, j0, ini⟩, ?_⟩
      rintro j l H7 ⟨rfl, hj2, acc2, s7, hJ, v⟩
      obtain ⟨st1, ig1⟩ := io1 Hs A s7 (D :: av) σ4 H7 ⟨fun b hb => hb, v.same, [], by simp⟩ v.rl (jgd j acc2 s7 hJ)
      by_cases hjl : j < es.length
      · have ee : es[j]? = some es[j] := List.getElem?_eq_getElem hjl
        generalize es[j] = e at ee
        obtain ⟨go1, yl1⟩ := ig1 j e ee
        refine .inr ⟨go1, fun H8 => ∃ (acc2 : List PyData) (s7 : PSt), J (j + 1) acc2 s7 ∧ Und K H0 Hs P A D av σ4 s6 H6 acc2 s7 H8, fun H8 h8 => ⟨es.length - (j + 1), by omega, rfl, hjl, h8⟩, fun x1 H8 y8 => ?_⟩
        obtain ⟨s8, hx1⟩ := yl1 x1 H8 y8
        have w8 := (v.rl.same s8).wipe vs1
        have turn1 := jt j e acc2 s7 ee hJ v.rho
        rw [show ({ s7 with ρ := wipeP s6.ρ vs1 } : PSt) = { s7 with ρ := wipeP s7.ρ vs1 } by rw [v.rho]] at turn1
        refine hg1.run (Hs := Hs) w8 (VRel.vd hx1) (by simp) turn1 fun ρ9 σ9 r9 ww1 q9 => ?_
        refine ⟨(ww1 vs1 hw1).trans (wipe_wipe fun _ h => h), ?_⟩
        refine ht1.run r9 q9 fun b s10 H10 r10 m10 q10 => ?_
        cases b with
        | false => exact iteF ⟨acc2, _, (if_neg (by simp)).mp q10, v.back un r6 s8 m10 r10⟩
        | true =>
          refine iteT (he.run r10 ((if_pos rfl).mp q10) fun y z s11 H11 r11 m11 v11 n11 ⟨y', hy, hlen, hJ'⟩ => ?_)
          have vb := v.back un r6 s8 (m10.trans m11) r11
          obtain ⟨us, eD, hus⟩ := vb.acc
          exact ⟨us, eD, by rw [hus.len, sizeLine_eq]; omega, acc2 ++ [y'], _, hJ', vb.push un eD hus (v11.dat hy)⟩
      · have ej : j = es.length := by omega
        subst ej
        exact .inl ⟨st1, acc2, _, jq acc2 s7 hJ v.rho, outer v⟩
  · have ei : i = ds.length := by omega
    subst ei
    obtain ⟨us, eD, hus⟩ := u.acc
    refine .inl ⟨st, k _ (.nw acc) s2 H2 (u.rl.pop un) (m1.trans ⟨(sB.trans u.same).trans wos_less, u.rho, u.mle, fun e => ?_, fun b o n1 n2 eb => ?_⟩) ⟨D, us, rfl, un.s, eD, r1.freshAv hD, hus⟩ (by simp) (iq acc s2 hI u.rho)⟩
    · obtain ⟨a1, a2⟩ := u.keep e
      exact ⟨a1, fun a ha => (a2 a ha).trans (upd_ne fun z => un.n (z ▸ ha))⟩
    · have nb : b ≠ D := fun z => by
        rw [z, hD] at eb
        cases eb
      exact u.oth b o n1 n2 nb ((upd_ne nb).trans eb)
end
end My
set_option Elab.async false
set_option linter.all false
set_option maxRecDepth 100000
set_option maxHeartbeats 4000000
namespace My
open PySem PySem.Spec PyProof.Rows L2
/-! ### states without heaps: plain tuples, deals -/
section
variable {K : PySem.W.Frag}
theorem Plain.wos {av : List Addr} {H : Hp} {a : Addr} {xs : List V} (hL : AvO av H) (h : Plain H a xs) : Plain (My.wos av H) a xs := by
  obtain ⟨ob, e, h1, h2⟩ := h
  refine ⟨ob, (wos_in fun hb => ?_).trans e, h1, h2⟩
  obtain ⟨us, e2, w⟩ := hL a hb
  rw [e] at e2
  cases e2
  exact w
theorem DealAt.wos {av : List Addr} {H : Hp} {a : Addr} {rs ss : List Int} (hL : AvO av H) (h : DealAt K H a rs ss) : DealAt K (My.wos av H) a rs ss := by
  obtain ⟨ra, sa, h1, h2, h3⟩ := h
  exact ⟨ra, sa, AvO.sqt hL h1, h2.wos hL, AvO.sqt hL h3⟩
variable {t u : TE} {p q : PE1} {ta : TA} {pa : PA1} {tl th : TO} {pl ph : PO1}
/-- a plain tuple of numbers -/
def pTupP (pa : PA1) : PE1 := fun s Q => pa s fun as s1 => ∃ ns : List Int, datsOf as = some (ns.map PyData.int) ∧ ns.length ≤ 10000 ∧ Q (.pl ns) s1
/-- a deal -/
def pDeal (p q : PE1) : PE1 := fun s Q => p s fun z s1 => q s1 fun y s2 => ∃ rs ss, z = .pl rs ∧ datOf y = some (tI ss) ∧ Q (.dl rs ss) s2
theorem SE.deal (h1 : SE K t p) (h2 : SE K u q) : SE K (tTupF (tCons t (tCons u tNil))) (pDeal p q) := by
  constructor
  intro H0 Hs P A s av σ H Q R rl h k
  refine h1.run rl h fun x z s1 H1 r1 m1 v1 n1 h => h2.run r1 h fun y b s2 H2 r2 m2 v2 n2 ⟨rs, ss, e1, e2, hq⟩ => ?_
  subst e1
  obtain ⟨ra, rfl, hp⟩ := v1.same m2.same
  obtain ⟨sa, rfl, hs⟩ := Dq.tI_un (v2.dat e2)
  refine ⟨by show 2 ≤ sizeLine; decide, fun a H3 s3 hd => ?_⟩
  have sw := My.Same.wos (av := av) s3
  exact k _ (.dl rs ss) s2 H3 (r2.same s3) ((m1.trans m2).trans (r2.stp s3)) ⟨a, rfl, ra, sa, (hd.wos (r2.avl.same s3)).sqt, hp.same sw, My.Same.sqt sw hs⟩ (by simp) hq
def fCatP : F2 := fun _ a b Q => ∃ xs ys, a = .pl xs ∧ b = .pl ys ∧ xs.length + ys.length ≤ 10000 ∧ Q (.pl (xs ++ ys))
def cutI (ns : List Int) (lo hi : Option Int) : List Int := (ns.drop (HT.sIx ns.length 0 lo)).take (HT.sIx ns.length ns.length hi - HT.sIx ns.length 0 lo)
def pSlP (p : PE1) (lo hi : PO1) : PE1 := fun s Q => p s fun z s1 => lo s1 fun a s2 => hi s2 fun b s3 => ∃ ns, z = .pl ns ∧ Q (.pl (cutI ns a b)) s3
/-! promises -/
end
end My
set_option Elab.async false
set_option linter.all false
set_option maxRecDepth 100000
set_option maxHeartbeats 4000000
namespace My
open PySem PySem.Spec PyProof.Rows L2
/-! ### paths, stars, full webs -/
end My
set_option Elab.async false
set_option linter.all false
set_option maxRecDepth 100000
set_option maxHeartbeats 4000000
namespace My
open PySem PySem.Spec PyProof.Rows L2
/-! ### trees: a place's branch -/
end My
set_option Elab.async false
set_option linter.all false
set_option maxRecDepth 100000
set_option maxHeartbeats 4000000
namespace My
open PySem PySem.Spec PyProof.Rows L2
/-! ### sorted(set(pairs)) -/
def pSortSet (p : PE1) : PE1 := fun s Q => p s fun z s1 => ∃ D : List (Int × Int), seqOf s1 z = some (true, D.map fun t => tI (prI t)) ∧ D.length < 64 ∧ (∀ s ∈ D, (0 ≤ s.1 ∧ s.1 < 64) ∧ 0 ≤ s.2 ∧ s.2 < 64) ∧
  ∀ T : List (Int × Int), T.Pairwise ltP → (∀ t, t ∈ T ↔ t ∈ D) → Q (.nw (T.map fun t => tI (prI t))) s1
end My
set_option Elab.async false
set_option linter.all false
set_option maxRecDepth 100000
set_option maxHeartbeats 4000000
namespace My
open PySem PySem.Spec PyProof.Rows L2
/-! ### all sizes, the sizes served -/
end My
set_option Elab.async false
set_option linter.all false
set_option maxRecDepth 100000
set_option maxHeartbeats 4000000
namespace My
open PySem PySem.Spec PyProof.Rows L2
/-! ### x not in t; paths and rings serve -/
section
variable {X : Cx}
def rNotInDT (K : PySem.W.Frag) : R2 := fun x y H Q => ∃ d ds, Dp K H x d ∧ Dp K H y (.tuple ds) ∧ d.canLay0 = true ∧ d.depth ≤ 8 ∧ PyData.canLayAll0 ds = true ∧ Q (.bl (!ds.any fun z => PyData.eqv z d)) H
theorem op_notInDT (hu : X.A.units + 64 < cLine) : OpR X (compareOp .NotIn) (rNotInDT X.K) := by
  intro pins s σ H x y v u Q I rx ry h
  obtain ⟨d, ds, hd, he, sd, dd, se, q⟩ := h
  obtain ⟨as, r1⟩ := Dp.reads I d x v hd rx
  obtain ⟨bs, r2⟩ := Dp.reads I (.tuple ds) y u he ry
  refine SeqAt.notIn_tuple_reads r2 r1 se sd ?_ ⟨.bl _, H, I, rfl, q⟩
  have : min (PyData.depthAll ds) d.depth ≤ d.depth := Nat.min_le_right _ _
  omega
theorem notInDT (K : PySem.W.Frag) (hu : X.A.units + 64 < cLine) (h : X.K = K := by rfl) : OpR X (compareOp .NotIn) (rNotInDT K) := by subst h; exact op_notInDT hu
end
theorem OpOk.notInDT {K : PySem.W.Frag} : OpOk K (rNotInDT K) (fInD true false) := by
  constructor
  intro H0 Hs P A s av σ H x y a b Q R r hx nx hy ny ⟨d, ds, n, m, h1, h2, f1, f2, c1, c2, c3, q⟩ k
  exact ⟨d, ds, (Dq.same wos_le (hx.dat h1)).dp f1, (Dq.same wos_le (hy.dat h2)).dp f2, c1, c2, c3, k _ _ H (Same.refl _) (VRel.vbl _) (by simp) q⟩
end My
set_option Elab.async false
set_option linter.all false
set_option maxRecDepth 100000
set_option maxHeartbeats 4000000
namespace My
open PySem PySem.Spec PyProof.Rows L2
/-! ### a tree serves what its ties part -/
end My
set_option Elab.async false
set_option linter.all false
set_option maxRecDepth 100000
set_option maxHeartbeats 4000000
namespace My
open PySem PySem.Spec PyProof.Rows L2
section
variable {T ps : List (Int × Int)} {n : Nat} {o : List Int}
theorem prI_inj {s t : Int × Int} (h : prI s = prI t) : s = t := by
  obtain ⟨a, b⟩ := s
  obtain ⟨c, d⟩ := t
  have h : [a, b] = [c, d] := h
  simp at h
  rw [h.1, h.2]
def fPiece : FC := fun s as Q => ∃ (n : Nat) (T : List (Int × Int)) (lot : List Int) (x : Int), datsOf as = some [webD n T, tI lot, .int x] ∧ WebOk n T ∧ 1 ≤ n ∧ n ≤ 12 ∧ lot.length ≤ 12 ∧ (∀ y ∈ lot, 0 ≤ y ∧ y < n) ∧ 0 ≤ x ∧ x < n ∧ ∀ ls, PieceIs T lot x ls → Q (.d (tI ls)) s
theorem ClOk.pieceF {K : PySem.W.Frag} : ClOk K (spPiece K) fPiece := by
  constructor
  intro H0 Hs P A s av σ H xs as Q R r hv ⟨n, T, lot, x, e, hW, n1, n12, hl, hb, x0, x1, q⟩ k
  have hd := hv.dats e
  cases hd with
  | cons h t =>
    cases t with
    | cons h2 t =>
      cases t with
      | cons h3 t =>
        cases h3
        cases t
        obtain ⟨a, rfl, hT⟩ := h2.tI_un
        exact ⟨_, n, T, a, lot, x, rfl, Dq.same wos_le h, hW, n1, n12, My.Same.sqt wos_le hT, hl, hb, x0, x1, fun b ls H' hp s' hb' => k _ _ s H' (r.same s') (r.stp s') (VRel.vd (Dq.noL (r.avl.same s') (noLD_tI ls) (Dq.ofTI hb'))) (by simp) (q ls hp)⟩
end
end My
set_option Elab.async false
set_option linter.all false
set_option maxRecDepth 100000
set_option maxHeartbeats 4000000
namespace My
open PySem PySem.Spec PyProof.Rows L2
theorem at_neg {α : Type} {xs : List α} {v : α} (h1 : 1 ≤ xs.length) (h : xs[xs.length - 1]? = some v) : atI xs (-1) = some v := by
  unfold atI ixN
  rw [if_neg (by omega), if_pos (by omega)]
  show xs[_]? = some v
  rw [show ((-1 : Int) + (xs.length : Int)).toNat = xs.length - 1 by omega]
  exact h
end My
set_option Elab.async false
set_option linter.all false
set_option maxRecDepth 100000
set_option maxHeartbeats 4000000
namespace My
open PySem PySem.Spec PyProof.Rows L2
section
variable {X : Cx} {o i : Expr} {td ty : TE}
/-- d[k] -/
def tDctGet (K : PySem.W.Frag) (P : Program) (w : World) (td ty : TE) : TE := fun σ H Q => td σ H fun x H1 => ty σ H1 fun y H2 => ∃ (a b : Addr) (es : List Ent) (k : List Int) (v : V), x = .ref a ∧ y = .ref b ∧ Rd H2 a (dctO a es) ∧ KeysOk K H2 es ∧ SqT K H2 b (k.map V.int) ∧ valE es k = some v ∧ Q v H2
theorem pe_dctGet {K : PySem.W.Frag} {P : Program} {w : World} {pos : Pos} (hu : X.A.units + 64 < cLine) (ho : PE X o td) (hi : PE X i ty) (hs : NoSl i) (hK : X.K = K := by rfl) (hP : X.prog = P := by rfl) (hw : X.w = w := by rfl) : PE X (.Subscript o i pos) (tDctGet K P w td ty) := by
  subst hK hP hw
  refine ⟨fun pins s σ H Q I h => ?_⟩
  refine subD_of PySem.F.slot_dict_getitem.lookup hs (thn (ho.run pins s σ H _ I h) fun u s1 ⟨x, H1, I1, rx, q1⟩ => thn (hi.run pins s1 σ H1 _ I1 q1) fun iv s2 ⟨y, H2, I2, ry, a, b, es, k, v, ex, ey, e, hk, hb, hv, q2⟩ => ?_)
  subst ex ey
  obtain rfl : u = Value.ref a := rx
  obtain rfl : iv = Value.ref b := ry
  obtain ⟨_, _, xs, _, dd⟩ := dct_of I2 e hk
  exact ⟨dd.typeIs, dct_get (by omega) I2 e hk hb hv fun w' s3 I3 rw' => ⟨v, H2, I3, rw', q2⟩⟩
end
end My
set_option Elab.async false
set_option linter.all false
set_option maxRecDepth 100000
set_option maxHeartbeats 4000000
namespace My
open PySem PySem.Spec PyProof.Rows L2
section
variable {X : Cx} {k v : Expr} {tk tv : TE}
/-- {k: v}, k a tuple of numbers -/
def tDct1 (K : PySem.W.Frag) (P : Program) (w : World) (tk tv : TE) : TE := fun σ H Q => ∀ p, H p = none → tk σ (upd H p (dctO p [])) fun x H1 => tv σ H1 fun y H2 => ∃ (b : Addr) (ks : List Int), x = .ref b ∧ H2 p = some (dctO p []) ∧ SqT K H2 b (ks.map V.int) ∧ Q (.ref p) (upd H2 p (dctO p [(ks, b, y)]))
theorem pe_dct1 {K : PySem.W.Frag} {P : Program} {w : World} {pos : Pos} (hu : X.A.units + 64 < cLine) (hk : PE X k tk) (hv : PE X v tv) (hK : X.K = K := by rfl) (hP : X.prog = P := by rfl) (hw : X.w = w := by rfl) : PE X (.Dict [some k] [v] pos) (tDct1 K P w tk tv) := by
  subst hK hP hw
  refine ⟨fun pins s σ H Q I q => ?_⟩
  have hn := I.hok.fresh (Nat.le_refl s.heap.objs.size)
  have I1 := I.laid (a := s.heap.objs.size) (o := dctO s.heap.objs.size []) (h' := s.heap.push { cls := .type "dict", data := .dict #[] }) (t' := s.toks) (fun _ _ q => Heap.get?_push_of_some _ q) (Nat.le_refl _) (dctO_ok ⟨Nat.zero_le _, beq_eq_false_iff_ne.mpr (Ne.symm (Nat.ne_of_lt I.big)), [], .nil, _, #[], 0, Heap.get?_push_size _ rfl, ⟨rfl, rfl, rfl⟩, rfl, rfl, List.nodup_nil⟩)
  rw [arm_eval_Dict, zip_pairTrees [some k] [v] X.env pos rfl rfl, dictDisplay_pairs (pairTrees [some k] [v] X.env pos) (by simp [pairTrees]) (by simp [pairTrees])]
  refine wpAny_bind (wpAny_standAt (wpAny_bind (wpAny_subDictH (knd := tupleKind (mixKind X.prog X.w)) (Q := fun d s' => wpAny (model X.prog X.w) X.A (pure (Value.ref d)) _ X.xe s') (show X.A.units < cLine by omega) (by simp [pairTrees]) ?_)))
  refine pairTrees_cons_walk (thn (hk.run pins _ σ _ _ I1 (q _ hn)) fun u s1 ⟨x, H1, I2, rx, q1⟩ => thn (hv.run pins s1 σ H1 _ I2 q1) fun w2 s2 ⟨y, H2, I3, ry, b, ks, ex, e, hb, q2⟩ => pairTrees_nil_walk ?_)
  subst ex
  obtain rfl : u = Value.ref b := rx
  obtain ⟨z, hd, xs, rel, dd⟩ := dct_of I3 (.inl e) (fun p hp => by cases hp)
  cases rel
  refine ⟨[(kL ks, b, w2)], ⟨rfl, rfl, key_is I3 hb, trivial⟩, dd, fun h' tk dd' hs => wpAny_pure ⟨.ref s.heap.objs.size, _, ?_, rfl, q2⟩⟩
  obtain ⟨q, eA, ep, hq, h2, h3, h4, _, h5⟩ := dd'
  have hs1 : storedAllH [] [(kL ks, b, w2)] = [(kL ks, b, w2)] := rfl
  rw [hs1] at h4 h5
  have rel2 : Paired EntP [(ks, b, y)] [(kL ks, b, w2)] := .cons ⟨rfl, rfl, ry⟩ .nil
  rw [entI_eq rel2] at h4
  exact d_write I3 (by rw [e]; exact True.intro) hs ⟨q, hq⟩ (dctO_ok ⟨by show 1 ≤ sizeLine; decide, hd, _, rel2, q, eA, ep, hq, h2, h3, h4, h5⟩)
end
end My
set_option Elab.async false
set_option linter.all false
set_option maxRecDepth 100000
set_option maxHeartbeats 4000000
namespace My
open PySem PySem.Spec PyProof.Rows L2
/-! ### states without heaps: dicts -/
abbrev KVs := List (List Int × PyData)
def valK (kvs : KVs) (k : List Int) : Option PyData := (kvs.find? fun p => decide (p.1 = k)).map (·.2)
def putK (kvs : KVs) (k : List Int) (d : PyData) : KVs := if (valK kvs k).isSome = true then kvs.map fun p => if p.1 = k then (p.1, d) else p else kvs ++ [(k, d)]
section
variable {K : PySem.W.Frag}
theorem DctQ.val {W : Hp} {es : List Ent} {kvs : KVs} (h : DctQ K W es kvs) (k : List Int) : (valE es k = none ∧ valK kvs k = none) ∨ ∃ v d, valE es k = some v ∧ valK kvs k = some d ∧ Dq K W v d := by
  unfold DctQ at h
  induction h with
  | nil => exact .inl ⟨rfl, rfl⟩
  | @cons p q ps qs h t ih =>
    by_cases e : p.1 = k
    · have e' : q.1 = k := h.1 ▸ e
      exact .inr ⟨p.2.2, q.2, by simp [valE, List.find?_cons, e], by simp [valK, List.find?_cons, e'], h.2.2⟩
    · have e' : ¬ q.1 = k := h.1 ▸ e
      have b : valK (q :: qs) k = valK qs k := by simp [valK, List.find?_cons, e']
      have c : valE (p :: ps) k = valE ps k := by simp [valE, List.find?_cons, e]
      rw [b, c]
      exact ih
theorem DctQ.isSome {W : Hp} {es : List Ent} {kvs : KVs} (h : DctQ K W es kvs) (k : List Int) : (valE es k).isSome = (valK kvs k).isSome := by
  rcases h.val k with ⟨a, b⟩ | ⟨v, d, a, b, _⟩ <;> rw [a, b] <;> rfl
theorem DctQ.put {W : Hp} {es : List Ent} {kvs : KVs} {k : List Int} {b : Addr} {v : V} {d : PyData} (h : DctQ K W es kvs) (hb : SqT K W b (k.map V.int)) (hv : Dq K W v d) : DctQ K W (putE es k b v) (putK kvs k d) := by
  have e := h.isSome k
  unfold putE putK
  rw [e]
  by_cases q : (valK kvs k).isSome = true
  · rw [if_pos q, if_pos q]
    clear e q
    unfold DctQ at h ⊢
    induction h with
    | nil => exact .nil
    | @cons p q ps qs h t ih =>
      rw [List.map_cons, List.map_cons]
      refine .cons ?_ ih
      by_cases e : p.1 = k
      · have e' : q.1 = k := h.1 ▸ e
        rw [if_pos e, if_pos e']
        exact ⟨h.1, h.2.1, hv⟩
      · have e' : ¬ q.1 = k := h.1 ▸ e
        rw [if_neg e, if_neg e']
        exact h
  · rw [if_neg q, if_neg q]
    exact Paired.snoc h ⟨rfl, hb, hv⟩
theorem DctQ.len {W : Hp} {es : List Ent} {kvs : KVs} (h : DctQ K W es kvs) : es.length = kvs.length := Paired.length h
theorem DctQ.dq {W : Hp} {es : List Ent} {kvs : KVs} (h : DctQ K W es kvs) : DqAll K W (es.map fun p => V.ref p.2.1) (kvs.map fun p => tI p.1) := by
  unfold DctQ at h
  induction h with
  | nil => exact .nil
  | @cons p q ps qs h t ih => exact .cons (by show Dq K W (.ref p.2.1) (tI q.1); rw [← h.1]; exact Dq.ofTI h.2.1) ih
/-- a dict's entries -/
def dOf (s : PSt) : Sl → Option KVs
  | .nd kvs => some kvs
  | .dd kvs => some kvs
  | .ob i => match s.θ[i]? with
    | some (.dct kvs) => some kvs
    | _ => none
  | _ => none
theorem VRel.dct {H0 Hs : Hp} {P : Option (Addr × Addr)} {A av : List Addr} {s : PSt} {σ : L2.St} {H : Hp} {x : V} {z : Sl} {kvs : KVs} (r : Rl K H0 Hs P A s av σ H) (h : VRel K Hs av A P H x z) (e : dOf s z = some kvs) :
    ∃ a es, x = .ref a ∧ H a = some (dctO a es) ∧ DctQ K (wos av H) es kvs := by
  cases z with
  | nd ks =>
    cases e
    obtain ⟨a, es, rfl, h0, ea, n, hd⟩ := h
    exact ⟨a, es, rfl, ea, hd.same wos_less⟩
  | dd ks =>
    cases e
    obtain ⟨a, es, rfl, ea, hd⟩ := h
    exact ⟨a, es, rfl, wos_le _ _ ea, hd⟩
  | ob i =>
    unfold dOf at e
    dsimp only at e
    split at e
    · rename_i ks e2
      cases e
      obtain ⟨a, e1, rfl⟩ := h
      obtain ⟨_, ea, es, rfl, hd⟩ := r.obs i a _ e1 e2
      exact ⟨a, es, rfl, ea, hd⟩
    · cases e
  | _ => cases e
theorem DctQ.up {W W' : Hp} {es : List Ent} {kvs : KVs} (h : DctQ K W es kvs) (s : Same W W') : KeysOk K W' es := (h.same s).keys
/-- k in d, k not in d -/
def fInDct (neg : Bool) : F2 := fun s a b Q => ∃ k kvs, datOf a = some (tI k) ∧ dOf s b = some kvs ∧ Q (.d (.bool (if neg then !(valK kvs k).isSome else (valK kvs k).isSome)))
theorem OpOk.inDct {Pg : Program} {wd : World} {neg : Bool} : OpOk K (rInDct K Pg wd neg) (fInDct neg) := by
  constructor
  intro H0 Hs P A s av σ H x y a b Q R r hx nx hy ny ⟨k, kvs, e1, e2, q⟩ kk
  obtain ⟨c, rfl, hT⟩ := (hx.dat e1).tI_un
  obtain ⟨d, es, rfl, ed, hd⟩ := hy.dct r e2
  refine ⟨d, c, es, k, rfl, rfl, .inl ed, hd.up wos_le, My.Same.sqt wos_le hT, ?_⟩
  rw [hd.isSome k]
  exact kk _ _ H (Same.refl _) (VRel.vbl _) (by simp) q
variable {t u : TE} {p q : PE1}
/-- d[k] -/
def pDctGet (p q : PE1) : PE1 := fun s Q => p s fun a s1 => q s1 fun b s2 => ∃ kvs k d, dOf s2 a = some kvs ∧ datOf b = some (tI k) ∧ valK kvs k = some d ∧ Q (.d d) s2
theorem SE.dctGet {Pg : Program} {wd : World} (h1 : SE K t p) (h2 : SE K u q) : SE K (tDctGet K Pg wd t u) (pDctGet p q) := by
  constructor
  intro H0 Hs P A s av σ H Q R rl h k
  refine h1.run rl h fun x z s1 H1 r1 m1 v1 n1 h => h2.run r1 h fun y b s2 H2 r2 m2 v2 n2 ⟨kvs, kk, d, e1, e2, e3, hq⟩ => ?_
  obtain ⟨a, es, rfl, ea, hd⟩ := (v1.same m2.same).dct r2 e1
  obtain ⟨c, rfl, hT⟩ := (v2.dat e2).tI_un
  rcases hd.val kk with ⟨_, n⟩ | ⟨v, d', e4, e5, hv⟩
  · rw [n] at e3; cases e3
  rw [e3] at e5
  cases e5
  exact ⟨a, c, es, kk, v, rfl, rfl, .inl ea, hd.up wos_le, My.Same.sqt wos_le hT, e4, k _ _ s2 H2 r2 (m1.trans m2) (VRel.vd hv) (by simp) hq⟩
theorem DctQ.nil {W : Hp} : DctQ K W [] [] := Paired.nil
theorem SE.dct0 {Pg : Program} {wd : World} : SE K (tDct0 Pg wd) (fun s Q => Q (.nd []) s) := by
  constructor
  intro H0 Hs P A s av σ H Q R r h k
  intro p hp
  exact k _ (.nd []) s _ (r.alloc hp).1 (r.alloc (o := dctO p []) hp).2 ⟨p, [], rfl, r.freshS hp, upd_same, r.freshAv hp, DctQ.nil⟩ (by simp) h
/-- {k: v} -/
def pDct1 (p q : PE1) : PE1 := fun s Q => p s fun a s1 => q s1 fun b s2 => ∃ k d, datOf a = some (tI k) ∧ datOf b = some d ∧ Q (.nd [(k, d)]) s2
theorem SE.dct1 {Pg : Program} {wd : World} (h1 : SE K t p) (h2 : SE K u q) : SE K (tDct1 K Pg wd t u) (pDct1 p q) := by
  constructor
  intro H0 Hs P A s av σ H Q R r h k
  intro D hD
  have un := r.under hD
  have r0 := r.pushO (o := dctO D []) hD trivial
  have nDp : ∀ p c, P = some (p, c) → D ≠ p := fun p c e => (un.p p c e).1
  refine h1.run r0 h fun x z s1 H1 r1 m1 v1 n1 h => h2.run r1 h fun y b s2 H2 r2 m2 v2 n2 ⟨kk, d, e1, e2, hq⟩ => ?_
  have m12 := m1.trans m2
  obtain ⟨c, rfl, hT⟩ := ((v1.same m2.same).dat e1).tI_un
  have hv := v2.dat e2
  have eD : H2 D = some (dctO D []) := m12.oth D _ un.n nDp upd_same
  refine ⟨c, kk, rfl, eD, My.Same.sqt wos_le hT, ?_⟩
  have r3 := (r2.putDO (o := dctO D [(kk, c, y)]) un trivial).pop un
  have sw : Same (wos (D :: av) H2) (wos (D :: av) (upd H2 D (dctO D [(kk, c, y)]))) := wos_put
  have s0 : Same (wos av H) (wos (D :: av) (upd H D (dctO D []))) := wos_fresh hD (My.Same.new hD)
  refine k _ (.nd [(kk, d)]) s2 _ r3 ⟨((s0.trans m12.same).trans sw).trans wos_less, m12.rho, m12.mle, fun e => ?_, fun b o n1 n2 eb => ?_⟩ ⟨D, _, rfl, un.s, upd_same, r.freshAv hD, .cons ⟨rfl, My.Same.sqt sw hT, Dq.same sw hv⟩ .nil⟩ (by simp) hq
  · obtain ⟨a1, a2⟩ := m12.keep e
    exact ⟨a1, fun a ha => (upd_ne (show a ≠ D from fun z => un.n (z ▸ ha))).trans ((a2 a ha).trans (upd_ne fun z => un.n (z ▸ ha)))⟩
  · have nb : b ≠ D := fun z => by
      rw [z, hD] at eb
      cases eb
    exact (upd_ne nb).trans (m12.oth b o n1 n2 ((upd_ne nb).trans eb))
/-- the own dict in slot i -/
def ownD (s : PSt) (i : Nat) (Q : Nat → KVs → Prop) : Prop := match s.ρ[i]? with
  | some (.ob j) => match s.θ[j]? with
    | some (.dct kvs) => Q j kvs
    | _ => False
  | _ => False
theorem ownD_un {H0 Hs : Hp} {P : Option (Addr × Addr)} {A : List Addr} {s : PSt} {av : List Addr} {σ : L2.St} {H : Hp} {i : Nat} {Q : Nat → KVs → Prop} (r : Rl K H0 Hs P A s av σ H) (h : ownD s i Q) : ∃ j kvs a es, A[j]? = some a ∧ s.θ[j]? = some (.dct kvs) ∧ s.ρ[i]? = some (.ob j) ∧ σ[i]? = some (some (.ref a)) ∧ H a = some (dctO a es) ∧ DctQ K (wos av H) es kvs ∧ Q j kvs := by
  unfold ownD at h
  split at h
  · rename_i j e
    split at h
    · rename_i kvs e2
      obtain ⟨_, v, e3, a, e4, rfl⟩ := r.sl i _ e (by simp)
      obtain ⟨_, e5, es, rfl, hd⟩ := r.obs j a _ e4 e2
      exact ⟨j, kvs, a, es, e4, e2, e, e3, e5, hd, h⟩
    · exact h.elim
  · exact h.elim
/-- d[k] = v -/
def pSetKey (i : Nat) (p q : PE1) : PS1 := fun D s => p s fun z s1 => ownD s1 i (fun _ _ => True) ∧ q s1 fun y s2 => ∃ d k, datOf z = some d ∧ datOf y = some (tI k) ∧ ownD s2 i fun j kvs => kvs.length < 10000 ∧ D.nx (upD s2 j (putK kvs k d))
theorem SS.setKey {Pg : Program} {wd : World} (i : Nat) (h1 : SE K t p) (h2 : SE K u q) : SS K (tAsg t (gSub (tVar i) u (rSetDct K Pg wd))) (pSetKey i p q) := by
  constructor
  intro H0 P A s av σ H PD D r h k
  refine h1.run r h fun x z s1 H1 r1 m1 v1 n1 ⟨ho, q⟩ => ?_
  obtain ⟨j, kv1, a, es1, e1, e2, e3, e4, _⟩ := ownD_un r1 ho
  refine ⟨.ref a, e4, ?_⟩
  refine h2.run r1 q fun y zz s2 H2 r2 m2 v2 n2 ⟨d, kk, hz, hy, q⟩ => ?_
  obtain ⟨j1, kvs, a1, es, f1, f2, f3, f4, f5, f6, hl, q⟩ := ownD_un r2 q
  obtain rfl := own_same m2 e3 f3 e1 f1
  obtain ⟨c, rfl, hT⟩ := (v2.dat hy).tI_un
  obtain ⟨r3, m3⟩ := r2.putO f1 (o := dctO a (putE es kk c x)) (ob := .dct (putK kvs kk d)) ⟨_, rfl, f6.put hT ((v1.same m2.same).dat hz)⟩
  exact ⟨a, c, es, kk, rfl, rfl, f5, f6.up wos_le, My.Same.sqt wos_le hT, by rw [f6.len, sizeLine_eq]; omega, k.nx _ _ _ _ _ r3.base (m1.trans (m2.trans m3)).gx q⟩
/-- len(d), list(d) -/
def fLenDct : FN := fun s as Q => ∃ z kvs, as = [z] ∧ dOf s z = some kvs ∧ Q (.d (.int (kvs.length : Nat)))
def fListDct : FN := fun s as Q => ∃ z kvs, as = [z] ∧ dOf s z = some kvs ∧ Q (.nw (kvs.map fun p => tI p.1))
/-! ### promises whose args may be dicts -/
def spS (K : PySem.W.Frag) (F : List Sl → (Sl → Prop) → Prop) : L2.Sp := fun vs H Q _ => ∃ (av : List Addr) (zs : List Sl) (Qf : Sl → Prop), AvO av H ∧ VRels K H av [] none H vs zs ∧ (∀ z ∈ zs, (∀ ds, z ≠ .nw ds) ∧ ∀ kvs, z ≠ .nd kvs) ∧ F zs Qf ∧ ∀ x z H', Same H H' → VRel K H av [] none H' x z → z ≠ .no → Qf z → Q x H'
def argS : Sl → Prop
  | .ob _ => False
  | .pen => False
  | .no => False
  | _ => True
def fS (F : List Sl → (Sl → Prop) → Prop) : FC := fun s as Q => (∀ z ∈ as, argS z) ∧ F (as.map plainS) fun z => Q z s
theorem VRels.args {Hs : Hp} {P : Option (Addr × Addr)} {A av : List Addr} {H : Hp} {xs : List V} {as : List Sl} (h : VRels K Hs av A P H xs as) (g : ∀ z ∈ as, argS z) : VRels K H av [] none H xs (as.map plainS) := by
  induction h with
  | nil => exact .nil
  | @cons x z xs zs h n t ih =>
    refine .cons ?_ (plainS_no n) (ih fun y hy => g y (List.mem_cons_of_mem _ hy))
    have hz := g z List.mem_cons_self
    have hp := h.plain
    cases z with
    | no => exact hz.elim
    | pen => exact hz.elim
    | ob i => exact hz.elim
    | _ => exact hp
theorem ClOk.s {F : List Sl → (Sl → Prop) → Prop} : ClOk K (spS K F) (fS F) := by
  constructor
  intro H0 Hs P A s av σ H xs as Q R r h ⟨g, hf⟩ k
  refine ⟨av, as.map plainS, _, r.avl, h.args g, fun z hz => ?_, hf, fun x z H' s' v n q => k x z s H' (r.same s') (r.stp s') (v.in_ r.dom) n q⟩
  obtain ⟨y, _, rfl⟩ := List.mem_map.mp hz
  exact plainS_nw
theorem VRels.at {Hs : Hp} {P : Option (Addr × Addr)} {A av : List Addr} {H : Hp} {xs : List V} {zs : List Sl} (h : VRels K Hs av A P H xs zs) {i : Nat} {z : Sl} (e : zs[i]? = some z) : z ∈ zs ∧ ∃ v, xs[i]? = some v ∧ VRel K Hs av A P H v z := by
  refine ⟨List.mem_of_getElem? e, ?_⟩
  induction h generalizing i with
  | nil => cases e
  | @cons x y xs zs h n t ih =>
    cases i with
    | zero => cases e; exact ⟨x, rfl, h⟩
    | succ i => exact ih e
theorem VRels.len {Hs : Hp} {P : Option (Addr × Addr)} {A av : List Addr} {H : Hp} {xs : List V} {zs : List Sl} (h : VRels K Hs av A P H xs zs) : xs.length = zs.length := by
  induction h with
  | nil => rfl
  | cons h n t ih => rw [List.length_cons, List.length_cons, ih]
theorem Rl.firstS {H : Hp} {av : List Addr} {vs : List V} {zs : List Sl} {n : Nat} (hL : AvO av H) (hd : VRels K H av [] none H vs zs) (hn : ∀ z ∈ zs, (∀ ds, z ≠ .nw ds) ∧ ∀ kvs, z ≠ .nd kvs) : Rl K H H none [] ⟨zs ++ List.replicate n .no, [], 0, 0⟩ av (vs.map some ++ List.replicate n none) H where
  avl := hL
  len := by
    show (zs ++ List.replicate n Sl.no).length = _
    rw [List.length_append, List.length_append, List.length_map, List.length_replicate, List.length_replicate, hd.len]
  alen := rfl
  nd := List.nodup_nil
  sub := fun a ha => by simp at ha
  obs := fun i a ds e => by simp at e
  sl := fun i z e nz => by
    have e : (zs ++ List.replicate n Sl.no)[i]? = some z := e
    by_cases hi : i < zs.length
    · rw [List.getElem?_append_left hi] at e
      obtain ⟨hm, v, ev, hv⟩ := hd.at e
      refine ⟨hn z hm, v, ?_, hv⟩
      rw [List.getElem?_append_left (by rw [List.length_map, hd.len]; exact hi), List.getElem?_map, ev]
      rfl
    · rw [List.getElem?_append_right (by omega), List.getElem?_replicate] at e
      split at e
      · cases e
        exact absurd rfl nz
      · cases e
  pen := fun p c e => by cases e
  fr := fun b o _ e => e
  dom0 := fun b e => e
  dom := fun b e => e
theorem SS.fnS {t : TS} {p : PS1} (h : SS K t p) {N : List Str} {vs : List V} {H : Hp} {Q : VK} {F : List Sl → (Sl → Prop) → Prop} (m : Nat) (hm : N.length = m) (hsp : spS K F vs H Q E0)
    (hp : ∀ zs Qf, zs.length = vs.length → F zs Qf → p { nx := fun s => Qf (.d .none), rt := retP fun z _ => Qf z } ⟨zs ++ List.replicate (m - zs.length) .no, [], 0, 0⟩) : t { nx := fun _ H' => Q .non H', rt := Q } (start N vs) H := by
  obtain ⟨av, zs, Qf, hL, hd, hn, hf, q⟩ := hsp
  subst hm
  have r := Rl.firstS (n := N.length - vs.length) hL hd hn
  have hp := hp zs Qf hd.len.symm hf
  rw [← hd.len] at hp
  have fr : ∀ {A' s' av' σ' H' Hz}, Rl K H Hz none A' s' av' σ' H' → Same H H' := fun r' b o e => r'.fr b o (fun _ _ e => by cases e) e
  refine h.run r hp ⟨fun A' s' av' σ' H' r' g q' => q _ _ H' (fr r') VRel.vnon (by simp) q', fun A' s' av' σ' H' x z r' g v n q' => ?_, fun _ _ _ _ _ _ _ q => q.elim, fun _ _ _ _ _ _ _ q => q.elim⟩
  obtain ⟨z', v', n', q'⟩ := ret_rel (vs := vs) (Q := fun z _ => Qf z) r' g.sub hL v n q'
  exact q x z' H' (fr r') v' n' q'
theorem spS_len {F : List Sl → (Sl → Prop) → Prop} {vs : List V} {H : Hp} {Q : VK} {n : Nat} (hl : ∀ zs Q, F zs Q → zs.length = n) (h : spS K F vs H Q E0) : vs.length = n := by
  obtain ⟨av, zs, Qf, hL, hd, hn, hf, q⟩ := h
  rw [hd.len]
  exact hl _ _ hf
end
end My
set_option Elab.async false
set_option linter.all false
set_option maxRecDepth 100000
set_option maxHeartbeats 4000000
namespace My
open PySem PySem.Spec PyProof.Rows L2 SrtO
/-! ### sorted(d), a dict whose keys are tuples of numbers, none empty -/
def entL (es : List Ent) : List (Addr × List Int) := es.map fun p => (p.2.1, p.1)
end My
set_option Elab.async false
set_option linter.all false
set_option maxRecDepth 100000
set_option maxHeartbeats 4000000
namespace My
open PySem PySem.Spec PyProof.Rows L2
/-! ### a search with a row and the ones before -/
theorem nodup_len {α : Type} [DecidableEq α] : ∀ {l m : List α}, l.Nodup → (∀ x ∈ l, x ∈ m) → l.length ≤ m.length
  | [], _, _, _ => Nat.zero_le _
  | x :: l, m, h, hs => by
    rw [List.nodup_cons] at h
    have h1 : x ∈ m := hs x List.mem_cons_self
    have h2 := nodup_len (m := m.erase x) h.2 fun y hy => (List.mem_erase_of_ne (fun e => h.1 (by rw [← e]; exact hy))).mpr (hs y (List.mem_cons_of_mem _ hy))
    rw [List.length_erase_of_mem h1] at h2
    have h3 := List.length_pos_of_mem h1
    rw [List.length_cons]
    omega
section
variable {α : Type} [DecidableEq α]
structure Bfs (nx : α → List α) (s : α) (row : List α) (par : α → Option α) (dep : α → Nat) (i m : Nat) : Prop where
  nd : row.Nodup
  s0 : row[0]? = some s
  ps : par s = none
  d0 : dep s = 0
  pp : ∀ x ∈ row, x ≠ s → ∃ p, par x = some p ∧ p ∈ row ∧ x ∈ nx p ∧ dep x = dep p + 1
  mono : (row.map dep).Pairwise (· ≤ ·)
  near : ∀ l, row[i]? = some l → ∀ x ∈ row, dep x ≤ dep l + 1
  done : ∀ (j : Nat) l, j < i → row[j]? = some l → ∀ x ∈ nx l, x ∈ row ∧ dep x ≤ dep l + 1
  part : ∀ l, row[i]? = some l → ∀ x ∈ (nx l).take m, x ∈ row
  le : i ≤ row.length
variable {nx : α → List α} {s : α} {row : List α} {par : α → Option α} {dep : α → Nat} {i m : Nat} {l x : α}
theorem Bfs.start : Bfs nx s [s] (fun _ => none) (fun _ => 0) 0 0 where
  nd := by simp
  s0 := rfl
  ps := rfl
  d0 := rfl
  pp := fun x hx n => absurd (List.mem_singleton.mp hx) n
  mono := by simp
  near := fun _ _ _ _ => Nat.zero_le _
  done := fun j l h => absurd h (Nat.not_lt_zero _)
  part := fun l _ x hx => by simp at hx
  le := Nat.zero_le _
theorem Bfs.old (h : Bfs nx s row par dep i m) (e : row[i]? = some l) (ex : (nx l)[m]? = some x) (hx : x ∈ row) : Bfs nx s row par dep i (m + 1) :=
  { h with
    part := fun l' e' y hy => by
      rw [e] at e'
      cases e'
      rw [List.take_add_one, ex, List.mem_append] at hy
      rcases hy with hy | hy
      · exact h.part l e y hy
      · rw [Option.toList_some, List.mem_singleton] at hy
        rw [hy]
        exact hx }
theorem Bfs.new (h : Bfs nx s row par dep i m) (e : row[i]? = some l) (ex : (nx l)[m]? = some x) (hx : x ∉ row) : Bfs nx s (row ++ [x]) (fun y => if y = x then some l else par y) (fun y => if y = x then dep l + 1 else dep y) i (m + 1) := by
  have hl : l ∈ row := List.mem_of_getElem? e
  have hs : s ∈ row := List.mem_of_getElem? h.s0
  have nx' : ∀ y ∈ row, y ≠ x := fun y hy e => hx (e ▸ hy)
  have hi := (List.getElem?_eq_some_iff.mp e).1
  have e' : (row ++ [x])[i]? = some l := by rw [List.getElem?_append_left hi]; exact e
  exact {
    nd := by
      rw [List.nodup_append]
      exact ⟨h.nd, by simp, fun a ha b hb => by rw [List.mem_singleton.mp hb]; exact nx' a ha⟩
    s0 := by
      rw [List.getElem?_append_left (List.length_pos_of_mem hs)]
      exact h.s0
    ps := by rw [if_neg (nx' s hs)]; exact h.ps
    d0 := by rw [if_neg (nx' s hs)]; exact h.d0
    pp := fun y hy n => by
      rcases List.mem_append.mp hy with hy | hy
      · obtain ⟨p, h1, h2, h3, h4⟩ := h.pp y hy n
        rw [if_neg (nx' y hy), if_neg (nx' y hy)]
        exact ⟨p, h1, List.mem_append_left _ h2, h3, by rw [if_neg (nx' p h2)]; exact h4⟩
      · rw [List.mem_singleton.mp hy, if_pos rfl, if_pos rfl]
        exact ⟨l, rfl, List.mem_append_left _ hl, List.mem_of_getElem? ex, by rw [if_neg (nx' l hl)]⟩
    mono := by
      rw [List.map_append, List.pairwise_append]
      have em : row.map (fun y => if y = x then dep l + 1 else dep y) = row.map dep := List.map_congr_left fun y hy => if_neg (nx' y hy)
      rw [em]
      refine ⟨h.mono, by simp, fun a ha b hb => ?_⟩
      obtain ⟨y, hy, rfl⟩ := List.mem_map.mp ha
      obtain ⟨z, hz, rfl⟩ := List.mem_map.mp hb
      rw [List.mem_singleton.mp hz, if_pos rfl]
      exact h.near l e y hy
    near := fun l' el y hy => by
      rw [e'] at el
      cases el
      rw [if_neg (nx' l hl)]
      rcases List.mem_append.mp hy with hy | hy
      · rw [if_neg (nx' y hy)]
        exact h.near l e y hy
      · rw [List.mem_singleton.mp hy, if_pos rfl]
        exact Nat.le_refl _
    done := fun j l' hj el y hy => by
      have hj2 : j < row.length := by omega
      rw [List.getElem?_append_left hj2] at el
      obtain ⟨h1, h2⟩ := h.done j l' hj el y hy
      rw [if_neg (nx' y h1), if_neg (nx' l' (List.mem_of_getElem? el))]
      exact ⟨List.mem_append_left _ h1, h2⟩
    part := fun l' el y hy => by
      rw [e'] at el
      cases el
      rw [List.take_add_one, ex, List.mem_append] at hy
      rcases hy with hy | hy
      · exact List.mem_append_left _ (h.part l e y hy)
      · rw [Option.toList_some, List.mem_singleton] at hy
        rw [hy]
        simp
    le := by rw [List.length_append]; omega }
theorem Bfs.next (h : Bfs nx s row par dep i m) (e : row[i]? = some l) (hm : (nx l).length ≤ m) : Bfs nx s row par dep (i + 1) 0 :=
  have hi := (List.getElem?_eq_some_iff.mp e).1
  { h with
    near := fun l' el y hy => by
      have h1 := h.near l e y hy
      have h2 : dep l ≤ dep l' := by
        have hp := List.pairwise_iff_getElem.mp h.mono i (i + 1) (by rw [List.length_map]; exact hi) (by rw [List.length_map]; exact (List.getElem?_eq_some_iff.mp el).1) (by omega)
        rw [List.getElem_map, List.getElem_map] at hp
        have a1 := (List.getElem?_eq_some_iff.mp e).2
        have a2 := (List.getElem?_eq_some_iff.mp el).2
        rw [a1, a2] at hp
        exact hp
      omega
    done := fun j l' hj el y hy => by
      by_cases hji : j = i
      · subst hji
        rw [e] at el
        cases el
        have h1 := h.part l e y (by rw [List.take_of_length_le hm]; exact hy)
        exact ⟨h1, h.near l e y h1⟩
      · exact h.done j l' (by omega) el y hy
    part := fun l' el y hy => by simp at hy
    le := by omega }
/-- a way from s, place by place -/
inductive Way (nx : α → List α) (s : α) : α → List α → Prop
  | one : Way nx s s [s]
  | snoc {p x : α} {ps : List α} : Way nx s p ps → x ∈ nx p → Way nx s x (ps ++ [x])
theorem Way.head {ps : List α} (h : Way nx s x ps) : ps[0]? = some s := by
  induction h with
  | one => rfl
  | @snoc p x ps h hx ih =>
    rw [List.getElem?_append_left (List.getElem?_eq_some_iff.mp ih).1]
    exact ih
theorem Way.pos {ps : List α} (h : Way nx s x ps) : 0 < ps.length := (List.getElem?_eq_some_iff.mp h.head).1
theorem Way.last {ps : List α} (h : Way nx s x ps) : ps[ps.length - 1]? = some x := by
  cases h with
  | one => rfl
  | @snoc p x ps h hx => simp
theorem Way.step {ps : List α} (h : Way nx s x ps) : ∀ (j : Nat) a b, ps[j]? = some a → ps[j + 1]? = some b → b ∈ nx a := by
  induction h with
  | one =>
    intro j a b h1 h2
    simp at h2
  | @snoc p x ps h hx ih =>
    intro j a b h1 h2
    by_cases hj : j + 1 < ps.length
    · rw [List.getElem?_append_left hj] at h2
      rw [List.getElem?_append_left (by omega)] at h1
      exact ih j a b h1 h2
    · have hl := (List.getElem?_eq_some_iff.mp h2).1
      rw [List.length_append, List.length_singleton] at hl
      have hj2 : j + 1 = ps.length := by omega
      rw [List.getElem?_append_left (by omega), show j = ps.length - 1 by omega, h.last] at h1
      cases h1
      rw [List.getElem?_append_right (by omega), hj2, Nat.sub_self] at h2
      cases h2
      exact hx
theorem Way.all {ps : List α} {p : α → Prop} (h : Way nx s x ps) (hs : p s) (hn : ∀ a b, p a → b ∈ nx a → p b) : (∀ y ∈ ps, p y) ∧ p x := by
  induction h with
  | one => exact ⟨fun y hy => by rw [List.mem_singleton.mp hy]; exact hs, hs⟩
  | @snoc q x ps h hx ih =>
    refine ⟨fun y hy => ?_, hn _ _ ih.2 hx⟩
    rcases List.mem_append.mp hy with hy | hy
    · exact ih.1 y hy
    · rw [List.mem_singleton.mp hy]
      exact hn _ _ ih.2 hx
theorem Bfs.all {p : α → Prop} (h : Bfs nx s row par dep i m) (hs : p s) (hn : ∀ a b, p a → b ∈ nx a → p b) : ∀ x ∈ row, p x := by
  have main : ∀ d x, x ∈ row → dep x = d → p x := by
    intro d
    induction d with
    | zero =>
      intro x hx e
      by_cases n : x = s
      · rw [n]; exact hs
      · obtain ⟨q, _, _, _, h4⟩ := h.pp x hx n
        omega
    | succ d ih =>
      intro x hx e
      by_cases n : x = s
      · rw [n]; exact hs
      · obtain ⟨q, _, h2, h3, h4⟩ := h.pp x hx n
        exact hn q x (ih q h2 (by omega)) h3
  exact fun x hx => main _ x hx rfl
/-- the ones before, from x on -/
theorem Bfs.trail (h : Bfs nx s row par dep i m) : ∀ x ∈ row, ∃ L : List α, L[0]? = some x ∧ (∀ (j : Nat) y, L[j]? = some y → y ∈ row ∧ par y = L[j + 1]?) ∧ Way nx s x L.reverse ∧ L.length = dep x + 1 ∧ L.Nodup ∧ ∀ y ∈ L, dep y ≤ dep x := by
  have main : ∀ d x, x ∈ row → dep x = d → ∃ L : List α, L[0]? = some x ∧ (∀ (j : Nat) y, L[j]? = some y → y ∈ row ∧ par y = L[j + 1]?) ∧ Way nx s x L.reverse ∧ L.length = dep x + 1 ∧ L.Nodup ∧ ∀ y ∈ L, dep y ≤ dep x := by
    have base : ∃ L : List α, L[0]? = some s ∧ (∀ (j : Nat) y, L[j]? = some y → y ∈ row ∧ par y = L[j + 1]?) ∧ Way nx s s L.reverse ∧ L.length = dep s + 1 ∧ L.Nodup ∧ ∀ y ∈ L, dep y ≤ dep s := by
      refine ⟨[s], rfl, fun j y e => ?_, .one, by rw [h.d0]; rfl, by simp, fun y hy => by rw [List.mem_singleton.mp hy]; exact Nat.le_refl _⟩
      cases j with
      | zero => cases e; exact ⟨List.mem_of_getElem? h.s0, h.ps⟩
      | succ j => simp at e
    intro d
    induction d with
    | zero =>
      intro x hx e
      by_cases n : x = s
      · rw [n]; exact base
      · obtain ⟨q, _, _, _, h4⟩ := h.pp x hx n
        omega
    | succ d ih =>
      intro x hx e
      by_cases n : x = s
      · rw [n]; exact base
      · obtain ⟨q, h1, h2, h3, h4⟩ := h.pp x hx n
        obtain ⟨L, g1, g2, g3, g4, g5, g6⟩ := ih q h2 (by omega)
        refine ⟨x :: L, rfl, fun j y e => ?_, by rw [List.reverse_cons]; exact .snoc g3 h3, by rw [List.length_cons, g4, h4], List.nodup_cons.mpr ⟨fun hx => (by have := g6 x hx; omega), g5⟩, fun y hy => by
          rcases List.mem_cons.mp hy with rfl | hy
          · exact Nat.le_refl _
          · have := g6 y hy
            omega⟩
        cases j with
        | zero => cases e; exact ⟨hx, h1.trans g1.symm⟩
        | succ j => exact g2 j y e
  exact fun x hx => main _ x hx rfl
/-- no way is shorter -/
theorem Bfs.short (h : Bfs nx s row par dep row.length m) {ps : List α} (w : Way nx s x ps) : x ∈ row ∧ dep x + 1 ≤ ps.length := by
  induction w with
  | one => exact ⟨List.mem_of_getElem? h.s0, by rw [h.d0]; simp⟩
  | @snoc p x ps w hx ih =>
    obtain ⟨j, hj, e⟩ := List.getElem_of_mem ih.1
    obtain ⟨h1, h2⟩ := h.done j p hj (List.getElem?_eq_some_iff.mpr ⟨hj, e⟩) x hx
    refine ⟨h1, ?_⟩
    rw [List.length_append, List.length_singleton]
    omega
end
/-! the dict -/
def optD : Option (List Int) → PyData
  | none => .none
  | some p => tI p
def cameL (row : List (List Int)) (par : List Int → Option (List Int)) : KVs := row.map fun x => (x, optD (par x))
theorem valK_came {par : List Int → Option (List Int)} {y : List Int} : ∀ {row : List (List Int)}, valK (cameL row par) y = if y ∈ row then some (optD (par y)) else none
  | [] => rfl
  | x :: row => by
    by_cases e : x = y
    · subst e
      simp [valK, cameL, List.find?_cons]
    · have ih := valK_came (par := par) (y := y) (row := row)
      have e1 : valK (cameL (x :: row) par) y = valK (cameL row par) y := by simp [valK, cameL, List.find?_cons, e]
      rw [e1, ih]
      by_cases h : y ∈ row
      · rw [if_pos h, if_pos (List.mem_cons_of_mem _ h)]
      · rw [if_neg h, if_neg (by rw [List.mem_cons, not_or]; exact ⟨fun z => e z.symm, h⟩)]
theorem valK_some {par : List Int → Option (List Int)} {y : List Int} {row : List (List Int)} : (valK (cameL row par) y).isSome = decide (y ∈ row) := by
  rw [valK_came]
  by_cases h : y ∈ row
  · rw [if_pos h, decide_eq_true h]; rfl
  · rw [if_neg h, decide_eq_false h]; rfl
theorem putK_came {par : List Int → Option (List Int)} {x l : List Int} {row : List (List Int)} (hx : x ∉ row) : putK (cameL row par) x (tI l) = cameL (row ++ [x]) (fun y => if y = x then some l else par y) := by
  unfold putK
  rw [valK_some, if_neg (by simp [hx])]
  unfold cameL
  rw [List.map_append]
  congr 1
  · refine List.map_congr_left fun y hy => ?_
    have n : y ≠ x := fun e => hx (e ▸ hy)
    dsimp only
    rw [if_neg n]
  · show [(x, tI l)] = [(x, optD (if x = x then some l else par x))]
    rw [if_pos rfl]
    rfl
theorem cameL_len {par : List Int → Option (List Int)} {row : List (List Int)} : (cameL row par).length = row.length := by unfold cameL; rw [List.length_map]
/-! sorted(d) -/
section
variable {K : PySem.W.Frag}
def fSortDct : FN := fun s as Q => ∃ z kvs, as = [z] ∧ dOf s z = some kvs ∧ (∀ p ∈ kvs, p.1 ≠ []) ∧ kvs.length ≤ 10000 ∧ ∀ L : List (List Int), L.Perm (kvs.map (·.1)) → LexUp L → Q (.nw (L.map tI))
theorem DctQ.mem {W : Hp} {es : List Ent} {kvs : KVs} (h : DctQ K W es kvs) : (entL es).map (·.2) = kvs.map (·.1) := by
  unfold DctQ at h
  unfold entL
  induction h with
  | nil => rfl
  | @cons p q ps qs h t ih => rw [List.map_cons, List.map_cons, List.map_cons, ih, h.1]
end
end My
set_option Elab.async false
set_option linter.all false
set_option maxRecDepth 100000
set_option maxHeartbeats 4000000
namespace My
open PySem PySem.Spec PyProof.Rows L2
theorem blT {c : Bool} {Q : Bool → Prop} (h : c = true) (k : Q true) : blOf (.d (.bool c)) Q := by rw [h]; exact k
theorem blF {c : Bool} {Q : Bool → Prop} (h : c = false) (k : Q false) : blOf (.d (.bool c)) Q := by rw [h]; exact k
/-- i += .. -/
def pAug (i : Nat) (p : PE1) : PS1 := fun D s => match s.ρ[i]? with
  | some (.d (.int a)) => p s fun z s1 => ∃ b, z = .d (.int b) ∧ D.nx { s1 with ρ := s1.ρ.set i (.d (.int (a + b))) }
  | _ => False
theorem SS.aug {K : PySem.W.Frag} {t : TE} {p : PE1} (i : Nat) (h1 : SE K t p) : SS K (tAug i t (ipI fun i j => i + j)) (pAug i p) := by
  constructor
  intro H0 P A s av σ H PD D r h k
  unfold pAug at h
  split at h
  · rename_i a e
    obtain ⟨_, v, e1, hv⟩ := r.sl i _ e (by simp)
    cases hv
    refine ⟨_, e1, ?_⟩
    refine h1.run r h fun y z s1 H1 r1 m1 v1 n1 ⟨b, ez, q⟩ => ?_
    subst ez
    cases v1
    exact ⟨a, b, rfl, rfl, k.nx _ _ _ _ _ (r1.set (x := .int (a + b)) (z := .d (.int (a + b))) (VRel.vint _) (by simp)).base m1.gx q⟩
  · exact h.elim
/-! ### rows of moves: promises -/
/-- a web, roots and bounds that are not too many -/
structure SceneOk (n : Nat) (T : List (Int × Int)) (rs : List Int) (bs : List (Int × Int)) : Prop where
  hW : WebOk n T
  n1 : 1 ≤ n
  n7 : n ≤ 7
  rb : ∀ y ∈ rs, 0 ≤ y ∧ y < n
  lbs : bs.length = rs.length
  k1 : 1 ≤ rs.length
  k5 : rs.length ≤ 5
  few : (dealsL rs.length rs n).length ≤ 1000
section
variable {K : PySem.W.Frag}
/-- a promise that tells a new list of data without lists -/
def fNewL (pre : List PyData → List PyData → Prop) : FC := fun s as Q => ∃ ds es, datsOf as = some ds ∧ pre ds es ∧ noLDs es = true ∧ Q (.nw es) s
end
/-- trail(came, last) -/
def FTrail (zs : List Sl) (Q : Sl → Prop) : Prop := ∃ (kvs : KVs) (x : List Int) (L : List (List Int)), zs = [.dd kvs, .d (tI x)] ∧ L[0]? = some x ∧ (∀ (j : Nat) y, L[j]? = some y → valK kvs y = some (optD L[j + 1]?)) ∧ L.length ≤ 5000 ∧ Q (.nw (L.reverse.map tI))
end My
set_option Elab.async false
set_option linter.all false
set_option maxRecDepth 100000
set_option maxHeartbeats 4000000
namespace My
open PySem PySem.Spec PyProof.Rows L2
/-! ### rows of standings -/
theorem decI {a b : Int} : decide (vOf (PyData.int a) = vOf (PyData.int b)) = decide (a = b) := decide_eq_decide.mpr ⟨fun h => V.int.inj h, fun h => by rw [h]⟩
/-- a test whose word is told -/
theorem blB {c : Bool} {Q : Bool → Prop} (k1 : c = true → Q true) (k2 : c = false → Q false) : blOf (.d (.bool c)) Q := by
  cases c with
  | true => exact k1 rfl
  | false => exact k2 rfl
def pairsB (p : List Int → List Int → Bool) : List (List Int) → Bool
  | a :: b :: l => p a b && pairsB p (b :: l)
  | _ => true
theorem pairsB_iff {p : List Int → List Int → Bool} : ∀ {L : List (List Int)}, pairsB p L = true ↔ ∀ (j : Nat) a b, L[j]? = some a → L[j + 1]? = some b → p a b = true
  | [] => ⟨fun _ j a b e => (by simp at e), fun _ => rfl⟩
  | [a] => ⟨fun _ j a b _ e => (by simp at e), fun _ => rfl⟩
  | a :: b :: l => by
    show (p a b && pairsB p (b :: l)) = true ↔ _
    rw [Bool.and_eq_true, pairsB_iff (L := b :: l)]
    constructor
    · rintro ⟨h1, h2⟩ j x y ex ey
      cases j with
      | zero => cases ex; cases ey; exact h1
      | succ j => exact h2 j x y ex ey
    · intro h
      exact ⟨h 0 a b rfl rfl, fun j x y ex ey => h (j + 1) x y ex ey⟩
theorem mem_nextL {T : List (Int × Int)} {n : Nat} {rs : List Int} {bs : List (Int × Int)} {a b : List Int} : b ∈ nextL T n rs bs a ↔ b ∈ standL T n rs bs ∧ apartB a b = true := by
  unfold nextL
  exact List.mem_filter
/-- a row is a way -/
theorem row_way {T : List (Int × Int)} {n : Nat} {rs : List Int} {bs : List (Int × Int)} {z o : List Int} : ∀ {L : List (List Int)}, (∀ r ∈ L, r ∈ standL T n rs bs) → L[0]? = some z → L[L.length - 1]? = some o → pairsB apartB L = true → Way (nextL T n rs bs) z o L := by
  have main : ∀ (m : Nat) (L : List (List Int)) (o : List Int), L.length = m + 1 → (∀ r ∈ L, r ∈ standL T n rs bs) → L[0]? = some z → L[m]? = some o → pairsB apartB L = true → Way (nextL T n rs bs) z o L := by
    intro m
    induction m with
    | zero =>
      intro L o hl hm e1 e2 hp
      rw [e1] at e2
      cases e2
      match L, hl, e1 with
      | [x], _, e1 => cases e1; exact .one
    | succ m ih =>
      intro L o hl hm e1 e2 hp
      obtain ⟨y, ey⟩ : ∃ y, L[m]? = some y := ⟨_, List.getElem?_eq_getElem (by omega)⟩
      have eL : L = L.take (m + 1) ++ [o] := by
        have : L = L.take (m + 1 + 1) := (List.take_of_length_le (by omega)).symm
        conv => lhs; rw [this]
        rw [List.take_add_one, e2]
        rfl
      rw [eL]
      have h1 := pairsB_iff.mp hp
      refine .snoc (ih (L.take (m + 1)) y (by rw [List.length_take]; omega) (fun r hr => hm r (List.mem_of_mem_take hr)) (by rw [List.getElem?_take, if_pos (by omega)]; exact e1) (by rw [List.getElem?_take, if_pos (by omega)]; exact ey) (pairsB_iff.mpr fun j a b ea eb => ?_)) (mem_nextL.mpr ⟨hm o (List.mem_of_getElem? e2), h1 m y o ey e2⟩)
      rw [List.getElem?_take] at ea eb
      split at ea
      · split at eb
        · exact h1 j a b ea eb
        · cases eb
      · cases ea
  intro L hm e1 e2 hp
  have hpos := (List.getElem?_eq_some_iff.mp e1).1
  exact main (L.length - 1) L o (by omega) hm e1 e2 hp
theorem way_row {T : List (Int × Int)} {n : Nat} {rs : List Int} {bs : List (Int × Int)} {z o : List Int} {L : List (List Int)} (hz : z ∈ standL T n rs bs) (h : Way (nextL T n rs bs) z o L) : (∀ r ∈ L, r ∈ standL T n rs bs) ∧ L[0]? = some z ∧ L[L.length - 1]? = some o ∧ pairsB apartB L = true :=
  ⟨(h.all (p := fun x => x ∈ standL T n rs bs) hz fun a b _ hb => (mem_nextL.mp hb).1).1, h.head, h.last, pairsB_iff.mpr fun j a b ea eb => (mem_nextL.mp (h.step j a b ea eb)).2⟩
/-! promises -/
/-! orders -/
section
variable {K : PySem.W.Frag}
/-- a promise that tells data without lists, as a word says -/
def fTo (G : List PyData → (PyData → Prop) → Prop) : FC := fun s as Q => ∃ ds, datsOf as = some ds ∧ G ds fun r => noLD r = true ∧ Q (.d r) s
theorem ClOk.to {sp : L2.Sp} {G : List PyData → (PyData → Prop) → Prop} (h : ∀ vs ds H Q (Qf : PyData → Prop), DqAll K H vs ds → G ds Qf → (∀ r x H', Qf r → Same H H' → Dq K H' x r → Q x H') → sp vs H Q E0) : ClOk K sp (fTo G) := by
  constructor
  intro H0 Hs P A s av σ H xs as Q R r hv ⟨ds, h1, hg⟩ k
  exact h xs ds H R _ (DqAll.same wos_le (hv.dats h1)) hg fun d x H' hp s' hx => k x (.d d) s H' (r.same s') (r.stp s') (VRel.vd (Dq.noL (r.avl.same s') hp.1 hx)) (by simp) hp.2
end
theorem apartB_symm {a b : List Int} (h : a.length = b.length) : apartB a b = apartB b a := by
  unfold apartB
  rw [h]
  congr 1
  have : ((List.range b.length).filter fun p => !decide (a.getD p 0 = b.getD p 0)) = (List.range b.length).filter fun p => !decide (b.getD p 0 = a.getD p 0) :=
    List.filter_congr fun p _ => by congr 1; exact decide_eq_decide.mpr eq_comm
  rw [this]
/-- a way back -/
theorem way_back {T : List (Int × Int)} {n : Nat} {rs : List Int} {bs : List (Int × Int)} {z o : List Int} {L : List (List Int)} (hz : z ∈ standL T n rs bs) (h : Way (nextL T n rs bs) z o L) : Way (nextL T n rs bs) o z L.reverse := by
  obtain ⟨h1, h2, h3, h4⟩ := way_row hz h
  have hpos := (List.getElem?_eq_some_iff.mp h2).1
  refine row_way (fun r hr => h1 r (List.mem_reverse.mp hr)) ?_ ?_ (pairsB_iff.mpr fun j a b ea eb => ?_)
  · rw [List.getElem?_reverse (by omega)]
    rw [show L.length - 1 - 0 = L.length - 1 by omega]
    exact h3
  · rw [List.length_reverse, List.getElem?_reverse (by omega), show L.length - 1 - (L.length - 1) = 0 by omega]
    exact h2
  · have hj := (List.getElem?_eq_some_iff.mp eb).1
    rw [List.length_reverse] at hj
    rw [List.getElem?_reverse (by omega)] at ea eb
    have ea : L[(L.length - 1 - (j + 1)) + 1]? = some a := by
      rw [show L.length - 1 - (j + 1) + 1 = L.length - 1 - j by omega]
      exact ea
    have hA := standL_bd (h1 a (List.mem_of_getElem? ea))
    have hB := standL_bd (h1 b (List.mem_of_getElem? eb))
    rw [apartB_symm (by rw [hA.1, hB.1])]
    exact pairsB_iff.mp h4 _ b a eb ea
end My
set_option Elab.async false
set_option linter.all false
set_option maxRecDepth 100000
set_option maxHeartbeats 4000000
namespace My
open PySem PySem.Spec PyProof.Rows L2
/-! ### shut sets, scenes -/
section
variable {K : PySem.W.Frag}
/-- one of a list, of a tuple, as data -/
def fOneOfX : FC := fun s as Q => ∃ z ds d, as = [.pen, z] ∧ datOf z = some d ∧ (d = .list ds ∨ d = .tuple ds) ∧ s.k ≤ 1000000 ∧ 1 ≤ ds.length ∧ ds.length ≤ 100000 ∧ ∀ (j : Nat) (e : PyData), ds[j]? = some e → Q (.d e) { s with k := s.k + 1 }
end
/-! wider bounds, more ties -/
/-! tuples of numbers in a tuple of such; comprehensions of two clauses -/
theorem in_tIs {neg : Bool} {s : PSt} {a b : Sl} {Q : Sl → Prop} {r : List Int} {L : List (List Int)} (h1 : datOf a = some (tI r)) (h2 : datOf b = some (.tuple (L.map tI))) (lr : r.length ≤ 100000) (lL : L.length ≤ 1000) (hL : ∀ x ∈ L, x.length ≤ 100000)
    (q : Q (.d (.bool (if neg then !decide (r ∈ L) else decide (r ∈ L))))) : fInD neg false s a b Q := by
  refine ⟨tI r, L.map tI, 2, 3, h1, h2, fit_tI lr, fit_tIs (rms := L) lL hL, by simpa only [tI, PyData.canLay0] using canLay_ints r, Nat.le_trans (depth_ints r) (by decide), (lay_tIs _).1, ?_⟩
  rw [any_eqv]
  exact q
/-- few standings -/
theorem stand_few {n : Nat} {rs : List Int} {T : List (Int × Int)} {bs : List (Int × Int)} (nd : rs.Nodup) (hb : ∀ z ∈ rs, 0 ≤ z ∧ z < n) (h1 : 1 ≤ rs.length) (h3 : rs.length ≤ 3) (hn : n ≤ 6) : (standL T n rs bs).length ≤ 100 := by
  refine Nat.le_trans (by unfold standL; exact List.length_filter_le _ _) ?_
  have hp := dealsL_pow (k := rs.length) nd n
  have hc : rs.countP (fun z => decide (0 ≤ z ∧ z < (n : Int))) = rs.length := by
    rw [List.countP_eq_length]
    exact fun z hz => decide_eq_true (hb z hz)
  rw [hc] at hp
  generalize (dealsL rs.length rs n).length = m at hp ⊢
  generalize rs.length = k at hp h1 h3
  match k, h1, h3 with
  | 1, _, _ => simp at hp; omega
  | 2, _, _ =>
    have : 2 ^ n ≤ 2 ^ 6 := Nat.pow_le_pow_right (by decide) hn
    omega
  | 3, _, _ =>
    have : 3 ^ n ≤ 3 ^ 6 := Nat.pow_le_pow_right (by decide) hn
    omega
/-- rows shortest of all -/
def Best (nx : List Int → List (List Int)) (z o : List Int) (ps : List (List Int)) : Prop := Way nx z o ps ∧ ∀ qs, Way nx z o qs → ps.length ≤ qs.length
theorem Best.back {T : List (Int × Int)} {n : Nat} {rs : List Int} {bs : List (Int × Int)} {z o : List Int} {ps qs : List (List Int)} (hz : z ∈ standL T n rs bs) (ho : o ∈ standL T n rs bs) (h : Best (nextL T n rs bs) z o ps) (g : Best (nextL T n rs bs) o z qs) : ps.length = qs.length := by
  have h1 := g.2 _ (way_back hz h.1)
  have h2 := h.2 _ (way_back ho g.1)
  rw [List.length_reverse] at h1 h2
  omega
theorem Way.trans {α : Type} [DecidableEq α] {nx : α → List α} {a b c : α} {ps qs : List α} (h : Way nx a b ps) (g : Way nx b c qs) : ∃ rs, Way nx a c rs := by
  induction g with
  | one => exact ⟨ps, h⟩
  | snoc _ hx ih =>
    obtain ⟨rs, hr⟩ := ih
    exact ⟨_, .snoc hr hx⟩
end My
set_option Elab.async false
set_option linter.all false
set_option maxRecDepth 100000
set_option maxHeartbeats 4000000
namespace My
open PySem PySem.Spec PyProof.Rows L2
section
variable {K : PySem.W.Frag} {te tf : TE} {pe pf : PE1}
/-- sorted(set(l)), l tuples of numbers, none empty -/
def pSortSetL (p : PE1) : PE1 := fun s Q => p s fun z s1 => ∃ D : List (List Int), seqOf s1 z = some (true, D.map tI) ∧ D.length < 64 ∧ (∀ r ∈ D, r ≠ [] ∧ r.length ≤ 100000) ∧ ∀ L : List (List Int), L.Nodup → LexUp L → (∀ r, r ∈ L ↔ r ∈ D) → Q (.nw (L.map tI)) s1
end
end My
set_option Elab.async false
set_option linter.all false
set_option maxRecDepth 100000
set_option maxHeartbeats 4000000
namespace My
open PySem PySem.Spec PyProof.Rows L2
/-! ### few moves between two lots of dealings -/
end My
set_option Elab.async false
set_option linter.all false
set_option maxRecDepth 100000
set_option maxHeartbeats 4000000
namespace My
open PySem PySem.Spec PyProof.Rows L2
/-! ### how far: layer by layer -/
section
variable {α : Type} [DecidableEq α]
def DistIs (nx : α → List α) (z x : α) (m : Nat) : Prop := (∃ ps, Way nx z x ps ∧ ps.length = m + 1) ∧ ∀ qs, Way nx z x qs → m + 1 ≤ qs.length
variable {nx : α → List α} {z x y : α} {m : Nat}
theorem dist_ex : ∀ (n : Nat) {ps : List α}, Way nx z x ps → ps.length ≤ n → ∃ m, DistIs nx z x m ∧ m + 1 ≤ n
  | 0, ps, h, hl => by
    have := h.pos
    omega
  | n + 1, ps, h, hl => by
    by_cases hs : ∃ qs, Way nx z x qs ∧ qs.length ≤ n
    · obtain ⟨qs, hq, hql⟩ := hs
      obtain ⟨m, hm, hmn⟩ := dist_ex n hq hql
      exact ⟨m, hm, by omega⟩
    · have hp := h.pos
      have hln : ps.length = n + 1 := by
        refine Classical.byContradiction fun hne => hs ⟨ps, h, by omega⟩
      refine ⟨n, ⟨⟨ps, h, hln⟩, fun qs hq => ?_⟩, Nat.le_refl _⟩
      refine Classical.byContradiction fun hne => hs ⟨qs, hq, by omega⟩
theorem dist_uniq {m' : Nat} (h : DistIs nx z x m) (g : DistIs nx z x m') : m = m' := by
  obtain ⟨⟨ps, hp, e1⟩, h2⟩ := h
  obtain ⟨⟨qs, hq, e2⟩, g2⟩ := g
  have := h2 qs hq
  have := g2 ps hp
  omega
theorem dist_zero : DistIs nx z x 0 ↔ x = z := by
  constructor
  · rintro ⟨⟨ps, hp, e⟩, _⟩
    have h1 := hp.head
    have h2 := hp.last
    rw [e] at h2
    exact Option.some.inj (h2.symm.trans h1)
  · rintro rfl
    exact ⟨⟨_, .one, rfl⟩, fun qs hq => hq.pos⟩
theorem dist_pred (h : DistIs nx z y (m + 1)) : ∃ p, DistIs nx z p m ∧ y ∈ nx p := by
  obtain ⟨⟨ps, hp, e⟩, h2⟩ := h
  cases hp with
  | one => simp at e
  | @snoc p _ ps hp hy =>
    rw [List.length_append, List.length_singleton] at e
    refine ⟨p, ⟨⟨ps, hp, by omega⟩, fun qs hq => ?_⟩, hy⟩
    have := h2 _ (Way.snoc hq hy)
    rw [List.length_append, List.length_singleton] at this
    omega
theorem dist_len {E : List α} (hz : z ∈ E) (hE : ∀ a, ∀ b ∈ nx a, b ∈ E) : ∀ (m : Nat) {x : α}, DistIs nx z x m → ∃ L : List α, L.length = m + 1 ∧ L.Nodup ∧ ∀ y ∈ L, y ∈ E ∧ ∃ j ≤ m, DistIs nx z y j
  | 0, x, h => by
    have e := dist_zero.mp h
    exact ⟨[x], rfl, by simp, fun y hy => by rw [List.mem_singleton.mp hy]; exact ⟨e ▸ hz, 0, Nat.le_refl _, h⟩⟩
  | m + 1, x, h => by
    obtain ⟨p, hp, hx⟩ := dist_pred h
    obtain ⟨L, h1, h2, h3⟩ := dist_len hz hE m hp
    refine ⟨x :: L, by rw [List.length_cons, h1], List.nodup_cons.mpr ⟨fun hm => ?_, h2⟩, fun y hy => ?_⟩
    · obtain ⟨_, j, hj, hd⟩ := h3 x hm
      have := dist_uniq h hd
      omega
    · rcases List.mem_cons.mp hy with rfl | hy
      · exact ⟨hE p _ hx, m + 1, Nat.le_refl _, h⟩
      · obtain ⟨a, j, hj, hd⟩ := h3 y hy
        exact ⟨a, j, by omega, hd⟩
end
/-! dicts put -/
theorem valK_keys {kvs : KVs} {k : List Int} : (valK kvs k).isSome = decide (k ∈ kvs.map (·.1)) := by
  induction kvs with
  | nil => rfl
  | cons p kvs ih =>
    by_cases e : p.1 = k
    · have : valK (p :: kvs) k = some p.2 := by simp [valK, List.find?_cons, e]
      rw [this, List.map_cons]
      simp [e]
    · have : valK (p :: kvs) k = valK kvs k := by simp [valK, List.find?_cons, e]
      rw [this, ih, List.map_cons]
      have e' : ¬ k = p.1 := fun h => e h.symm
      simp [e']
/-! promises -/
section
variable {K : PySem.W.Frag}
def cApart (ds : List PyData) (r : PyData) : Prop := ∃ zs r' : List Int, ds = [tI zs, tI r'] ∧ r'.length = zs.length ∧ zs.length ≤ 100 ∧ r = .int ((apartN zs r' : Nat) : Int)
theorem ClOk.apart : ClOk K (spApart K) (fFlat cApart) := ClOk.flat fun vs ds r H Q hd ⟨zs, r', e, hl, h100, e2⟩ q => by
  subst e e2
  cases hd with
  | cons h1 t =>
    cases t with
    | cons h2 t =>
      cases t
      exact ⟨_, _, zs, r', rfl, h1, h2, hl, h100, q⟩
end
/-- what is found so far: how far each is -/
structure FoundL (nx : List Int → List (List Int)) (z : List Int) (i : Nat) (kvs : KVs) : Prop where
  nd : (kvs.map (·.1)).Nodup
  yes : ∀ x m, m ≤ i → DistIs nx z x m → valK kvs x = some (.int (m : Nat))
  no : ∀ x, (∀ m ≤ i, ¬ DistIs nx z x m) → valK kvs x = none
theorem FoundL.keysE {T : List (Int × Int)} {n : Nat} {rs : List Int} {bs : List (Int × Int)} {z : List Int} {i : Nat} {kvs : KVs} (h : FoundL (nextL T n rs bs) z i kvs) (hz : z ∈ standL T n rs bs) : ∀ x ∈ kvs.map (·.1), x ∈ standL T n rs bs ∧ ∃ m ≤ i, DistIs (nextL T n rs bs) z x m := fun x hx => by
  have h1 := valK_keys (kvs := kvs) (k := x)
  rw [decide_eq_true hx] at h1
  have : ∃ m ≤ i, DistIs (nextL T n rs bs) z x m := by
    refine Classical.byContradiction fun hn => ?_
    rw [h.no x fun m hm hd => hn ⟨m, hm, hd⟩] at h1
    cases h1
  obtain ⟨m, hm, hd⟩ := this
  obtain ⟨⟨ps, hp, _⟩, _⟩ := id hd
  obtain ⟨a1, _, a3, _⟩ := way_row hz hp
  exact ⟨a1 x (List.mem_of_getElem? a3), m, hm, hd⟩
theorem FoundL.len {T : List (Int × Int)} {n : Nat} {rs : List Int} {bs : List (Int × Int)} {z : List Int} {i : Nat} {kvs : KVs} (h : FoundL (nextL T n rs bs) z i kvs) (hz : z ∈ standL T n rs bs) : kvs.length ≤ (standL T n rs bs).length := by
  have := nodup_len h.nd fun x hx => (h.keysE hz x hx).1
  rw [List.length_map] at this
  exact this
/-- at the end all that are reached are found -/
theorem FoundL.all {T : List (Int × Int)} {n : Nat} {rs : List Int} {bs : List (Int × Int)} {z x : List Int} {kvs : KVs} (h : FoundL (nextL T n rs bs) z (standL T n rs bs).length kvs) (hz : z ∈ standL T n rs bs) : ((∃ ps, Way (nextL T n rs bs) z x ps) → ∃ m, DistIs (nextL T n rs bs) z x m ∧ valK kvs x = some (.int (m : Nat))) ∧ ((∀ ps, ¬ Way (nextL T n rs bs) z x ps) → valK kvs x = none) := by
  constructor
  · rintro ⟨ps, hp⟩
    obtain ⟨m, hm, _⟩ := dist_ex ps.length hp (Nat.le_refl _)
    obtain ⟨L, h1, h2, h3⟩ := dist_len (E := standL T n rs bs) hz (fun a b hb => (mem_nextL.mp hb).1) m hm
    have := nodup_len h2 fun y hy => (h3 y hy).1
    exact ⟨m, hm, h.yes x m (by omega) hm⟩
  · intro hno
    exact h.no x fun m _ ⟨⟨ps, hp, _⟩, _⟩ => hno ps hp
end My
set_option Elab.async false
set_option linter.all false
set_option maxRecDepth 100000
set_option maxHeartbeats 4000000
namespace My
open PySem PySem.Spec PyProof.Rows L2
theorem in_tIsL {neg : Bool} {s : PSt} {a b : Sl} {Q : Sl → Prop} {r : List Int} {L : List (List Int)} (h1 : datOf a = some (tI r)) (h2 : datOf b = some (.list (L.map tI))) (lr : r.length ≤ 100000) (lL : L.length ≤ 1000) (hL : ∀ x ∈ L, x.length ≤ 100000)
    (q : Q (.d (.bool (if neg then !decide (r ∈ L) else decide (r ∈ L))))) : fInD neg true s a b Q := by
  refine ⟨tI r, L.map tI, 2, 3, h1, h2, fit_tI lr, fit_tIs (rms := L) lL hL, by simpa only [tI, PyData.canLay0] using canLay_ints r, Nat.le_trans (depth_ints r) (by decide), (lay_tIs _).1, ?_⟩
  rw [any_eqv]
  exact q
/-! told rows, told shut sets -/
structure ScnOk (n : Nat) (T : List (Int × Int)) (rs : List Int) (bs : List (Int × Int)) : Prop where
  hS : SceneOk n T rs bs
  nd : rs.Nodup
  k3 : rs.length ≤ 3
  n6 : n ≤ 6
theorem ScnOk.few {n : Nat} {T : List (Int × Int)} {rs : List Int} {bs : List (Int × Int)} (h : ScnOk n T rs bs) : (standL T n rs bs).length ≤ 100 := stand_few h.nd h.hS.rb h.hS.k1 h.k3 h.n6
end My
set_option Elab.async false
set_option linter.all false
set_option maxRecDepth 100000
set_option maxHeartbeats 4000000
namespace My
open PySem PySem.Spec PyProof.Rows L2
/-! ### dicts of numbers -/
theorem lt1 {a : Nat} (h : a + 64 < cLine) : a + 1 < cLine := by omega
def encI (kvs : List (Int × Int)) : List (Key × V) := kvs.map fun p => (Sum.inl p.1, V.int p.2)
def valI (kvs : List (Int × Int)) (k : Int) : Option Int := (kvs.find? fun p => decide (p.1 = k)).map (·.2)
def putI (kvs : List (Int × Int)) (k v : Int) : List (Int × Int) := if (kvs.any fun p => decide (p.1 = k)) = true then kvs.map (fun p => if p.1 = k then (p.1, v) else p) else kvs ++ [(k, v)]
theorem inl_eq {a b : Int} : ((Sum.inl a : Key) = Sum.inl b) ↔ a = b := ⟨Sum.inl.inj, fun h => by rw [h]⟩
theorem valV_enc {kvs : List (Int × Int)} {k : Int} : valV (encI kvs) (Sum.inl k : Key) = (valI kvs k).map V.int := by
  induction kvs with
  | nil => rfl
  | cons p kvs ih =>
    by_cases e : p.1 = k
    · have h1 : valV (encI (p :: kvs)) (Sum.inl k : Key) = some (V.int p.2) := valV_pos (inl_eq.mpr e)
      have h2 : valI (p :: kvs) k = some p.2 := by simp [valI, List.find?_cons, e]
      rw [h1, h2]
      rfl
    · have h1 : valV (encI (p :: kvs)) (Sum.inl k : Key) = valV (encI kvs) (Sum.inl k : Key) := valV_neg fun h => e (inl_eq.mp h)
      have h2 : valI (p :: kvs) k = valI kvs k := by simp [valI, List.find?_cons, e]
      rw [h1, h2, ih]
theorem put_enc {kvs : List (Int × Int)} {k v : Int} : L2.putK (encI kvs) (Sum.inl k : Key) (V.int v) = encI (putI kvs k v) := by
  unfold L2.putK putI encI
  have ea : ((kvs.map fun p => ((Sum.inl p.1 : Key), V.int p.2)).any fun kv => decide (kv.1 = Sum.inl k)) = kvs.any fun p => decide (p.1 = k) := by
    rw [List.any_map]
    congr 1
    funext p
    exact decide_eq_decide.mpr inl_eq
  rw [ea]
  split
  · rw [List.map_map, List.map_map]
    refine List.map_congr_left fun p _ => ?_
    show (if (Sum.inl p.1 : Key) = Sum.inl k then ((Sum.inl p.1 : Key), V.int v) else (Sum.inl p.1, V.int p.2)) = _
    by_cases e : p.1 = k
    · rw [if_pos (inl_eq.mpr e)]
      show _ = ((Sum.inl (if p.1 = k then (p.1, v) else p).1 : Key), V.int (if p.1 = k then (p.1, v) else p).2)
      rw [if_pos e]
    · rw [if_neg fun h => e (inl_eq.mp h)]
      show _ = ((Sum.inl (if p.1 = k then (p.1, v) else p).1 : Key), V.int (if p.1 = k then (p.1, v) else p).2)
      rw [if_neg e]
  · rw [List.map_append]
    rfl
theorem putI_len {kvs : List (Int × Int)} {k v : Int} : (putI kvs k v).length ≤ kvs.length + 1 := by
  unfold putI
  split
  · rw [List.length_map]; omega
  · rw [List.length_append]; simp
theorem valI_put {kvs : List (Int × Int)} {k j v : Int} : valI (putI kvs k v) j = if j = k then some v else valI kvs j := by
  have h := valV_put (encI kvs) (Sum.inl k : Key) (Sum.inl j) (V.int v)
  rw [put_enc, valV_enc, valV_enc] at h
  have inj : ∀ {a b : Option Int}, a.map V.int = b.map V.int → a = b := fun {a b} h => by
    cases a <;> cases b <;> simp at h ⊢
    exact h
  by_cases e : j = k
  · rw [if_pos (inl_eq.mpr e)] at h
    rw [if_pos e]
    exact inj (h.trans rfl)
  · rw [if_neg fun z => e (inl_eq.mp z)] at h
    rw [if_neg e]
    exact inj h
section
variable {K : PySem.W.Frag} {t u v te : TE} {p q r pe : PE1}
/-- d[k] -/
def pDiGet (p q : PE1) : PE1 := fun s Q => p s fun a s1 => q s1 fun b s2 => ∃ kvs k v, a = .di kvs ∧ b = .d (.int k) ∧ valI kvs k = some v ∧ Q (.d (.int v)) s2
theorem SE.diGet (h1 : SE K t p) (h2 : SE K u q) : SE K (tDGet t u) (pDiGet p q) := by
  constructor
  intro H0 Hs P A s av σ H Q R rl h k
  refine h1.run rl h fun x z s1 H1 r1 m1 v1 n1 h => h2.run r1 h fun y b s2 H2 r2 m2 v2 n2 ⟨kvs, kk, w, e1, e2, e3, hq⟩ => ?_
  subst e1 e2
  obtain ⟨a, rfl, ea⟩ := v1.same m2.same
  cases v2
  have hg := DGet.k (k := Sum.inl kk) (wos_le _ _ ea)
  rw [show valV (kvs.map fun p => ((Sum.inl p.1 : Key), V.int p.2)) (Sum.inl kk : Key) = some (.int w) by
    have := valV_enc (kvs := kvs) (k := kk)
    rw [e3] at this
    exact this] at hg
  exact ⟨a, .int w, rfl, hg, k _ _ s2 H2 r2 (m1.trans m2) (VRel.vint _) (by simp) hq⟩
/-- k in d -/
def pDiIn (q p : PE1) : PE1 := fun s Q => q s fun b s1 => p s1 fun a s2 => ∃ kvs k, a = .di kvs ∧ b = .d (.int k) ∧ Q (.d (.bool (valI kvs k).isSome)) s2
theorem SE.diIn (h2 : SE K u q) (h1 : SE K t p) : SE K (tDIn u t) (pDiIn q p) := by
  constructor
  intro H0 Hs P A s av σ H Q R rl h k
  refine h2.run rl h fun y b s1 H1 r1 m1 v1 n1 h => h1.run r1 h fun x z s2 H2 r2 m2 v2 n2 ⟨kvs, kk, e1, e2, hq⟩ => ?_
  subst e1 e2
  obtain ⟨a, rfl, ea⟩ := v2
  cases v1
  have hg := DGet.k (k := Sum.inl kk) (wos_le _ _ ea)
  refine ⟨a, _, rfl, hg, ?_⟩
  rw [show (valV (kvs.map fun p => ((Sum.inl p.1 : Key), V.int p.2)) (Sum.inl kk : Key)).isSome = (valI kvs kk).isSome by
    have := valV_enc (kvs := kvs) (k := kk)
    unfold encI at this
    rw [this, Option.isSome_map]]
  exact k _ _ s2 H2 r2 (m1.trans m2) (VRel.vbl _) (by simp) hq
/-- d.get(k, x) -/
def pDiGet2 (p q r : PE1) : PE1 := fun s Q => p s fun a s1 => ∃ kvs, a = .di kvs ∧ q s1 fun b s2 => r s2 fun c s3 => ∃ k x : Int, b = .d (.int k) ∧ c = .d (.int x) ∧ Q (.d (.int ((valI kvs k).getD x))) s3
theorem SE.diGet2 (h1 : SE K t p) (h2 : SE K u q) (h3 : SE K v r) : SE K (tDGet2 t u v) (pDiGet2 p q r) := by
  constructor
  intro H0 Hs P A s av σ H Q R rl h k
  refine h1.run rl h fun x z s1 H1 r1 m1 v1 n1 ⟨kvs, e1, h⟩ => ?_
  subst e1
  obtain ⟨a, rfl, ea⟩ := v1
  refine ⟨a, rfl, .inl ⟨_, .inl (wos_le _ _ ea)⟩, ?_⟩
  refine h2.run r1 h fun y b s2 H2 r2 m2 v2 n2 h => h3.run r2 h fun w c s3 H3 r3 m3 v3 n3 ⟨kk, xx, e2, e3, hq⟩ => ?_
  subst e2 e3
  cases v2
  cases v3
  have hg := DGet.k (k := Sum.inl kk) (wos_le _ _ ((m2.trans m3).same _ _ ea))
  refine ⟨_, hg, ?_⟩
  rw [show (valV (kvs.map fun p => ((Sum.inl p.1 : Key), V.int p.2)) (Sum.inl kk : Key)).getD (.int xx) = .int ((valI kvs kk).getD xx) by
    have := valV_enc (kvs := kvs) (k := kk)
    unfold encI at this
    rw [this]
    cases valI kvs kk <;> rfl]
  exact k _ _ s3 H3 r3 (m1.trans (m2.trans m3)) (VRel.vint _) (by simp) hq
variable {tk tv : TE} {pk pv : PE1} {tt : TT} {pt : PT1} {wi : TI} {pi : PI1} {g : TG} {pg : PG1} {ws vs : List Nat}
/-- {k: v for .. in ..}, numbers -/
def pDc (pi : PI1) (pg : PG1) (pt : PT1) (pk pv : PE1) (vs : List Nat) : PE1 := fun s Q => pi s fun gd ds s1 => ds.length ≤ 10000 ∧ ∃ I : Nat → List (Int × Int) → PSt → Prop, I 0 [] s1 ∧ (∀ i acc s2, I i acc s2 → ∀ j, gd = some j → s2.θ[j]? = some (.lst ds)) ∧
  (∀ (i : Nat) (d : PyData) (acc : List (Int × Int)) (s2 : PSt), ds[i]? = some d → I i acc s2 → s2.ρ = s1.ρ → pg (.d d) { s2 with ρ := wipeP s1.ρ vs } fun s3 => pt s3 fun b s4 => if b = true then pk s4 fun y s5 => pv s5 fun z s6 => ∃ k v, y = .d (.int k) ∧ z = .d (.int v) ∧ I (i + 1) (putI acc k v) { s6 with ρ := s1.ρ } else I (i + 1) acc { s4 with ρ := s1.ρ }) ∧
  ∀ acc s2, I ds.length acc s2 → s2.ρ = s1.ρ → Q (.di acc) s2
theorem SE.dc (hi : SI K wi pi) (hg : SG K ws g pg) (ht : ST K tt pt) (hk : SE K tk pk) (he : SE K tv pv) (hw : ∀ i ∈ ws, i ∈ vs) : SE K (tDc wi g tt tk tv vs) (pDc pi pg pt pk pv vs) := by
  constructor
  intro H0 Hs P A s av σ H Q R rl h k
  refine hi.run rl h fun J gd ds s1 H1 r1 m1 io _ ⟨hl, I, i0, igd, it, iq⟩ => ?_
  intro D hD
  have un := r1.under hD
  refine ⟨fun i m H2 => m = ds.length - i ∧ i ≤ ds.length ∧ ∃ (acc : List (Int × Int)) (s2 : PSt), I i acc s2 ∧ s2.ρ = s1.ρ ∧ acc.length ≤ i ∧ Rl K H0 Hs P A s2 (D :: av) σ H2 ∧ H2 D = some (.dK (encI acc)) ∧ Same (wos av H1) (wos (D :: av) H2) ∧ s1.m ≤ s2.m ∧ (s2.m = s1.m → s2.θ = s1.θ ∧ ∀ a ∈ A, H2 a = H1 a) ∧ (∀ b o, b ∉ A → (∀ p c, P = some (p, c) → b ≠ p) → H1 b = some o → H2 b = some o), ⟨ds.length, rfl, Nat.zero_le _, [], s1, i0, rfl, Nat.le_refl _, r1.pushO (o := .dK []) hD trivial, upd_same, wos_fresh hD (My.Same.new hD), Nat.le_refl _, fun _ => ⟨rfl, fun a ha => upd_ne fun z => un.n (z ▸ ha)⟩, fun b o _ _ eb => My.Same.new hD _ _ eb⟩, ?_⟩
  rintro i m H2 ⟨rfl, hi2, acc, s2, hI, eρ, hal, r2, eD, sm, ml, mk, mo⟩
  obtain ⟨st, ig⟩ := io Hs A s2 (D :: av) σ H2 ⟨fun b hb => List.mem_cons_of_mem _ hb, sm, [], by simp⟩ r2 (igd i acc s2 hI)
  by_cases hlt : i < ds.length
  · have ed : ds[i]? = some ds[i] := List.getElem?_eq_getElem hlt
    generalize ds[i] = d at ed
    obtain ⟨go, yl⟩ := ig i d ed
    refine .inr ⟨go, fun H3 => ∃ (acc : List (Int × Int)) (s2 : PSt), I (i + 1) acc s2 ∧ s2.ρ = s1.ρ ∧ acc.length ≤ i + 1 ∧ Rl K H0 Hs P A s2 (D :: av) σ H3 ∧ H3 D = some (.dK (encI acc)) ∧ Same (wos av H1) (wos (D :: av) H3) ∧ s1.m ≤ s2.m ∧ (s2.m = s1.m → s2.θ = s1.θ ∧ ∀ a ∈ A, H3 a = H1 a) ∧ (∀ b o, b ∉ A → (∀ p c, P = some (p, c) → b ≠ p) → H1 b = some o → H3 b = some o), fun H3 h3 => ⟨ds.length - (i + 1), by omega, rfl, hlt, h3⟩, fun x H3 y3 => ?_⟩
    obtain ⟨s3, hx⟩ := yl x H3 y3
    have r3 := r2.same s3
    have w3 := r3.wipe vs
    have eD3 := s3 _ _ eD
    have sm3 := sm.trans (My.Same.wos (av := D :: av) s3)
    have hstp := r2.stp s3
    have turn := it i d acc s2 ed hI eρ
    rw [show ({ s2 with ρ := wipeP s1.ρ vs } : PSt) = { s2 with ρ := wipeP s2.ρ vs } by rw [eρ]] at turn
    refine hg.run (Hs := Hs) w3 (VRel.vd hx) (by simp) turn fun ρ4 σ4 r4 ww q4 => ?_
    refine ⟨(ww vs hw).trans (wipe_wipe fun _ h => h), ?_⟩
    refine ht.run r4 q4 fun b s5 H5 r5 m5 q5 => ?_
    have ml5 := m5.mle
    have fin : ∀ {s6 : PSt} {H6 : Hp} (m6 : Stp P A (D :: av) { s2 with ρ := ρ4 } H3 s6 H6), s1.m ≤ s6.m ∧ (s6.m = s1.m → s6.θ = s1.θ ∧ ∀ a ∈ A, H6 a = H1 a) := fun {s6 H6} m6 => by
      have := m6.mle
      have e2 : s2.m ≤ s6.m := this
      refine ⟨Nat.le_trans ml e2, fun e => ?_⟩
      have e3 : s2.m = s1.m := by omega
      obtain ⟨a1, a2⟩ := mk e3
      obtain ⟨b1, b2⟩ := m6.keep (show s6.m = s2.m by omega)
      obtain ⟨c1, c2⟩ := hstp.keep rfl
      exact ⟨b1.trans a1, fun a ha => (b2 a ha).trans ((c2 a ha).trans (a2 a ha))⟩
    have nDp : ∀ p c, P = some (p, c) → D ≠ p := fun p c e => (un.p p c e).1
    cases b with
    | true =>
      refine iteT (hk.run r5 ((if_pos rfl).mp q5) fun y z s6 H6 r6 m6 v6 n6 q6 => he.run r6 q6 fun y2 z2 s7 H7 r7 m7 v7 n7 ⟨kk, vv, e1, e2, hI7⟩ => ?_)
      subst e1 e2
      have v6 := v6.same m7.same
      cases v6
      cases v7
      have m57 := m5.trans (m6.trans m7)
      have sD : Same (wos (D :: av) H3) (wos (D :: av) H7) := m57.same
      have eD7 : H7 D = some (.dK (encI acc)) := m57.oth D _ un.n nDp eD3
      have hle : (encI acc).length = acc.length := by unfold encI; rw [List.length_map]
      refine ⟨encI acc, Sum.inl kk, rfl, eD7, by rw [hle, sizeLine_eq]; omega, putI acc kk vv, { s7 with ρ := s1.ρ }, hI7, rfl, Nat.le_trans putI_len (by omega), (r7.reslot r1 (sm3.trans sD)).putDO un trivial, by rw [put_enc]; exact upd_same, (sm3.trans sD).trans wos_put, (fin m57).1, fun e => ?_, fun b o n1 n2 eb => ?_⟩
      · obtain ⟨a1, a2⟩ := (fin m57).2 e
        exact ⟨a1, fun a ha => (upd_ne (show a ≠ D from fun z => un.n (z ▸ ha))).trans (a2 a ha)⟩
      · have nb : b ≠ D := fun z => by
          rw [z, hD] at eb
          cases eb
        exact (upd_ne nb).trans (m57.oth b o n1 n2 (s3 _ _ (mo b o n1 n2 eb)))
    | false =>
      refine iteF ?_
      have sD : Same (wos (D :: av) H3) (wos (D :: av) H5) := m5.same
      exact ⟨acc, { s5 with ρ := s1.ρ }, (if_neg (by simp)).mp q5, rfl, by omega, r5.reslot r1 (sm3.trans sD), m5.oth D _ un.n nDp eD3, sm3.trans sD, (fin m5).1, (fin m5).2, fun b o n1 n2 eb => m5.oth b o n1 n2 (s3 _ _ (mo b o n1 n2 eb))⟩
  · have ei : i = ds.length := by omega
    subst ei
    refine .inl ⟨st, ?_⟩
    refine k _ (.di acc) s2 H2 (r2.pop un) (m1.trans ⟨sm.trans wos_less, eρ, ml, mk, mo⟩) ⟨D, rfl, (wos_in (r1.freshAv hD)).trans eD⟩ (by simp) (iq acc s2 hI eρ)
end
end My
set_option Elab.async false
set_option linter.all false
set_option maxRecDepth 100000
set_option maxHeartbeats 4000000
namespace My
open PySem PySem.Spec PyProof.Rows L2
/-! ### the search for one more way -/
/-- the sides that one more way may go on to -/
def nextS (T : List (Int × Int)) (bf : List (Int × Int)) : List Int → List (List Int)
  | [p, d] => if d = 0 then [[(valI bf p).getD p, 1]] else (nearS T p).map (fun o => [o, 0]) ++ (if (valI bf p).isSome = true then [[p, 0]] else [])
  | _ => []
theorem snoc_ind {α : Type} {p : List α → Prop} (h0 : p []) (h1 : ∀ l a, p l → p (l ++ [a])) (l : List α) : p l := by
  have key : ∀ l : List α, p l.reverse := fun l => by
    induction l with
    | nil => exact h0
    | cons a l ih => rw [List.reverse_cons]; exact h1 _ a ih
  have := key l.reverse
  rw [List.reverse_reverse] at this
  exact this
/-- from where the link to each place comes -/
def befI (b : Int) (links : List (Int × Int)) : List (Int × Int) := links.foldl (fun acc l => if l.2 = b then acc else putI acc l.2 l.1) []
theorem befI_snoc {b : Int} {links : List (Int × Int)} {l : Int × Int} : befI b (links ++ [l]) = if l.2 = b then befI b links else putI (befI b links) l.2 l.1 := by
  unfold befI
  rw [List.foldl_append]
  rfl
theorem befI_some {b y x : Int} {links : List (Int × Int)} : valI (befI b links) y = some x → y ≠ b ∧ (x, y) ∈ links := by
  refine snoc_ind (p := fun links => valI (befI b links) y = some x → y ≠ b ∧ (x, y) ∈ links) ?_ (fun links l ih => ?_) links
  · intro h; cases h
  · intro h
    rw [befI_snoc] at h
    by_cases e : l.2 = b
    · rw [if_pos e] at h
      obtain ⟨h1, h2⟩ := ih h
      exact ⟨h1, List.mem_append_left _ h2⟩
    · rw [if_neg e, valI_put] at h
      by_cases ey : y = l.2
      · rw [if_pos ey] at h
        cases h
        exact ⟨ey ▸ e, by rw [ey]; simp⟩
      · rw [if_neg ey] at h
        obtain ⟨h1, h2⟩ := ih h
        exact ⟨h1, List.mem_append_left _ h2⟩
theorem befI_none {b y : Int} {links : List (Int × Int)} : valI (befI b links) y = none → y = b ∨ ∀ x, (x, y) ∉ links := by
  refine snoc_ind (p := fun links => valI (befI b links) y = none → y = b ∨ ∀ x, (x, y) ∉ links) ?_ (fun links l ih => ?_) links
  · intro _; exact .inr fun x h => nomatch h
  · intro h
    rw [befI_snoc] at h
    by_cases e : l.2 = b
    · rw [if_pos e] at h
      rcases ih h with h1 | h1
      · exact .inl h1
      · by_cases eb : y = b
        · exact .inl eb
        · refine .inr fun x hx => ?_
          rcases List.mem_append.mp hx with hx | hx
          · exact h1 x hx
          · rw [List.mem_singleton] at hx
            exact eb (by rw [← e, ← hx])
    · rw [if_neg e, valI_put] at h
      by_cases ey : y = l.2
      · rw [if_pos ey] at h; cases h
      · rw [if_neg ey] at h
        rcases ih h with h1 | h1
        · exact .inl h1
        · refine .inr fun x hx => ?_
          rcases List.mem_append.mp hx with hx | hx
          · exact h1 x hx
          · rw [List.mem_singleton] at hx
            exact ey (by rw [← hx])
/-- a side of a place of the web -/
def SideOk (n : Nat) (s : List Int) : Prop := ∃ p d : Int, s = [p, d] ∧ (0 ≤ p ∧ p < n) ∧ (d = 0 ∨ d = 1)
theorem nextS_ok {n : Nat} {T bf : List (Int × Int)} (hW : WebOk n T) (hb : ∀ p x, valI bf p = some x → 0 ≤ x ∧ x < n) {s t : List Int} (hs : SideOk n s) (ht : t ∈ nextS T bf s) : SideOk n t := by
  obtain ⟨p, d, rfl, hp, hd⟩ := hs
  unfold nextS at ht
  dsimp only at ht
  split at ht
  · rw [List.mem_singleton] at ht
    subst ht
    refine ⟨_, 1, rfl, ?_, .inr rfl⟩
    cases e : valI bf p with
    | none => exact hp
    | some x => exact hb p x e
  · rcases List.mem_append.mp ht with ht | ht
    · obtain ⟨o, ho, rfl⟩ := List.mem_map.mp ht
      exact ⟨o, 0, rfl, nearS_bd hW ho, .inl rfl⟩
    · split at ht
      · rw [List.mem_singleton] at ht
        subst ht
        exact ⟨p, 0, rfl, hp, .inl rfl⟩
      · cases ht
def sidesL (n : Nat) : List (List Int) := (ups n).flatMap fun p => [[p, 0], [p, 1]]
theorem sidesL_len {n : Nat} : (sidesL n).length = 2 * n := by
  unfold sidesL
  have : ∀ l : List Int, (l.flatMap fun p => [[p, (0 : Int)], [p, 1]]).length = 2 * l.length := fun l => by
    induction l with
    | nil => rfl
    | cons a l ih => rw [List.flatMap_cons, List.length_append, ih, List.length_cons]; simp; omega
  rw [this, ups_len]
theorem side_mem {n : Nat} {s : List Int} (h : SideOk n s) : s ∈ sidesL n := by
  obtain ⟨p, d, rfl, hp, hd⟩ := h
  refine List.mem_flatMap.mpr ⟨p, mem_ups.mpr hp, ?_⟩
  rcases hd with rfl | rfl <;> simp
section
variable {K : PySem.W.Frag}
def GNbr (ds : List PyData) (Q : PyData → Prop) : Prop := ∃ (n : Int) (T : List (Int × Int)) (x : Int), ds = [webD n T, .int x] ∧ T.length ≤ 1000 ∧ Q (tI (nearS T x))
theorem ClOk.nbr : ClOk K (spNbr K) (fTo GNbr) := ClOk.to fun vs ds H Q Qf hd ⟨n, T, x, e, hT, q1⟩ q => by
  subst e
  cases hd with
  | cons h1 t =>
    cases t with
    | cons h2 t =>
      cases h2
      cases t
      exact ⟨_, n, T, x, rfl, h1, hT, fun qa H' s' hx => q _ _ H' q1 s' (Dq.ofTI hx)⟩
end
/-! promises -/
def FNext (zs : List Sl) (Q : Sl → Prop) : Prop := ∃ (n : Nat) (T bf : List (Int × Int)) (p d : Int), zs = [.d (webD n T), .di bf, .d (tI [p, d])] ∧ WebOk n T ∧ n ≤ 12 ∧ (d = 0 ∨ d = 1) ∧ Q (.nw ((nextS T bf [p, d]).map tI))
/-- links between places of the web -/
def LinksIn (n : Nat) (links : List (Int × Int)) : Prop := links.length ≤ 200 ∧ ∀ l ∈ links, (0 ≤ l.1 ∧ l.1 < n) ∧ 0 ≤ l.2 ∧ l.2 < n
def FCameS (ds : List PyData) (Q : Sl → Prop) : Prop := ∃ (n : Nat) (T links : List (Int × Int)) (a b : Int), ds = [webD n T, .list (links.map fun t => tI (prI t)), .int a, .int b] ∧ WebOk n T ∧ n ≤ 12 ∧ (0 ≤ a ∧ a < n) ∧ LinksIn n links ∧
  ∀ row par dep, Bfs (nextS T (befI b links)) [a, 1] row par dep row.length 0 → Q (.nd (cameL row par))
theorem bef_in {n : Nat} {links : List (Int × Int)} {b : Int} (h : LinksIn n links) : ∀ p x, valI (befI b links) p = some x → 0 ≤ x ∧ x < n := fun p x e => (h.2 _ (befI_some e).2).1
section
variable {X : Cx}
/-- name = {..} on one line, the name a local -/
theorem ps_setDc {i : Nat} {y : Str} {py : Pos} {kx vx tg iter : Expr} {ifs : List Expr} {scope : Scope} {own : List (Str × Nat)} {pos spos : Pos} {wi : TI} {g : TG} {tt : TT} {tk tv : TE} (hc : X.calm = true) (hN : X.N.Nodup) (hy : X.N[i]? = some y) (hyl : X.env.scope.names.lookup y = some .local)
    (hsw : swapsWith (.DictComp kx vx [⟨tg, iter, ifs, 0⟩] scope pos) (some (.Name y py)) spos.line X.env = pure true) (hi : PI X tg iter wi) (ok : BlkOk X.N X.env.scope scope own)
    (hg : ∀ (s : Shared) (H : Hp) (C : Addr) (cl : List (Str × Addr)) (fp : List Addr), PG (X.blk s H scope (compEnvC scope cl C X.env) fp) tg g) (ht : ∀ (s : Shared) (H : Hp) (C : Addr) (cl : List (Str × Addr)) (fp : List Addr), PTs (X.blk s H scope (compEnvC scope cl C X.env) fp) ifs tt)
    (hk : ∀ (s : Shared) (H : Hp) (C : Addr) (cl : List (Str × Addr)) (fp : List Addr), PE (X.blk s H scope (compEnvC scope cl C X.env) fp) kx tk)
    (he : ∀ (s : Shared) (H : Hp) (C : Addr) (cl : List (Str × Addr)) (fp : List Addr), PE (X.blk s H scope (compEnvC scope cl C X.env) fp) vx tv) (hs : ∀ x, foldedSetIterable iter X.env x = pure x := by intro _; rfl) :
    PS X (.Assign [.Name y py] (.DictComp kx vx [⟨tg, iter, ifs, 0⟩] scope pos) spos) (tAsg (tDc wi g tt tk tv (own.map (·.2))) (gName i)) := by
  refine ⟨fun pins s σ H D I h => ?_⟩
  rw [exec_Assign_Name_used _ _ _ _ hsw]
  refine wpAny_bind (wpAny_standAt (wpAny_bind ?_))
  show wpAny _ X.A (do let _ ← comprehension (.DictComp kx vx [⟨tg, iter, ifs, 0⟩] scope pos) scope X.env (firstIterPos [⟨tg, iter, ifs, 0⟩] pos) newDict false (eval iter X.env) (some (assign (.Name y py) X.env))) _ _ s
  have h : tDc wi g tt tk tv (own.map (·.2)) σ H (fun x H1 => gName i x σ H1 D.nx) := h
  refine wpAny_bind (thn (dc_core (Qf := fun _ s' => SP X pins D .next s') hc hN I hi ok hg ht hk he hs h fun L C s' m H' I' q hn f => ?_) fun _ s' hq => wpAny_pure (wpAny_pure hq))
  show wpAny _ _ (assign (.Name y py) X.env (.ref L)) _ _ _
  refine wpAny_assign_Name (store_ok2 (v := V.ref L) I' hN hy (.inl hyl) rfl (fun s2 I2 ⟨a, sb, ha⟩ => ?_) (.inr hyl))
  obtain ⟨f0, f1, f2, f3, f4, f5⟩ := f
  have haC : C ≠ a := by
    rcases ha with z | z
    · rw [z]; exact f1
    · exact fun e => f4 y a z e.symm
  refine ⟨m, hn.sameBut sb haC, fun h3 sb3 => ?_⟩
  exact ⟨_, H', I2.turned (t' := s2.toks) (fun b o hb e => (sb3.2 b hb).trans e) f0 f1 f3 f4 f5, q⟩
theorem sw_trueD {kx vx : Expr} {gs : List Comprehension} {scope : Scope} {pos py : Pos} {y : Str} {l : Nat} {env : Env} (hk : env.scope.kind = .function) (hy : env.scope.names.lookup y = some .local) (hl : (py.line == pos.line) = true)
    (ha : (scope.names.any fun (n, k) => n == y && (k == .local || k == .cell)) = false) : swapsWith (.DictComp kx vx gs scope pos) (some (.Name y py)) l env = pure true := by
  have ky : env.kindOf y = some .local := hy
  have hb : env.blockKind = .function := by unfold Env.blockKind; rw [hk]; rfl
  unfold swapsWith
  simp only [hb, ky, ha, Expr.pos, hl]
  rfl
end
end My
set_option Elab.async false
set_option linter.all false
set_option maxRecDepth 100000
set_option maxHeartbeats 4000000
namespace My
open PySem PySem.Spec PyProof.Rows L2
/-! ### links of ways that are apart -/
def stepA (s t : List Int) : List (Int × Int) := if s.getD 0 0 ≠ t.getD 0 0 ∧ s.getD 1 0 = 1 then [(s.getD 0 0, t.getD 0 0)] else []
def stepT (s t : List Int) : List (Int × Int) := if s.getD 0 0 ≠ t.getD 0 0 ∧ s.getD 1 0 = 0 then [(t.getD 0 0, s.getD 0 0)] else []
def alongL (f : List Int → List Int → List (Int × Int)) : List (List Int) → List (Int × Int)
  | s :: t :: r => f s t ++ alongL f (t :: r)
  | _ => []
def addL := alongL stepA
def tknL := alongL stepT
/-- the links with those along the row put in, and those taken back left out -/
def withL (links : List (Int × Int)) (L : List (List Int)) : List (Int × Int) := links.filter (fun l => !decide (l ∈ tknL L)) ++ addL L
theorem along_snoc {f : List Int → List Int → List (Int × Int)} {s t : List Int} : ∀ {M : List (List Int)}, alongL f (M ++ [s] ++ [t]) = alongL f (M ++ [s]) ++ f s t
  | [] => by show f s t ++ [] = [] ++ f s t; simp
  | [x] => by show f x s ++ (f s t ++ []) = f x s ++ [] ++ f s t; simp
  | x :: y :: M => by
    have := along_snoc (f := f) (s := s) (t := t) (M := y :: M)
    show f x y ++ alongL f ((y :: M) ++ [s] ++ [t]) = f x y ++ alongL f ((y :: M) ++ [s]) ++ f s t
    rw [this, List.append_assoc]
theorem along_take {f : List Int → List Int → List (Int × Int)} {L : List (List Int)} {i : Nat} {s t : List Int} (e1 : L[i]? = some s) (e2 : L[i + 1]? = some t) : alongL f (L.take (i + 2)) = alongL f (L.take (i + 1)) ++ f s t := by
  have h1 : L.take (i + 1) = L.take i ++ [s] := by rw [List.take_add_one, e1]; rfl
  have h2 : L.take (i + 2) = L.take (i + 1) ++ [t] := by rw [List.take_add_one, e2]; rfl
  rw [h2, h1]
  exact along_snoc
theorem mem_along {f : List Int → List Int → List (Int × Int)} {p : Int × Int} : ∀ {L : List (List Int)}, p ∈ alongL f L ↔ ∃ (j : Nat) (s t : List Int), L[j]? = some s ∧ L[j + 1]? = some t ∧ p ∈ f s t
  | [] => by
    constructor
    · intro h; cases h
    · rintro ⟨j, s, t, e, _⟩; simp at e
  | [x] => by
    constructor
    · intro h; cases h
    · rintro ⟨j, s, t, _, e, _⟩; simp at e
  | x :: y :: L => by
    have ih := mem_along (f := f) (p := p) (L := y :: L)
    show p ∈ f x y ++ alongL f (y :: L) ↔ _
    rw [List.mem_append, ih]
    constructor
    · rintro (h | ⟨j, s, t, e1, e2, h⟩)
      · exact ⟨0, x, y, rfl, rfl, h⟩
      · exact ⟨j + 1, s, t, e1, e2, h⟩
    · rintro ⟨j, s, t, e1, e2, h⟩
      cases j with
      | zero => cases e1; cases e2; exact .inl h
      | succ j => exact .inr ⟨j, s, t, e1, e2, h⟩
theorem along_len {f : List Int → List Int → List (Int × Int)} (hf : ∀ s t, (f s t).length ≤ 1) : ∀ {L : List (List Int)}, (alongL f L).length ≤ L.length
  | [] => Nat.le_refl _
  | [x] => Nat.zero_le _
  | x :: y :: L => by
    have ih := along_len hf (L := y :: L)
    have := hf x y
    show (f x y ++ alongL f (y :: L)).length ≤ _
    rw [List.length_append, List.length_cons]
    omega
theorem stepA_len {s t : List Int} : (stepA s t).length ≤ 1 := by unfold stepA; split <;> simp
theorem stepT_len {s t : List Int} : (stepT s t).length ≤ 1 := by unfold stepT; split <;> simp
theorem mem_stepA {s t : List Int} {p : Int × Int} : p ∈ stepA s t ↔ s.getD 0 0 ≠ t.getD 0 0 ∧ s.getD 1 0 = 1 ∧ p = (s.getD 0 0, t.getD 0 0) := by
  unfold stepA
  split
  · rename_i h
    rw [List.mem_singleton]
    exact ⟨fun e => ⟨h.1, h.2, e⟩, fun e => e.2.2⟩
  · rename_i h
    exact ⟨fun e => (by cases e), fun e => absurd ⟨e.1, e.2.1⟩ h⟩
theorem mem_stepT {s t : List Int} {p : Int × Int} : p ∈ stepT s t ↔ s.getD 0 0 ≠ t.getD 0 0 ∧ s.getD 1 0 = 0 ∧ p = (t.getD 0 0, s.getD 0 0) := by
  unfold stepT
  split
  · rename_i h
    rw [List.mem_singleton]
    exact ⟨fun e => ⟨h.1, h.2, e⟩, fun e => e.2.2⟩
  · rename_i h
    exact ⟨fun e => (by cases e), fun e => absurd ⟨e.1, e.2.1⟩ h⟩
theorem near_ne {n : Nat} {T : List (Int × Int)} {x y : Int} (hW : WebOk n T) (h : y ∈ nearS T x) : y ≠ x := by
  obtain ⟨t, ht, h | h⟩ := mem_nearS.mp h
  · have := hW.2 t ht; omega
  · have := hW.2 t ht; omega
/-- links of some ways apart, c of them -/
structure Lks (n : Nat) (T : List (Int × Int)) (a b : Int) (links : List (Int × Int)) (c : Nat) : Prop where
  tie : ∀ l ∈ links, l.2 ∈ nearS T l.1
  na : ∀ l ∈ links, l.2 ≠ a
  in1 : links.Pairwise fun l m => l.2 = m.2 → l.2 = b
  frA : (links.filter fun l => decide (l.1 = a)).length = c
  inB : (links.filter fun l => decide (l.2 = b)).length = c
  /-- as many out as in, but for a and b -/
  bal : ∀ y, (links.filter fun l => decide (l.1 = y)).length + (if y = b then c else 0) = (links.filter fun l => decide (l.2 = y)).length + (if y = a then c else 0)
theorem Lks.nil {n : Nat} {T : List (Int × Int)} {a b : Int} : Lks n T a b [] 0 := ⟨fun l h => (by cases h), fun l h => (by cases h), .nil, rfl, rfl, fun y => by simp⟩
/-- a list less some of its own, each there once -/
theorem less_count {α : Type} {A B : List α} {q p : α → Bool} (hpB : ∀ x, p x = true ↔ x ∈ B) (nd : B.Nodup) (sub : ∀ x ∈ B, x ∈ A) (one : (A.filter p).Nodup) : ((A.filter fun x => !p x).filter q).length + (B.filter q).length = (A.filter q).length := by
  have hp : (A.filter p).Perm B := (List.perm_ext_iff_of_nodup one nd).mpr fun x => by
    rw [List.mem_filter, hpB]
    exact ⟨fun h => h.2, fun h => ⟨sub x h, h⟩⟩
  rw [← (hp.filter q).length_eq]
  clear hp one sub nd
  induction A with
  | nil => rfl
  | cons x A ih =>
    cases h1 : p x <;> cases h2 : q x <;> simp [h1, h2] at ih ⊢ <;> omega
theorem bal_along {y : Int} : ∀ (M : List (List Int)) (s t : List Int), M[0]? = some s → M[M.length - 1]? = some t → (∀ s ∈ M, ∃ p d : Int, s = [p, d] ∧ (d = 0 ∨ d = 1)) →
    ((alongL stepA M).filter fun l => decide (l.1 = y)).length + ((alongL stepT M).filter fun l => decide (l.2 = y)).length + (if t.getD 0 0 = y then 1 else 0) = ((alongL stepA M).filter fun l => decide (l.2 = y)).length + ((alongL stepT M).filter fun l => decide (l.1 = y)).length + (if s.getD 0 0 = y then 1 else 0)
  | [], s, t, h, _, _ => by cases h
  | [x], s, t, h1, h2, _ => by
    cases h1
    cases h2
    rfl
  | x :: z :: M, s, t, h1, h2, hs => by
    cases h1
    have ih := bal_along (y := y) (z :: M) z t rfl (by rw [← h2]; rfl) fun s h => hs s (List.mem_cons_of_mem _ h)
    obtain ⟨p, d, rfl, hd⟩ := hs x List.mem_cons_self
    have eA : alongL stepA ([p, d] :: z :: M) = stepA [p, d] z ++ alongL stepA (z :: M) := rfl
    have eT : alongL stepT ([p, d] :: z :: M) = stepT [p, d] z ++ alongL stepT (z :: M) := rfl
    rw [eA, eT, List.filter_append, List.filter_append, List.filter_append, List.filter_append, List.length_append, List.length_append, List.length_append, List.length_append]
    have gp : ([p, d] : List Int).getD 0 0 = p := rfl
    have gd : ([p, d] : List Int).getD 1 0 = d := rfl
    generalize alongL stepA (z :: M) = A at ih ⊢
    generalize alongL stepT (z :: M) = B at ih ⊢
    unfold stepA stepT
    rw [gp, gd]
    generalize z.getD 0 0 = o at ih ⊢
    by_cases e : p = o
    · subst e
      simp only [ne_eq, not_true, false_and, if_false, List.filter_nil, List.length_nil]
      omega
    · rcases hd with rfl | rfl
      · simp only [ne_eq, e, not_false_iff, true_and, if_true, List.filter_nil, List.length_nil]
        rw [if_neg (show ¬ (0 : Int) = 1 by decide)]
        simp only [List.filter_nil, List.length_nil]
        by_cases e1 : p = y
        · by_cases e2 : o = y
          · simp [e1, e2] at ih ⊢; omega
          · simp [e1, e2] at ih ⊢; omega
        · by_cases e2 : o = y
          · simp [e1, e2] at ih ⊢; omega
          · simp [e1, e2] at ih ⊢; omega
      · simp only [ne_eq, e, not_false_iff, true_and, if_true, List.filter_nil, List.length_nil]
        rw [if_neg (show ¬ (1 : Int) = 0 by decide)]
        simp only [List.filter_nil, List.length_nil]
        by_cases e1 : p = y
        · by_cases e2 : o = y
          · simp [e1, e2] at ih ⊢; omega
          · simp [e1, e2] at ih ⊢; omega
        · by_cases e2 : o = y
          · simp [e1, e2] at ih ⊢; omega
          · simp [e1, e2] at ih ⊢; omega
theorem tkn_nodup : ∀ M : List (List Int), M.Nodup → (∀ s ∈ M, ∃ p d : Int, s = [p, d] ∧ (d = 0 ∨ d = 1)) → (alongL stepT M).Nodup
  | [], _, _ => .nil
  | [x], _, _ => .nil
  | x :: z :: M, nd, hs => by
    have ih := tkn_nodup (z :: M) (List.nodup_cons.mp nd).2 fun s h => hs s (List.mem_cons_of_mem _ h)
    show (stepT x z ++ alongL stepT (z :: M)).Nodup
    unfold List.Nodup
    rw [List.pairwise_append]
    refine ⟨?_, ih, fun l hl m hm e => ?_⟩
    · unfold stepT
      split
      · exact List.pairwise_singleton _ _
      · exact .nil
    · subst e
      obtain ⟨hne, hs1, rfl⟩ := mem_stepT.mp hl
      obtain ⟨j, s', t', e1, e2, hm'⟩ := mem_along.mp hm
      obtain ⟨hne', hs1', e3⟩ := mem_stepT.mp hm'
      obtain ⟨p, d, rfl, hd⟩ := hs x List.mem_cons_self
      obtain ⟨p2, d2, rfl, hd2⟩ := hs s' (List.mem_cons_of_mem _ (List.mem_of_getElem? e1))
      injection e3 with _ e3
      have e3 : p = p2 := e3
      have hs1 : d = 0 := hs1
      have hs1' : d2 = 0 := hs1'
      subst e3 hs1 hs1'
      exact (List.nodup_cons.mp nd).1 (List.mem_of_getElem? e1)
section
variable {n : Nat} {T : List (Int × Int)} {a b : Int} {links : List (Int × Int)} {c : Nat} {L : List (List Int)}
theorem nodup_at {α : Type} {L : List α} (nd : L.Nodup) {i j : Nat} {x : α} (h1 : L[i]? = some x) (h2 : L[j]? = some x) : i = j := by
  exact (List.getElem?_inj (List.getElem?_eq_some_iff.mp h1).1 nd).mp (h1.trans h2.symm)
/-- pieces of a row of sides -/
theorem next_out {bf : List (Int × Int)} {p : Int} {t : List Int} (h : t ∈ nextS T bf [p, 1]) : (∃ o ∈ nearS T p, t = [o, 0]) ∨ ((valI bf p).isSome = true ∧ t = [p, 0]) := by
  unfold nextS at h
  dsimp only at h
  rw [if_neg (by decide)] at h
  rcases List.mem_append.mp h with h | h
  · obtain ⟨o, ho, rfl⟩ := List.mem_map.mp h
    exact .inl ⟨o, ho, rfl⟩
  · split at h
    · rename_i hs
      rw [List.mem_singleton] at h
      exact .inr ⟨hs, h⟩
    · cases h
theorem next_in {bf : List (Int × Int)} {p : Int} {t : List Int} (h : t ∈ nextS T bf [p, 0]) : t = [(valI bf p).getD p, 1] := by
  unfold nextS at h
  dsimp only at h
  rw [if_pos rfl, List.mem_singleton] at h
  exact h
/-- a row of sides to b, one way more -/
structure RowS (T bf : List (Int × Int)) (a b : Int) (L : List (List Int)) : Prop where
  nd : L.Nodup
  hd : L[0]? = some [a, 1]
  lt : L[L.length - 1]? = some [b, 0]
  st : ∀ (j : Nat) s t, L[j]? = some s → L[j + 1]? = some t → t ∈ nextS T bf s
  sd : ∀ s ∈ L, ∃ p d : Int, s = [p, d] ∧ (d = 0 ∨ d = 1)
theorem RowS.outStep {bf : List (Int × Int)} (h : RowS T bf a b L) {j : Nat} {s t : List Int} (e1 : L[j]? = some s) (e2 : L[j + 1]? = some t) (hne : s.getD 0 0 ≠ t.getD 0 0) (h1 : s.getD 1 0 = 1) : ∃ p o, s = [p, 1] ∧ t = [o, 0] ∧ o ∈ nearS T p := by
  obtain ⟨p, d, rfl, hd⟩ := h.sd s (List.mem_of_getElem? e1)
  have h1 : d = 1 := h1
  subst h1
  rcases next_out (h.st j _ _ e1 e2) with ⟨o, ho, rfl⟩ | ⟨_, rfl⟩
  · exact ⟨p, o, rfl, rfl, ho⟩
  · exact absurd rfl hne
theorem RowS.inStep {bf : List (Int × Int)} (h : RowS T bf a b L) {j : Nat} {s t : List Int} (e1 : L[j]? = some s) (e2 : L[j + 1]? = some t) (hne : s.getD 0 0 ≠ t.getD 0 0) (h0 : s.getD 1 0 = 0) : ∃ p o, s = [p, 0] ∧ t = [o, 1] ∧ valI bf p = some o ∧ o ≠ p := by
  obtain ⟨p, d, rfl, hd⟩ := h.sd s (List.mem_of_getElem? e1)
  have h0 : d = 0 := h0
  subst h0
  have := next_in (h.st j _ _ e1 e2)
  subst this
  cases e : valI bf p with
  | none =>
    rw [e] at hne
    exact absurd rfl hne
  | some o => exact ⟨p, o, rfl, rfl, e, fun z => hne (by rw [e]; exact z.symm)⟩
theorem RowS.add {bf : List (Int × Int)} (h : RowS T bf a b L) {l : Int × Int} (hl : l ∈ addL L) : ∃ j : Nat, L[j]? = some [l.1, 1] ∧ L[j + 1]? = some [l.2, 0] ∧ l.2 ∈ nearS T l.1 := by
  obtain ⟨j, s, t, e1, e2, hm⟩ := mem_along.mp hl
  obtain ⟨hne, h1, rfl⟩ := mem_stepA.mp hm
  obtain ⟨p, o, rfl, rfl, ho⟩ := h.outStep e1 e2 hne h1
  exact ⟨j, e1, e2, ho⟩
theorem RowS.tkn {bf : List (Int × Int)} (h : RowS T bf a b L) {l : Int × Int} (hl : l ∈ tknL L) : ∃ j : Nat, L[j]? = some [l.2, 0] ∧ L[j + 1]? = some [l.1, 1] ∧ valI bf l.2 = some l.1 ∧ l.1 ≠ l.2 := by
  obtain ⟨j, s, t, e1, e2, hm⟩ := mem_along.mp hl
  obtain ⟨hne, h1, rfl⟩ := mem_stepT.mp hm
  obtain ⟨p, o, rfl, rfl, ho, hn⟩ := h.inStep e1 e2 hne h1
  exact ⟨j, e1, e2, ho, hn⟩
/-- after a place's first side its other one, or the one before it -/
theorem RowS.after {bf : List (Int × Int)} (h : RowS T bf a b L) {j : Nat} {y : Int} (e : L[j]? = some [y, 0]) (hy : y ≠ b) : L[j + 1]? = some [(valI bf y).getD y, 1] := by
  have hj := (List.getElem?_eq_some_iff.mp e).1
  have hne : j ≠ L.length - 1 := fun z => by
    rw [z, h.lt] at e
    have e := Option.some.inj e
    injection e with e _
    exact hy e.symm
  obtain ⟨t, et⟩ : ∃ t, L[j + 1]? = some t := ⟨_, List.getElem?_eq_getElem (by omega)⟩
  rw [et, next_in (h.st j _ _ e et)]
theorem Lks.bef (h : Lks n T a b links c) {l : Int × Int} (hl : l ∈ links) (hb : l.2 ≠ b) : valI (befI b links) l.2 = some l.1 := by
  cases e : valI (befI b links) l.2 with
  | none =>
    rcases befI_none e with z | z
    · exact absurd z hb
    · exact absurd hl (z l.1)
  | some x =>
    obtain ⟨_, hx⟩ := befI_some e
    by_cases hne : (x, l.2) = l
    · rw [← hne]
    · have hp := h.in1
      obtain ⟨i, hi, ei⟩ := List.getElem_of_mem hl
      obtain ⟨k, hk, ek⟩ := List.getElem_of_mem hx
      have hp := List.pairwise_iff_getElem.mp hp
      rcases Nat.lt_trichotomy i k with g | g | g
      · have := hp i k hi hk g
        rw [ei, ek] at this
        exact absurd (this rfl) hb
      · subst g
        exact absurd (ek.symm.trans ei) hne
      · have := hp k i hk hi g
        rw [ei, ek] at this
        exact absurd (this rfl) hb
theorem Lks.befA (h : Lks n T a b links c) : valI (befI b links) a = none := by
  cases e : valI (befI b links) a with
  | none => rfl
  | some x => exact absurd rfl (h.na _ (befI_some e).2)
theorem along_none {f : List Int → List Int → List (Int × Int)} {q : Int × Int → Bool} (hq : ∀ l ∈ alongL f L, q l = false) : ((alongL f L).filter q).length = 0 := by
  rw [List.length_eq_zero_iff, List.filter_eq_nil_iff]
  intro l hl
  rw [hq l hl]
  decide
/-- one way more -/
theorem Lks.more (hW : WebOk n T) (hab : a ≠ b) (h : Lks n T a b links c) (r : RowS T (befI b links) a b L) : Lks n T a b (withL links L) (c + 1) := by
  have keep : ∀ l ∈ links.filter (fun l => !decide (l ∈ tknL L)), l ∈ links ∧ l ∉ tknL L := fun l hl => by
    have := List.mem_filter.mp hl
    exact ⟨this.1, by simpa using this.2⟩
  have noA : ∀ l ∈ addL L, l.2 ≠ a := fun l hl e => by
    obtain ⟨j, e1, e2, _⟩ := r.add hl
    rw [e] at e2
    have e3 := r.after e2 hab
    rw [h.befA] at e3
    have := nodup_at r.nd e3 r.hd
    omega
  have tkIn : ∀ l ∈ tknL L, l ∈ links ∧ l.2 ≠ b := fun l hl => by
    obtain ⟨j, _, _, hb, _⟩ := r.tkn hl
    obtain ⟨h1, h2⟩ := befI_some hb
    exact ⟨h2, h1⟩
  refine ⟨fun l hl => ?_, fun l hl => ?_, ?_, ?_, ?_, fun y => ?_⟩
  rotate_left 5
  · have nd : (tknL L).Nodup := tkn_nodup L r.nd r.sd
    have one : (links.filter fun x => decide (x ∈ tknL L)).Nodup := by
      refine List.Pairwise.imp_of_mem (fun {l m} hl hm hp e => ?_) (List.Pairwise.filter _ h.in1)
      have := List.mem_filter.mp hl
      exact (tkIn l (by simpa using this.2)).2 (hp (by rw [e]))
    have c1 := less_count (p := fun l => decide (l ∈ tknL L)) (q := fun l => decide (l.1 = y)) (fun x => by rw [decide_eq_true_eq]) nd (fun x hx => (tkIn x hx).1) one
    have c2 := less_count (p := fun l => decide (l ∈ tknL L)) (q := fun l => decide (l.2 = y)) (fun x => by rw [decide_eq_true_eq]) nd (fun x hx => (tkIn x hx).1) one
    have c3 := bal_along (y := y) L _ _ r.hd r.lt r.sd
    have c4 := h.bal y
    unfold withL
    rw [List.filter_append, List.filter_append, List.length_append, List.length_append]
    have g1 : ([a, 1] : List Int).getD 0 0 = a := rfl
    have g2 : ([b, 0] : List Int).getD 0 0 = b := rfl
    rw [g1, g2] at c3
    show _ + ((alongL stepA L).filter _).length + _ = _ + ((alongL stepA L).filter _).length + _
    have e1 : tknL L = alongL stepT L := rfl
    rw [← e1] at c3
    by_cases ea : y = a
    · by_cases eb : y = b
      · exact absurd (ea.symm.trans eb) hab
      · rw [if_neg eb, if_pos ea]
        rw [if_neg eb, if_pos ea] at c4
        rw [if_neg (fun e => eb e.symm), if_pos ea.symm] at c3
        omega
    · by_cases eb : y = b
      · rw [if_pos eb, if_neg ea]
        rw [if_pos eb, if_neg ea] at c4
        rw [if_pos eb.symm, if_neg (fun e => ea e.symm)] at c3
        omega
      · rw [if_neg eb, if_neg ea]
        rw [if_neg eb, if_neg ea] at c4
        rw [if_neg (fun e => eb e.symm), if_neg (fun e => ea e.symm)] at c3
        omega
  · rcases List.mem_append.mp hl with hl | hl
    · exact h.tie l (keep l hl).1
    · obtain ⟨j, _, _, ho⟩ := r.add hl
      exact ho
  · rcases List.mem_append.mp hl with hl | hl
    · exact h.na l (keep l hl).1
    · exact noA l hl
  · unfold withL
    rw [List.pairwise_append]
    refine ⟨List.Pairwise.filter _ h.in1, ?_, fun l hl m hm e => ?_⟩
    · -- two put in have unlike ends
      have key : ∀ M : List (List Int), (∀ s ∈ M, ∃ p d : Int, s = [p, d] ∧ (d = 0 ∨ d = 1)) → (∀ (j : Nat) s t, M[j]? = some s → M[j + 1]? = some t → t ∈ nextS T (befI b links) s) → M.Nodup → (alongL stepA M).Pairwise fun l m => l.2 = m.2 → l.2 = b := fun M => by
        induction M with
        | nil => intros; exact .nil
        | cons s M ih =>
          intro h1 h2 h3
          cases M with
          | nil => exact .nil
          | cons t M =>
            have ih := ih (fun s hs => h1 s (List.mem_cons_of_mem _ hs)) (fun j s t e1 e2 => h2 (j + 1) s t e1 e2) (List.nodup_cons.mp h3).2
            show (stepA s t ++ alongL stepA (t :: M)).Pairwise _
            rw [List.pairwise_append]
            refine ⟨?_, ih, fun l hl m hm e => ?_⟩
            · unfold stepA
              split
              · exact List.pairwise_singleton _ _
              · exact .nil
            · exfalso
              obtain ⟨hne, hs1, rfl⟩ := mem_stepA.mp hl
              obtain ⟨j, s', t', e1, e2, hm'⟩ := mem_along.mp hm
              obtain ⟨hne', hs1', rfl⟩ := mem_stepA.mp hm'
              have out : ∀ (i : Nat) (u v : List Int), (s :: t :: M)[i]? = some u → (s :: t :: M)[i + 1]? = some v → u.getD 0 0 ≠ v.getD 0 0 → u.getD 1 0 = 1 → v = [v.getD 0 0, 0] := fun i u v e1 e2 hne hu => by
                obtain ⟨p, d, rfl, hd⟩ := h1 u (List.mem_of_getElem? e1)
                have hu : d = 1 := hu
                subst hu
                rcases next_out (h2 i _ _ e1 e2) with ⟨o, ho, rfl⟩ | ⟨_, rfl⟩
                · rfl
                · exact absurd rfl hne
              have a1 := out 0 s t rfl rfl hne hs1
              have a2 := out (j + 1) s' t' e1 e2 hne' hs1'
              have e : t.getD 0 0 = t'.getD 0 0 := e
              have : t = t' := by rw [a1, a2, e]
              subst this
              have := nodup_at h3 (i := 1) (j := j + 2) (x := t) rfl e2
              omega
      exact key L r.sd r.st r.nd
    · by_cases hb : l.2 = b
      · exact hb
      · exfalso
        obtain ⟨h1, h2⟩ := keep l hl
        obtain ⟨j, e1, e2, ho⟩ := r.add hm
        rw [← e] at e2
        have e3 := r.after e2 hb
        rw [h.bef h1 hb] at e3
        have hne := near_ne hW (h.tie l h1)
        exact h2 (mem_along.mpr ⟨j + 1, _, _, e2, e3, mem_stepT.mpr ⟨hne, rfl, rfl⟩⟩)
  · -- from a
    have same : ((links.filter fun l => !decide (l ∈ tknL L)).filter fun l => decide (l.1 = a)) = links.filter fun l => decide (l.1 = a) := by
      rw [List.filter_filter]
      refine List.filter_congr fun l hl => ?_
      by_cases e : l.1 = a
      · have : l ∉ tknL L := fun ht => by
          obtain ⟨j, _, e2, _⟩ := r.tkn ht
          rw [e] at e2
          have := nodup_at r.nd e2 r.hd
          omega
        rw [decide_eq_false this, decide_eq_true e]
        rfl
      · rw [decide_eq_false e, Bool.false_and]
    unfold withL
    rw [List.filter_append, List.length_append, same, h.frA]
    congr 1
    match L, r with
    | [], r => have := r.hd; simp at this
    | [s], r =>
      have h1 := r.hd
      have h2 := r.lt
      rw [List.getElem?_cons_zero] at h1
      have h2 : some s = some [b, 0] := h2
      rw [h1] at h2
      have h2 := Option.some.inj h2
      injection h2 with _ h2
      injection h2 with h2 _
      exact absurd h2 (by decide)
    | s :: t :: R, r =>
      have h1 := r.hd
      rw [List.getElem?_cons_zero] at h1
      have h1 := Option.some.inj h1
      subst h1
      rcases next_out (r.st 0 _ _ rfl rfl) with ⟨o, ho, rfl⟩ | ⟨hs, _⟩
      · have e : addL ([a, 1] :: [o, 0] :: R) = (a, o) :: alongL stepA ([o, 0] :: R) := by
          show stepA [a, 1] [o, 0] ++ _ = _
          unfold stepA
          rw [if_pos ⟨fun z => near_ne hW ho z.symm, rfl⟩]
          rfl
        rw [e, List.filter_cons_of_pos (by simp), List.length_cons, along_none fun l hl => ?_]
        obtain ⟨j, s', t', e1, e2, hm⟩ := mem_along.mp hl
        obtain ⟨hne, h1, rfl⟩ := mem_stepA.mp hm
        obtain ⟨p, d, rfl, _⟩ := r.sd s' (List.mem_cons_of_mem _ (List.mem_of_getElem? e1))
        have h1 : d = 1 := h1
        subst h1
        refine decide_eq_false fun z => ?_
        have z : p = a := z
        subst z
        have := nodup_at r.nd (i := 0) (j := j + 1) (x := [p, 1]) rfl e1
        omega
      · rw [h.befA] at hs
        cases hs
  · -- to b
    have same : ((links.filter fun l => !decide (l ∈ tknL L)).filter fun l => decide (l.2 = b)) = links.filter fun l => decide (l.2 = b) := by
      rw [List.filter_filter]
      refine List.filter_congr fun l hl => ?_
      by_cases e : l.2 = b
      · have : l ∉ tknL L := fun ht => by
          obtain ⟨j, e1, e2, _⟩ := r.tkn ht
          rw [e] at e1
          have := nodup_at r.nd e1 r.lt
          have := (List.getElem?_eq_some_iff.mp e2).1
          omega
        rw [decide_eq_false this, decide_eq_true e]
        rfl
      · rw [decide_eq_false e, Bool.false_and]
    unfold withL
    rw [List.filter_append, List.length_append, same, h.inB]
    congr 1
    have hl := (List.getElem?_eq_some_iff.mp r.lt).1
    have h2 : 2 ≤ L.length := by
      rcases Nat.lt_or_ge L.length 2 with g | g
      · have e : L.length - 1 = 0 := by omega
        have h3 := r.lt
        rw [e, r.hd] at h3
        have h3 := Option.some.inj h3
        injection h3 with _ h3
        injection h3 with h3 _
        exact absurd h3 (by decide)
      · exact g
    obtain ⟨s, es⟩ : ∃ s, L[L.length - 2]? = some s := ⟨_, List.getElem?_eq_getElem (by omega)⟩
    have et : L[L.length - 2 + 1]? = some [b, 0] := by rw [show L.length - 2 + 1 = L.length - 1 by omega]; exact r.lt
    have hx : ∃ x, s = [x, 1] ∧ b ∈ nearS T x := by
      obtain ⟨x, d, rfl, hd⟩ := r.sd s (List.mem_of_getElem? es)
      have hst := r.st _ _ _ es et
      rcases hd with rfl | rfl
      · have := next_in hst
        injection this with _ h3
        injection h3 with h3 _
        exact absurd h3 (by decide)
      · rcases next_out hst with ⟨o, ho, e⟩ | ⟨hs, e⟩
        · injection e with e _
          subst e
          exact ⟨x, rfl, ho⟩
        · injection e with e _
          subst e
          obtain ⟨y, ey⟩ := Option.isSome_iff_exists.mp hs
          exact absurd rfl (befI_some ey).1
    obtain ⟨x, rfl, hbx⟩ := hx
    have hcut := along_take (f := stepA) es et
    rw [show L.length - 2 + 2 = L.length by omega, List.take_length] at hcut
    have e1 : stepA [x, 1] [b, 0] = [(x, b)] := by
      unfold stepA
      rw [if_pos ⟨fun z => near_ne hW hbx z.symm, rfl⟩]
      rfl
    show ((alongL stepA L).filter _).length = 1
    rw [hcut, e1, List.filter_append, List.length_append, along_none fun l hl => ?_]
    · simp
    obtain ⟨j, s', t', e3, e4, hm⟩ := mem_along.mp hl
    obtain ⟨hne, h1, rfl⟩ := mem_stepA.mp hm
    rw [List.getElem?_take] at e3 e4
    split at e4
    · rename_i hj
      rw [if_pos (by omega)] at e3
      obtain ⟨p, o, rfl, rfl, _⟩ := r.outStep e3 e4 hne h1
      refine decide_eq_false fun z => ?_
      have z : o = b := z
      subst z
      have := nodup_at r.nd e4 r.lt
      omega
    · cases e4
theorem two_filters {α : Type} {q : α → Bool} : ∀ l : List α, (l.filter q).length + (l.filter fun x => !q x).length = l.length
  | [] => rfl
  | x :: l => by
    have := two_filters (q := q) l
    cases e : q x <;> simp [e] <;> omega
/-- few ways, few links -/
theorem Lks.few (hW : WebOk n T) (hno : b ∉ nearS T a) (h : Lks n T a b links c) : c ≤ n ∧ links.length ≤ n + c := by
  have len1 : ∀ q : Int × Int → Bool, (∀ l ∈ links, q l = true → l.2 ≠ b) → (links.filter q).length ≤ n := fun q hq => by
    have nd : ((links.filter q).map (·.2)).Nodup := by
      unfold List.Nodup
      rw [List.pairwise_map]
      refine List.Pairwise.imp_of_mem (fun {l m} hl hm hp e => ?_) (List.Pairwise.filter q h.in1)
      have := List.mem_filter.mp hl
      exact hq l this.1 this.2 (hp e)
    have := nodup_len nd (m := ups n) fun y hy => by
      obtain ⟨l, hl, rfl⟩ := List.mem_map.mp hy
      exact mem_ups.mpr (nearS_bd hW (h.tie l (List.mem_filter.mp hl).1))
    rw [List.length_map, ups_len] at this
    exact this
  constructor
  · rw [← h.frA]
    refine len1 _ fun l hl e z => ?_
    have e := of_decide_eq_true e
    have := h.tie l hl
    rw [e, z] at this
    exact hno this
  · have h1 := len1 (fun l => !decide (l.2 = b)) fun l hl e => by simpa using e
    have h2 := h.inB
    have : (links.filter fun l => decide (l.2 = b)).length + (links.filter fun l => !decide (l.2 = b)).length = links.length := by
      exact two_filters _
    omega
theorem Lks.inn (hW : WebOk n T) (hn : n ≤ 12) (hno : b ∉ nearS T a) (h : Lks n T a b links c) : LinksIn n links := by
  have := h.few hW hno
  refine ⟨by omega, fun l hl => ?_⟩
  have h1 := h.tie l hl
  exact ⟨nearS_bd hW (adj_symm h1), nearS_bd hW h1⟩
end
end My
set_option Elab.async false
set_option linter.all false
set_option maxRecDepth 100000
set_option maxHeartbeats 4000000
namespace My
open PySem PySem.Spec PyProof.Rows L2
/-! ### x not in a list, also an own one -/
def fNotInO : F2 := fun s a b Q => ∃ (r : List Int) (L : List (List Int)), datOf a = some (tI r) ∧ seqOf s b = some (true, L.map tI) ∧ r.length ≤ 1000 ∧ L.length ≤ 1000 ∧ (∀ x ∈ L, x.length ≤ 1000) ∧ Q (.d (.bool (!decide (r ∈ L))))
theorem OpOk.notInO {K : PySem.W.Frag} : OpOk K (rNotInDL K) fNotInO := by
  constructor
  intro H0 Hs P A s av σ H x y a b Q R r hx nx hy ny ⟨d, L, h1, h2, l1, l2, l3, q⟩ k
  obtain ⟨p, us, rfl, hA, hd⟩ := hy.lseq r h2
  refine ⟨tI d, L.map tI, (Dq.same wos_le (hx.dat h1)).dp (fit_tI (by omega)), .lst hA (DqAll.dpTs (DqAll.same wos_le hd)), by simpa only [tI, PyData.canLay0] using canLay_ints d, Nat.le_trans (depth_ints d) (by decide), (lay_tIs _).1, ?_⟩
  rw [any_eqv]
  exact k _ _ H (Same.refl _) (VRel.vbl _) (by simp) q
/-! promises -/
abbrev linkD (t : Int × Int) : PyData := tI (prI t)
theorem mem_prI {l : Int × Int} {L : List (Int × Int)} : (prI l ∈ L.map prI) ↔ l ∈ L := by
  rw [List.mem_map]
  constructor
  · rintro ⟨m, hm, e⟩
    unfold prI at e
    injection e with e1 e2
    injection e2 with e2 _
    have : m = l := Prod.ext e1 e2
    rwa [this] at hm
  · exact fun h => ⟨l, h, rfl⟩
/-- the links with one way more -/
def FWithWay (ds : List PyData) (Q : Sl → Prop) : Prop := ∃ (links : List (Int × Int)) (L : List (List Int)), ds = [.list (links.map linkD), .list (L.map tI)] ∧ links.length ≤ 200 ∧ L.length ≤ 100 ∧ (∀ s ∈ L, ∃ p d : Int, s = [p, d] ∧ (d = 0 ∨ d = 1)) ∧ Q (.nw ((withL links L).map linkD))
/-- as many ways as there are, and the search that finds no more -/
def FMost (ds : List PyData) (Q : Sl → Prop) : Prop := ∃ (n : Nat) (T : List (Int × Int)) (a b : Int), ds = [webD n T, .int a, .int b] ∧ WebOk n T ∧ n ≤ 12 ∧ (0 ≤ a ∧ a < n) ∧ (0 ≤ b ∧ b < n) ∧ a ≠ b ∧ b ∉ nearS T a ∧
  ∀ links c, Lks n T a b links c → (∀ row par dep, Bfs (nextS T (befI b links)) [a, 1] row par dep row.length 0 → [b, 0] ∉ row) → (∃ row par dep, Bfs (nextS T (befI b links)) [a, 1] row par dep row.length 0 ∧ [b, 0] ∉ row) → Q (.l (links.map linkD))
theorem way_rowS {n : Nat} {T bf : List (Int × Int)} {a b : Int} {R : List (List Int)} (w : Way (nextS T bf) [a, 1] [b, 0] R) (nd : R.Nodup) (hs : ∀ s ∈ R, SideOk n s) : RowS T bf a b R :=
  ⟨nd, w.head, w.last, w.step, fun s h => by
    obtain ⟨p, d, e, _, hd⟩ := hs s h
    exact ⟨p, d, e, hd⟩⟩
/-- the sides that the search came to -/
theorem Bfs.sides {n : Nat} {T links : List (Int × Int)} {a b : Int} {row : List (List Int)} {par : List Int → Option (List Int)} {dep : List Int → Nat} {i m : Nat} (hW : WebOk n T) (ha : 0 ≤ a ∧ a < n) (hl : LinksIn n links) (h : Bfs (nextS T (befI b links)) [a, 1] row par dep i m) : (∀ x ∈ row, SideOk n x) ∧ row.length ≤ 2 * n := by
  have h1 := h.all (p := SideOk n) ⟨a, 1, rfl, ha, .inr rfl⟩ fun x y hx hy => nextS_ok hW (bef_in (b := b) hl) hx hy
  have h2 := nodup_len h.nd fun x hx => side_mem (h1 x hx)
  rw [sidesL_len] at h2
  exact ⟨h1, h2⟩
/-! comprehensions of two clauses with a test in the second -/
theorem flat_fil_le {α β γ : Type} {m : α → List β} {p : α → β → Bool} {g : α → β → γ} : ∀ l : List α, (l.flatMap fun a => ((m a).filter (p a)).map (g a)).length ≤ (l.flatMap fun a => (m a).map (g a)).length
  | [] => Nat.le_refl _
  | a :: l => by
    have := flat_fil_le (m := m) (p := p) (g := g) l
    have h2 := List.length_filter_le (p a) (m a)
    rw [List.flatMap_cons, List.flatMap_cons, List.length_append, List.length_append, List.length_map, List.length_map]
    omega
theorem pLc2_fil {s : PSt} {pi pi1 : PI1} {pg pg1 : PG1} {pt1 : PT1} {pe : PE1} {vs vs1 : List Nat} {Q : Sl → PSt → Prop} {α β : Type} (l : List α) (f : α → PyData) (m : α → List β) (f1 g : α → β → PyData) (p : α → β → Bool) (C : α → PSt → Prop) (hl : (l.flatMap fun a => (m a).map (g a)).length ≤ 10000)
    (hi : ∀ R : Option Nat → List PyData → PSt → Prop, R none (l.map f) s → pi s R)
    (h0 : ∀ a ∈ l, ∀ Z : PSt → Prop, (∀ s3, C a s3 → Z s3) → pg (.d (f a)) { s with ρ := wipeP s.ρ vs } Z)
    (h1 : ∀ a ∈ l, ∀ s3, C a s3 → ({ s3 with ρ := s.ρ } : PSt) = s ∧ (∀ R : Option Nat → List PyData → PSt → Prop, R none ((m a).map (f1 a)) s3 → pi1 s3 R) ∧ ∀ b ∈ m a, ∀ (T : PyData → PSt → Prop) (G : PSt → Prop), (p a b = true → T (g a b) s3) → (p a b = false → G s3) →
      pg1 (.d (f1 a b)) { s3 with ρ := wipeP s3.ρ vs1 } fun s7 => pt1 s7 fun b' s8 => if b' = true then pe s8 fun z s9 => ∃ y, datOf z = some y ∧ T y { s9 with ρ := s3.ρ } else G { s8 with ρ := s3.ρ })
    (q : Q (.nw (l.flatMap fun a => ((m a).filter (p a)).map (g a))) s) : pLc2 pi pg pYes pi1 pg1 pt1 pe vs vs1 s Q := by
  refine hi _ ⟨fun i acc s2 => s2 = s ∧ acc = (l.take i).flatMap fun a => ((m a).filter (p a)).map (g a), ⟨rfl, rfl⟩, fun _ _ _ _ j e => (by cases e), ?_, ?_⟩
  · rintro i d acc s2 ed ⟨rfl, rfl⟩ _
    obtain ⟨a, ea, rfl⟩ := map_at ed
    have ha := List.mem_of_getElem? ea
    refine h0 a ha _ fun s3 hC => ?_
    obtain ⟨e3, g1, g2⟩ := h1 a ha s3 hC
    simp only [pYes, if_true]
    refine g1 _ ⟨fun j acc2 s6 => s6 = s3 ∧ acc2 = ((l.take i).flatMap fun a => ((m a).filter (p a)).map (g a)) ++ (((m a).take j).filter (p a)).map (g a), ⟨rfl, by simp⟩, fun _ _ _ _ j e => (by cases e), ?_, ?_⟩
    · rintro j e acc2 s6 ee ⟨rfl, rfl⟩ _
      obtain ⟨b, eb, rfl⟩ := map_at ee
      have hb := List.mem_of_getElem? eb
      have hlen : (((l.take i).flatMap fun a => ((m a).filter (p a)).map (g a)) ++ (((m a).take j).filter (p a)).map (g a)).length < 10000 := by
        have hj := (List.getElem?_eq_some_iff.mp eb).1
        have e1 : (l.take (i + 1)).flatMap (fun a => (m a).map (g a)) = (l.take i).flatMap (fun a => (m a).map (g a)) ++ (m a).map (g a) := flat_step ea
        have h2 : ((l.take (i + 1)).flatMap fun a => (m a).map (g a)).length ≤ 10000 := by
          refine Nat.le_trans ?_ hl
          have : l = l.take (i + 1) ++ l.drop (i + 1) := (List.take_append_drop ..).symm
          conv => rhs; rw [this, List.flatMap_append, List.length_append]
          omega
        rw [e1, List.length_append, List.length_map] at h2
        have h3 := flat_fil_le (m := m) (p := p) (g := g) (l.take i)
        have h4 := List.length_filter_le (p a) ((m a).take j)
        rw [List.length_take] at h4
        rw [List.length_append, List.length_map]
        omega
      have en : ((m a).take (j + 1)).filter (p a) = ((m a).take j).filter (p a) ++ [b].filter (p a) := by
        rw [List.take_add_one, eb, List.filter_append]
        rfl
      refine g2 b hb (fun y s9 => (((l.take i).flatMap fun a => ((m a).filter (p a)).map (g a)) ++ (((m a).take j).filter (p a)).map (g a)).length < 10000 ∧ s9 = s6 ∧ ((l.take i).flatMap fun a => ((m a).filter (p a)).map (g a)) ++ (((m a).take j).filter (p a)).map (g a) ++ [y] = ((l.take i).flatMap fun a => ((m a).filter (p a)).map (g a)) ++ (((m a).take (j + 1)).filter (p a)).map (g a)) (fun s9 => s9 = s6 ∧ ((l.take i).flatMap fun a => ((m a).filter (p a)).map (g a)) ++ (((m a).take j).filter (p a)).map (g a) = ((l.take i).flatMap fun a => ((m a).filter (p a)).map (g a)) ++ (((m a).take (j + 1)).filter (p a)).map (g a)) (fun hp => ⟨hlen, rfl, ?_⟩) (fun hp => ⟨rfl, ?_⟩)
      · rw [en, List.filter_cons_of_pos hp, List.filter_nil, List.map_append, List.append_assoc]
        rfl
      · rw [en, List.filter_cons_of_neg (by rw [hp]; decide), List.filter_nil, List.append_nil]
    · rintro acc2 s6 ⟨rfl, rfl⟩ _
      refine ⟨e3, ?_⟩
      rw [List.length_map, List.take_length, flat_step ea]
  · rintro acc s2 ⟨rfl, rfl⟩ _
    rw [List.length_map, List.take_length]
    exact q
/-- the places that are not tied, two and two -/
def looseL (n : Nat) (T : List (Int × Int)) : List (Int × Int) := (List.range n).flatMap fun i => ((List.range (n - (i + 1))).filter fun j : Nat => !decide (((i : Int), ((i + 1 : Nat) : Int) + (j : Int)) ∈ T)).map fun j : Nat => ((i : Int), ((i + 1 : Nat) : Int) + (j : Int))
theorem mem_looseL {n : Nat} {T : List (Int × Int)} {x y : Int} : (x, y) ∈ looseL n T ↔ 0 ≤ x ∧ x < y ∧ y < n ∧ (x, y) ∉ T := by
  unfold looseL
  rw [List.mem_flatMap]
  constructor
  · rintro ⟨i, hi, h⟩
    obtain ⟨j, hj, e⟩ := List.mem_map.mp h
    obtain ⟨h1, h2⟩ := List.mem_filter.mp hj
    rw [List.mem_range] at hi h1
    injection e with e1 e2
    subst e1 e2
    refine ⟨by omega, by omega, by omega, by simpa using h2⟩
  · rintro ⟨h1, h2, h3, h4⟩
    obtain ⟨i, rfl⟩ : ∃ i : Nat, x = i := ⟨x.toNat, by omega⟩
    obtain ⟨j, rfl⟩ : ∃ j : Nat, y = ((i + 1 : Nat) : Int) + (j : Int) := ⟨(y - i - 1).toNat, by omega⟩
    refine ⟨i, List.mem_range.mpr (by omega), List.mem_map.mpr ⟨j, List.mem_filter.mpr ⟨List.mem_range.mpr (by omega), ?_⟩, rfl⟩⟩
    rw [decide_eq_false h4]
    rfl
theorem looseL_len {n : Nat} {T : List (Int × Int)} : (looseL n T).length ≤ n * n := by
  have key : ∀ l : List Nat, (l.flatMap fun i => ((List.range (n - (i + 1))).filter fun j : Nat => !decide (((i : Int), ((i + 1 : Nat) : Int) + (j : Int)) ∈ T)).map fun j : Nat => ((i : Int), ((i + 1 : Nat) : Int) + (j : Int))).length ≤ l.length * n := fun l => by
    induction l with
    | nil => exact Nat.zero_le _
    | cons i l ih =>
      have := List.length_filter_le (fun j : Nat => !decide (((i : Int), ((i + 1 : Nat) : Int) + (j : Int)) ∈ T)) (List.range (n - (i + 1)))
      rw [List.length_range] at this
      rw [List.flatMap_cons, List.length_append, List.length_map, List.length_cons, Nat.succ_mul]
      omega
  have := key (List.range n)
  rwa [List.length_range] at this
def FLoose (ds : List PyData) (Q : Sl → Prop) : Prop := ∃ (n : Nat) (T : List (Int × Int)), ds = [webD n T] ∧ WebOk n T ∧ n ≤ 12 ∧ Q (.d (.tuple ((looseL n T).map linkD)))
/-! a lot that parts two places -/
def plotL (n : Nat) (row : List (List Int)) : List Int := (ups n).filter fun p => decide ([p, 0] ∈ row) && !decide ([p, 1] ∈ row)
def FParting (ds : List PyData) (Q : Sl → Prop) : Prop := ∃ (n : Nat) (T : List (Int × Int)) (a b : Int), ds = [webD n T, .int a, .int b] ∧ WebOk n T ∧ n ≤ 12 ∧ (0 ≤ a ∧ a < n) ∧ (0 ≤ b ∧ b < n) ∧ a ≠ b ∧ b ∉ nearS T a ∧
  ∀ links c row par dep, Lks n T a b links c → Bfs (nextS T (befI b links)) [a, 1] row par dep row.length 0 → [b, 0] ∉ row → Q (.d (tI (plotL n row)))
theorem plot_reach {n : Nat} {T bf : List (Int × Int)} {a b : Int} {row : List (List Int)} {par : List Int → Option (List Int)} {dep : List Int → Nat} (hW : WebOk n T) (hab : a ≠ b) (hB : Bfs (nextS T bf) [a, 1] row par dep row.length 0) (hb : [b, 0] ∉ row) {lot : List Int} (hl : ∀ x ∈ lot, x ∉ plotL n row) {x : Int} (h : Reach T lot a x) : x ≠ b ∧ [x, 1] ∈ row := by
  have h0 : [a, 1] ∈ row := List.mem_of_getElem? hB.s0
  induction h with
  | base => exact ⟨hab, h0⟩
  | step hr hy hyl ih =>
    rename_i x y
    obtain ⟨j, hj, e⟩ := List.getElem_of_mem ih.2
    have hn : [y, 0] ∈ nextS T bf [x, 1] := by
      unfold nextS
      dsimp only
      rw [if_neg (by decide)]
      exact List.mem_append_left _ (List.mem_map.mpr ⟨y, hy, rfl⟩)
    have hy0 := (hB.done j _ hj (List.getElem?_eq_some_iff.mpr ⟨hj, e⟩) _ hn).1
    refine ⟨fun e => hb (e ▸ hy0), ?_⟩
    have := hl y hyl
    unfold plotL at this
    rw [List.mem_filter] at this
    by_cases h1 : [y, 1] ∈ row
    · exact h1
    · refine absurd ⟨mem_ups.mpr (nearS_bd hW hy), ?_⟩ this
      rw [decide_eq_true hy0, decide_eq_false h1]
      rfl
/-- a cut: two places stay that no way leads between -/
def CutIs (n : Nat) (T : List (Int × Int)) (lot : List Int) : Prop := lot.Pairwise (· < ·) ∧ (∀ x ∈ lot, 0 ≤ x ∧ x < n) ∧ ∃ a b : Int, (0 ≤ a ∧ a < n) ∧ (0 ≤ b ∧ b < n) ∧ a ∉ lot ∧ b ∉ lot ∧ ¬ Reach T (othersL n lot) a b
end My
set_option Elab.async false
set_option linter.all false
set_option maxRecDepth 100000
set_option maxHeartbeats 4000000
namespace My
open PySem PySem.Spec PyProof.Rows L2
/-! ### old promises taken over for bars -/
section
variable {K : PySem.W.Frag}
def GOthers (ds : List PyData) (Q : PyData → Prop) : Prop := ∃ (n : Nat) (e : PyData) (lot : List Int), ds = [.tuple [.int n, e], tI lot] ∧ n ≤ 100 ∧ Q (tI (othersL n lot))
theorem ClOk.others : ClOk K (spOthers K) (fTo GOthers) := ClOk.to fun vs ds H Q Qf hd ⟨n, e, lot, e0, hn, q1⟩ q => by
  subst e0
  cases hd with
  | cons h1 t =>
    cases t with
    | cons h2 t =>
      cases t
      obtain ⟨a, rfl, hT⟩ := h2.tI_un
      exact ⟨_, n, e, a, lot, rfl, h1, hn, hT, fun qa H' s' hx => q _ _ H' q1 s' (Dq.ofTI hx)⟩
def GPieces (ds : List PyData) (Q : PyData → Prop) : Prop := ∃ (n : Nat) (T : List (Int × Int)) (lot : List Int), ds = [webD n T, tI lot] ∧ WebOk n T ∧ 1 ≤ n ∧ n ≤ 12 ∧ lot.length ≤ 12 ∧ (∀ x ∈ lot, 0 ≤ x ∧ x < n) ∧ lot.Pairwise (· < ·) ∧ ∀ ps : List (List Int), PiecesIs T lot ps → ps.length ≤ 12 → Q (.tuple (ps.map tI))
theorem ClOk.pieces : ClOk K (spPieces K) (fTo GPieces) := ClOk.to fun vs ds H Q Qf hd ⟨n, T, lot, e0, hW, n1, n12, hl, hb, hp, q1⟩ q => by
  subst e0
  cases hd with
  | cons h1 t =>
    cases t with
    | cons h2 t =>
      cases t
      obtain ⟨a, rfl, hT⟩ := h2.tI_un
      exact ⟨_, n, T, a, lot, rfl, h1, hW, n1, n12, hT, hl, hb, hp, fun qa ps H' h1 h2 s' hx => q _ _ H' (q1 ps h1 h2) s' (Dq.of hx)⟩
def fOdd : FC := fun s as Q => as = [.pen] ∧ s.k ≤ 900000 ∧ ∀ d, Sm 2 3 d → Q (.d d) { s with k := s.k + 1 }
end
/-! ### a tuple of none -/
def fRepT0 : F2 := fun s a b Q => ∃ ds k, seqOf s a = some (false, ds) ∧ b = .d (.int k) ∧ ds ≠ [] ∧ 0 ≤ k ∧ k ≤ 1000 ∧ ds.length ≤ 1000 ∧ Q (.d (.tuple (List.replicate k.toNat ds).flatten))
/-! ### bars -/
def BarOk (n : Nat) (T : List (Int × Int)) (k : Int) (rs ss : List Int) : Prop := DealOk n rs ss ∧ (rs.length : Int) = k ∧ ss = List.replicate (rs.length - 1) 1 ++ [(n : Int) - k + 1] ∧ hangsB T (othersL n (rs.take (rs.length - 1))) = false
/-- the first two pieces of what a cut leaves -/
theorem cut_pieces {n : Nat} {T : List (Int × Int)} {lot : List Int} {ps : List (List Int)} (h : CutIs n T lot) (hp : PiecesIs T (othersL n lot) ps) : ∃ x y r s ps', ps = (x :: r) :: (y :: s) :: ps' ∧ x ∈ othersL n lot ∧ y ∈ othersL n lot ∧ x ≠ y ∧ ¬ Reach T (othersL n lot) x y := by
  obtain ⟨_, _, a, b, ha, hb, hal, hbl, hr⟩ := h
  have mo : ∀ {z : Int}, (0 ≤ z ∧ z < n) → z ∉ lot → z ∈ othersL n lot := fun hz hn => List.mem_filter.mpr ⟨mem_ups.mpr hz, by rw [decide_eq_false hn]; rfl⟩
  have ao := mo ha hal
  have bo := mo hb hbl
  obtain ⟨ra, pa⟩ := piece_ex (T := T) (fun y hy => mem_othersL (n := n) (lot := lot) hy) ha
  obtain ⟨rb, pb⟩ := piece_ex (T := T) (fun y hy => mem_othersL (n := n) (lot := lot) hy) hb
  have ia : ra ∈ ps := (hp.2.2 ra).mpr ⟨a, ao, pa⟩
  have ib : rb ∈ ps := (hp.2.2 rb).mpr ⟨b, bo, pb⟩
  have hne : ra ≠ rb := fun e => by
    subst e
    exact hr ((pa.2 b).mp ((pb.2 b).mpr .base))
  have hlen := hp.len
  match ps, hp, ia, ib, hlen with
  | [], _, ia, _, _ => cases ia
  | [p], _, ia, ib, _ =>
    rw [List.mem_singleton] at ia ib
    exact absurd (ia.trans ib.symm) hne
  | [] :: q :: ps', _, _, _, hlen => exact absurd rfl (hlen [] List.mem_cons_self)
  | (x :: r) :: [] :: ps', _, _, _, hlen => exact absurd rfl (hlen [] (List.mem_cons_of_mem _ List.mem_cons_self))
  | (x :: r) :: (y :: s) :: ps', hp, _, _, _ =>
    obtain ⟨u, uo, pu⟩ := (hp.2.2 (x :: r)).mp List.mem_cons_self
    obtain ⟨v, vo, pv⟩ := (hp.2.2 (y :: s)).mp (List.mem_cons_of_mem _ List.mem_cons_self)
    have rx := (pu.2 x).mp List.mem_cons_self
    have ry := (pv.2 y).mp List.mem_cons_self
    have hno : ¬ Reach T (othersL n lot) x y := fun hxy => by
      have huv : ∀ z, Reach T (othersL n lot) u z ↔ Reach T (othersL n lot) v z := fun z => by
        have h1 : Reach T (othersL n lot) u v := reach_trans (reach_trans rx hxy) (reach_symm vo ry)
        exact ⟨fun h => reach_trans (reach_symm uo h1) h, fun h => reach_trans h1 h⟩
      have pv2 : PieceIs T (othersL n lot) u (y :: s) := ⟨pv.1, fun z => (pv.2 z).trans (huv z).symm⟩
      have e := pu.eq pv2
      exact (List.nodup_cons.mp hp.2.1).1 (by rw [e]; exact List.mem_cons_self)
    exact ⟨x, y, r, s, ps', rfl, reach_in uo rx, reach_in vo ry, fun e => hno (e ▸ .base), hno⟩
theorem up_nodup {l : List Int} (h : l.Pairwise (· < ·)) : l.Nodup := h.imp fun {a b} h => by omega
/-- a bar, or none -/
def FFindBar (ds : List PyData) (Q : Sl → Prop) : Prop := ∃ (n : Nat) (T : List (Int × Int)) (k : Int), ds = [webD n T, .int k] ∧ WebOk n T ∧ n ≤ 12 ∧ Q (.d .none) ∧ ∀ rs ss, BarOk n T k rs ss → Q (.d (.tuple [tI rs, tI ss]))
/-! len(set(t)) -/
def pLenSetT (pa : PA1) : PE1 := fun s Q => pa s fun zs s1 => ∃ (z : Sl) (ns : List Int), zs = [z] ∧ seqOf s1 z = some (false, ns.map PyData.int) ∧ ns.length ≤ 4000 ∧ ∀ c : Nat, (c = ns.length ↔ ns.Nodup) → Q (.d (.int c)) s1
theorem FFindBar.of {n : Nat} {T : List (Int × Int)} {k : Int} {Q : Sl → Prop} (hW : WebOk n T) (hn : n ≤ 12) (h : ∀ d, (d = .none ∨ ∃ rs ss, d = .tuple [tI rs, tI ss] ∧ BarOk n T k rs ss) → Q (.d d)) : FFindBar [webD n T, .int k] Q :=
  ⟨n, T, k, rfl, hW, hn, h _ (.inl rfl), fun rs ss hb => h _ (.inr ⟨rs, ss, rfl, hb⟩)⟩
end My
set_option Elab.async false
set_option linter.all false
set_option maxRecDepth 100000
set_option maxHeartbeats 4000000
namespace My
open PySem PySem.Spec PyProof.Rows L2
/-! ### the text of a tuple of small numbers is of no other value -/
end My
set_option Elab.async false
set_option linter.all false
set_option maxRecDepth 100000
set_option maxHeartbeats 4000000
namespace My
open PySem PySem.Spec PyProof.Rows L2 PySem.SeqAt
/-! ### len(set(l)), l a list -/
def pLenSetL (pa : PA1) : PE1 := fun s Q => pa s fun zs s1 => ∃ (z : Sl) (ns : List Int), zs = [z] ∧ seqOf s1 z = some (true, ns.map PyData.int) ∧ ns.length ≤ 4000 ∧ ∀ c : Nat, (c = ns.length ↔ ns.Nodup) → Q (.d (.int c)) s1
end My
namespace My
open PySem PySem.Spec PyProof.Rows L2
/-! ### t[::k] -/
def pStepT (p : PE1) (q : PO1) : PE1 := fun s Q => p s fun z s1 => q s1 fun o s2 => ∃ ds k, seqOf s2 z = some (false, ds) ∧ o = some k ∧ ((k = 1 ∧ Q z s2) ∨ (k = -1 ∧ Q (.d (.tuple ds.reverse)) s2))
end My
set_option Elab.async false
set_option linter.all false
set_option maxRecDepth 100000
set_option maxHeartbeats 4000000
namespace My
open PySem PySem.Spec PyProof.Rows L2
/-! ### sum(lists, []) -/
theorem list_addS (l : Addr) (items : Array Value) (n : Nat) (b : Addr) (items2 : Array Value) (n2 : Nat) (sl : Array (Option Value)) (hc0 : items.size + items2.size ≤ sizeLine) :
    Meets (Builtin.«list.__add__» ⟨[.ref l, .ref b], []⟩) (fun _ R s => s.heap.get? l = some { cls := .type "list", dict := none, data := .seq items n, slots := #[] } ∧ s.heap.get? b = some { cls := .type "list", dict := none, data := .seq items2 n2, slots := sl } ∧
      R (.ok (.ret (Value.ref s.heap.objs.size))) { s with heap := s.heap.push { cls := Value.type "list", data := Data.seq (items ++ items2) }, toks := s.toks }) :=
  .of_wp fun prog w A R s h => by
    obtain ⟨hp, g, d, tk, os⟩ := s
    obtain ⟨hl, hb, h⟩ := h
    have f1 := AutoSeq1.idx_int
    have f2 := sub_tuple_tuple
    have f3 := sub_list_list
    have f4 := sub_tuple_list
    have f5 := sub_list_tuple
    wp_walk using wpAny_loadPart' hl, wpAny_loadPart' hb
    exact ⟨_, rfl, h⟩
end My
namespace My
open PySem PySem.Spec PyProof.Rows L2
section
variable {prog : Program} {w : World} {A : Around} {E : Value → Shared → Prop} {s : Shared}
theorem addS {l b : Addr} {items items2 : Array Value} {n n2 : Nat} {sl : Array (Option Value)} {Q : Value → Shared → Prop} (hl : s.heap.get? l = some { cls := .type "list", dict := none, data := .seq items n, slots := #[] }) (hb : s.heap.get? b = some { cls := .type "list", dict := none, data := .seq items2 n2, slots := sl })
    (h : Q (.ref s.heap.objs.size) { s with heap := s.heap.push { cls := .type "list", data := .seq (items ++ items2) } }) (hsz : items.size + items2.size ≤ sizeLine) : wpAny (model prog w) A (binaryOp .Add (.ref l) (.ref b)) Q E s :=
  concat_meets ⟨_, hl, rfl⟩ ⟨_, hb, rfl⟩ noFill_list_add seq_list_add F.slot_list_add F.entry_list_add (F.args_list_add_2 _ _) (list_addS l items n b items2 n2 sl hsz) ⟨hl, hb, h⟩
def preL (its : Nat → List Value) (i : Nat) : List Value := (List.range i).flatMap its
theorem preL_succ {its : Nat → List Value} {i : Nat} : preL its (i + 1) = preL its i ++ its i := by
  unfold preL
  rw [List.range_succ, List.flatMap_append, List.flatMap_singleton]
end
section
variable {prog : Program} {w : World} {A : Around} {R : Result → Shared → Prop} {I ax S : Addr} {items : Array Value}
theorem sum_loopL (hh : A.in1.handled = none) (hne : ax ≠ I) (hSI : S ≠ I) (hSx : S ≠ ax) (ad : Nat → Addr) (its : Nat → List Value) (hit : ∀ i v, items[i]? = some v → v = Value.ref (ad i)) (hsz : ∀ i, i ≤ items.size → (preL its i).length ≤ sizeLine) :
    ∀ (k i : Nat) (s : Shared) (p : Addr) (c m : Nat), items.size - i = k → i ≤ items.size → s.heap.IsListIter I ax i → s.heap.IsList ax items → s.heap.get? S = some { cls := .type "list", dict := none, data := .seq #[.ref p] c, slots := #[] } → p ≠ S → p ≠ I →
    s.heap.get? p = some { cls := .type "list", dict := none, data := .seq (preL its i).toArray m, slots := #[] } → (∀ j < items.size, ad j ≠ S ∧ ad j ≠ I ∧ PlainL s.heap (ad j) (its j).toArray) →
    (∀ h' tk q m', (∀ b o, b ≠ I → b ≠ S → s.heap.get? b = some o → h'.get? b = some o) → ((i = items.size ∧ q = p) ∨ s.heap.objs.size ≤ q) → h'.get? q = some { cls := .type "list", dict := none, data := .seq (preL its items.size).toArray m', slots := #[] } → R (.ok (.ret (.ref q))) { s with heap := h', toks := tk }) →
    codeAny (model prog w) A (.builtin "sum.loop" ⟨[.ref I, .ref S, rawInt 2, rawInt 0], []⟩) R s := by
  intro k
  induction k with
  | zero =>
    intro i s p c m hk hi hst hax hS hpS hpI hp had hR
    have hin : i = items.size := by omega
    subst hin
    refine codeAny_builtin F.entry_sum_loop ?_
    rw [Around.under_plainId F.plain_sum_loop _]
    show wpAny _ A.in1 (seqItems? (.ref S) >>= _) _ _ s
    refine wpAny_bind (wpAny_seqItems hS rfl ?_)
    show wpAny _ A.in1 (tryCatch (pyNext (.ref I)) _ >>= _) _ _ s
    refine wpAny_bind (wpAny_tryCatch (wpAny_pyNext_list_end hh hst hax (by simp) fun h' he' => ?_))
    exact wpAny_pure (hR h' s.toks p m (fun b o hb _ e => he' b o hb e) (.inl ⟨rfl, rfl⟩) (he' p _ hpI hp))
  | succ k ih =>
    intro i s p c m hk hi hst hax hS hpS hpI hp had hR
    have hlt : i < items.size := by omega
    refine codeAny_builtin F.entry_sum_loop ?_
    rw [Around.under_plainId F.plain_sum_loop _]
    show wpAny _ A.in1 (seqItems? (.ref S) >>= _) _ _ s
    refine wpAny_bind (wpAny_seqItems hS rfl ?_)
    show wpAny _ A.in1 (tryCatch (pyNext (.ref I)) _ >>= _) _ _ s
    refine wpAny_bind (wpAny_tryCatch (wpAny_pyNext_list_item hst hax (x := items[i]) (by simp [hlt]) fun h' hit' hs' => ?_))
    have hv := hit i items[i] (by simp [hlt])
    rw [hv]
    have kept : ∀ b o, b ≠ I → s.heap.get? b = some o → h'.get? b = some o := fun b o hb e => hs'.extBut b o hb e
    have hS' := kept S _ hSI hS
    have hp' := kept p _ hpI hp
    obtain ⟨h1, h2, ⟨cc, dd, da, sl⟩, n2, e, rfl, rfl, rfl⟩ := had i hlt
    have e' := kept _ _ h2 e
    show wpAny _ A.in1 ((holding [Value.ref (ad i)] (binaryOp .Add (.ref p) (.ref (ad i)))).attempt >>= _) _ _ _
    refine wpAny_bind (wpAny_attempt (wpAny_holding (addS (s := { s with heap := h' }) hp' e' ?_ (by
      have := hsz (i + 1) hlt
      rw [preL_succ, List.length_append] at this
      simpa using this))))
    have hpush : ∀ b o, h'.get? b = some o → (h'.push { cls := .type "list", data := .seq ((preL its i).toArray ++ (its i).toArray) }).get? b = some o := fun b o e => Heap.get?_push_of_some _ e
    have hq : (h'.push { cls := .type "list", data := .seq ((preL its i).toArray ++ (its i).toArray) }).get? h'.objs.size = some { cls := .type "list", data := .seq ((preL its i).toArray ++ (its i).toArray) } := Heap.get?_push_size _ rfl
    have hqS : h'.objs.size ≠ S := Ne.symm (Nat.ne_of_lt (Heap.lt_size hS'))
    have hqI : h'.objs.size ≠ I := by
      obtain ⟨o, eo, _⟩ := hit'
      exact Ne.symm (Nat.ne_of_lt (Heap.lt_size eo))
    show wpAny _ A.in1 (updateSeq S (fun _ => #[.ref h'.objs.size]) >>= _) _ _ _
    refine wpAny_bind ?_
    refine wpAny_updateSeq (hpush _ _ hS') rfl ?_
    have hS2 := Heap.get?_update_self (Obj.mapSeq fun _ => #[Value.ref h'.objs.size]) (hpush _ _ hS') rfl
    refine wpAny_bind (wpAny_letGo ?_)
    refine wpAny_bind ?_
    refine wpAny_updateSeq hS2 rfl (wpAny_pure ⟨plainId_quiet F.plain_sum_loop _, ih (i + 1) _ h'.objs.size _ 0 (by omega) hlt (hit'.at fun o e => ?_) (hax.at fun o e => ?_) (Heap.get?_update_self _ hS2 rfl) hqS hqI ?_ (fun j hj => ?_) fun h'' tk q m' hk'' hq' hh'' => ?_⟩)
    · exact (Heap.get?_update_other _ _ hSI).trans ((Heap.get?_update_other _ _ hSI).trans (hpush _ _ e))
    · exact (Heap.get?_update_other _ _ hSx).trans ((Heap.get?_update_other _ _ hSx).trans (hpush _ _ (kept _ _ hne e)))
    · refine (Heap.get?_update_other _ _ (Ne.symm hqS)).trans ((Heap.get?_update_other _ _ (Ne.symm hqS)).trans (hq.trans ?_))
      rw [preL_succ]
      simp
    · obtain ⟨g1, g2, o, n3, g3, g4⟩ := had j hj
      exact ⟨g1, g2, o, n3, (Heap.get?_update_other _ _ (Ne.symm g1)).trans ((Heap.get?_update_other _ _ (Ne.symm g1)).trans (hpush _ _ (kept _ _ g2 g3))), g4⟩
    · refine hR h'' tk q m' (fun b o hb hbS e => hk'' b o hb hbS ((Heap.get?_update_other _ _ (Ne.symm hbS)).trans ((Heap.get?_update_other _ _ (Ne.symm hbS)).trans (hpush _ _ (kept b o hb e))))) (.inr ?_) hh''
      have e1 : h'.objs.size = s.heap.objs.size := hs'.1
      rcases hq' with ⟨_, rfl⟩ | hq'
      · exact Nat.le_of_eq e1.symm
      · refine Nat.le_trans ?_ hq'
        show _ ≤ ((((h'.push { cls := .type "list", data := .seq ((preL its i).toArray ++ (its i).toArray) }).update S _).update S _).objs.size)
        rw [Heap.size_after_update, Heap.size_after_update, Heap.size_push, e1]
        exact Nat.le_succ _
end
theorem args_sum2 (a b : Value) : argsOk "sum" ⟨[a, b], []⟩ := by unfold argsOk; kernel_rfl
section
variable {prog : Program} {w : World} {A : Around} {E : Value → Shared → Prop} {s : Shared}
theorem call_sumL {l e : Addr} {items : Array Value} {Q : Value → Shared → Prop} {ne : Nat} (hh : A.handled = none) (hl : s.heap.IsList l items) (he : s.heap.get? e = some { cls := .type "list", dict := none, data := .seq #[] ne, slots := #[] }) (ad : Nat → Addr) (its : Nat → List Value)
    (hit : ∀ i v, items[i]? = some v → v = Value.ref (ad i)) (had : ∀ j < items.size, PlainL s.heap (ad j) (its j).toArray) (hsz : ∀ i, i ≤ items.size → (preL its i).length ≤ sizeLine) (h1 : 1 ≤ items.size)
    (h : ∀ h' tk q m', (∀ b o, s.heap.get? b = some o → h'.get? b = some o) → h'.get? q = some { cls := .type "list", dict := none, data := .seq (preL its items.size).toArray m', slots := #[] } → s.heap.objs.size ≤ q → Q (.ref q) { s with heap := h', toks := tk }) :
    wpAny (model prog w) A (call (.builtin "sum") [.ref l, .ref e]) Q E s := by
  refine call_function_tree F.kind_sum F.plain_sum F.entry_sum (args_sum2 _ _) ?_
  unfold Builtin.«sum»
  simp only [List.length_cons, List.length_nil]
  rw [if_neg (by decide)]
  refine wpAny_bind (wpAny_of_eq (show Builtin.Builtins.bindParams "sum" ["start"] 0 ⟨[Value.ref e], []⟩ = pure [some (Value.ref e)] from rfl) ?_)
  have hlt : l < s.heap.objs.size := by obtain ⟨_, e, _⟩ := hl; exact Heap.lt_size e
  refine wpAny_bind (wpAny_pyIter_list hl ?_)
  refine wpAny_bind (wpAny_pure ?_)
  simp only [List.forIn_cons, List.forIn_nil]
  have hp0 : ∀ b o, s.heap.get? b = some o → (s.heap.push { cls := .type "list_iterator", data := .fields #[.ref l, .int 0 0] }).get? b = some o := fun b o q => Heap.get?_push_of_some _ q
  have hT : ({ s with heap := s.heap.push { cls := .type "list_iterator", data := .fields #[.ref l, .int 0 0] } } : Shared).TypeIs (Value.ref e) "list" := ⟨_, hp0 _ _ he, rfl⟩
  refine wpAny_bind (wpAny_bind (wpAny_bind (wpAny_isInstance (T := "list") (b := false) hT (show isSubtype (.type "list") (.type "str") = pure false by rw [isSubtype_type]; kernel_rfl) ?_)))
  simp only [Bool.false_eq_true, if_false]
  refine wpAny_pure (wpAny_bind (wpAny_bind (wpAny_isInstance (T := "list") (b := false) hT (show isSubtype (.type "list") (.type "bytes") = pure false by rw [isSubtype_type]; kernel_rfl) ?_)))
  simp only [Bool.false_eq_true, if_false]
  refine wpAny_pure (wpAny_bind (wpAny_bind (wpAny_isInstance (T := "list") (b := false) hT (show isSubtype (.type "list") (.type "bytearray") = pure false by rw [isSubtype_type]; kernel_rfl) ?_)))
  simp only [Bool.false_eq_true, if_false]
  refine wpAny_pure (wpAny_pure ?_)
  refine wpAny_bind (wpAny_newObj_type ?_)
  refine wpAny_pure ⟨plainId_quiet F.plain_sum_loop _, ?_⟩
  have sI : (s.heap.push { cls := .type "list_iterator", data := .fields #[.ref l, .int 0 0] }).objs.size = s.heap.objs.size + 1 := Heap.size_push ..
  have hp1 : ∀ b o, s.heap.get? b = some o → ((s.heap.push { cls := .type "list_iterator", data := .fields #[.ref l, .int 0 0] }).push { cls := .type "list", data := .seq #[Value.ref e] }).get? b = some o := fun b o q => Heap.get?_push_of_some _ (hp0 b o q)
  have ltS : ∀ b o, s.heap.get? b = some o → b ≠ s.heap.objs.size ∧ b ≠ (s.heap.push { cls := .type "list_iterator", data := .fields #[.ref l, .int 0 0] }).objs.size := fun b o q => by
    have := Heap.lt_size q
    exact ⟨Nat.ne_of_lt this, by rw [sI]; exact Nat.ne_of_lt (Nat.lt_succ_of_lt this)⟩
  refine sum_loopL (I := s.heap.objs.size) (ax := l) (S := (s.heap.push { cls := .type "list_iterator", data := .fields #[.ref l, .int 0 0] }).objs.size) (items := items) hh (Nat.ne_of_lt hlt) (by rw [sI]; exact Nat.succ_ne_self _) (by rw [sI]; exact Ne.symm (Nat.ne_of_lt (Nat.lt_succ_of_lt hlt))) ad its hit hsz items.size 0 _ e _ ne (by omega) (Nat.zero_le _) ⟨_, Heap.get?_push_of_some _ (Heap.get?_push_size _ rfl), rfl, rfl⟩ (hl.at fun o q => hp1 _ _ q) (Heap.get?_push_size _ rfl) (ltS _ _ he).2 (ltS _ _ he).1 (hp1 _ _ he) (fun j hj => ?_) fun h' tk q m' hk hq' hh' => ?_
  · obtain ⟨o, n, g1, g2⟩ := had j hj
    exact ⟨(ltS _ _ g1).2, (ltS _ _ g1).1, o, n, hp1 _ _ g1, g2⟩
  · refine h h' tk q m' (fun b o g => hk b o (ltS _ _ g).1 (ltS _ _ g).2 (hp1 _ _ g)) hh' ?_
    rcases hq' with ⟨g, _⟩ | hq'
    · omega
    · refine Nat.le_trans ?_ hq'
      rw [Heap.size_push, sI]
      exact Nat.le_succ_of_le (Nat.le_succ _)
end
section
variable {X : Cx}
/-- sum(a list of lists, a new list that is empty) -/
def rSumLL (K : PySem.W.Frag) : List V → Hp → VK → Prop := fun vs H Q => ∃ (a e : Addr) (us : List V) (xss : List (List V)), vs = [.ref a, .ref e] ∧ SqL K H a us ∧ H e = some (.lst []) ∧ 1 ≤ us.length ∧ Paired (fun u xs => ∃ b, u = V.ref b ∧ SqL K H b xs) us xss ∧ (∀ i, i ≤ xss.length → ((xss.take i).map List.length).sum ≤ sizeLine) ∧
  ∀ p, H p = none → Q (.ref p) (upd H p (.lst xss.flatten))
theorem cr_sumLL (hc : X.calm = true) : CallR X (.builtin "sum") (rSumLL X.K) := by
  intro pins s σ H vs us0 Q I r h
  obtain ⟨a, e, us, xss, rfl, hA, he, h1, hp, hsz, q⟩ := h
  obtain ⟨u, u2, rfl, r1, r2⟩ := vals2 r
  cases r1
  cases r2
  obtain ⟨its, rv, pl, hz⟩ := I.list hA
  obtain ⟨ze, ites, ne, re, le, ee⟩ := I.lstM he
  have e0 : ites = [] := by cases re; rfl
  subst e0
  have hlen := rv.length
  have one : ∀ i : Nat, ∃ (b : Addr) (j : List Value), (∀ v, its[i]? = some v → v = Value.ref b) ∧ ∀ xs, xss[i]? = some xs → Vals xs j ∧ PlainL s.heap b j.toArray := by
    clear q hsz h1 hA hlen pl hz
    induction hp generalizing its with
    | nil =>
      cases rv
      exact fun i => ⟨0, [], fun v e => by simp at e, fun xs e => by simp at e⟩
    | cons h t ih =>
      obtain ⟨b, rfl, hb⟩ := h
      cases rv with
      | cons r rs =>
        cases r
        intro i
        match i with
        | 0 =>
          obtain ⟨j, g1, g2, _⟩ := I.list hb
          exact ⟨b, j, fun v e => by cases e; rfl, fun xs e => by cases e; exact ⟨g1, g2⟩⟩
        | i + 1 => exact ih _ rs i
  obtain ⟨ad, js, k1, k2⟩ : ∃ (ad : Nat → Addr) (js : Nat → List Value), (∀ i v, its[i]? = some v → v = Value.ref (ad i)) ∧ ∀ i xs, xss[i]? = some xs → Vals xs (js i) ∧ PlainL s.heap (ad i) (js i).toArray :=
    ⟨fun i => Classical.choose (one i), fun i => Classical.choose (Classical.choose_spec (one i)), fun i v e => (Classical.choose_spec (Classical.choose_spec (one i))).1 v e, fun i xs e => (Classical.choose_spec (Classical.choose_spec (one i))).2 xs e⟩
  have lp : us.length = xss.length := hp.length
  have run : ∀ m, m ≤ xss.length → Vals (xss.take m).flatten (preL js m) := fun m => by
    induction m with
    | zero => intro _; exact .nil
    | succ m ih =>
      intro hm
      obtain ⟨xs, ex⟩ : ∃ xs, xss[m]? = some xs := ⟨_, List.getElem?_eq_getElem (by omega)⟩
      rw [preL_succ, List.take_add_one, ex, List.flatten_append]
      simp only [Option.toList_some, List.flatten_cons, List.flatten_nil, List.append_nil]
      exact (ih (by omega)).append (k2 m xs ex).1
  have lsum : ∀ l : List (List V), l.flatten.length = (l.map List.length).sum := fun l => List.length_flatten
  have lits : its.length = xss.length := by omega
  refine call_sumL (items := its.toArray) (I.ok.hd hc) pl.isList ee ad js (fun i v e => k1 i v (by simpa using e)) (fun j hj => ?_) (fun i hi => ?_) (by simp; omega) fun h' tk p m' hk hp' hs => ?_
  · have hj : j < xss.length := by rw [List.size_toArray] at hj; omega
    obtain ⟨xs, ex⟩ : ∃ xs, xss[j]? = some xs := ⟨_, List.getElem?_eq_getElem hj⟩
    exact (k2 j xs ex).2
  · have hi : i ≤ xss.length := by rw [List.size_toArray] at hi; omega
    rw [← (run i hi).length, lsum]
    exact hsz i hi
  · have hall := run xss.length (Nat.le_refl _)
    rw [List.take_length] at hall
    rw [List.size_toArray, lits] at hp'
    refine ⟨.ref p, _, I.laid (o := .lst xss.flatten) (t' := tk) hk hs ⟨?_, _, m', hall, hp'⟩, rfl, q p (I.hok.fresh hs)⟩
    have := hsz xss.length (Nat.le_refl _)
    rw [List.take_length] at this
    rw [lsum]
    exact this
theorem sumLL (K : PySem.W.Frag) (hc : X.calm = true) (h : X.K = K := by rfl) : CallR X (.builtin "sum") (rSumLL K) := by subst h; exact cr_sumLL hc
end
/-! without heaps -/
def fSumLL : FN := fun s as Q => ∃ (z y : Sl) (L : List (List PyData)), as = [z, y] ∧ seqOf s z = some (true, L.map PyData.list) ∧ y = .nw [] ∧ 1 ≤ L.length ∧ L.flatten.length ≤ 10000 ∧ Q (.nw L.flatten)
theorem lists_un {K : PySem.W.Frag} {H : Hp} {av : List Addr} : ∀ {us : List V} {L : List (List PyData)}, DqAll K (wos av H) us (L.map PyData.list) → ∃ xss : List (List V), Paired (fun u xs => ∃ b, u = V.ref b ∧ SqL K H b xs) us xss ∧ DqAll K (wos av H) xss.flatten L.flatten ∧ xss.map List.length = L.map List.length
  | _, [], h => by cases h; exact ⟨[], .nil, .nil, rfl⟩
  | _, d :: L, h => by
    cases h with
    | cons h t =>
      obtain ⟨a, us, rfl, hA, hd⟩ := Dq.un_lst h
      obtain ⟨xss, h1, h2, h3⟩ := lists_un t
      exact ⟨us :: xss, .cons ⟨a, rfl, wos_le.seq hA⟩ h1, DqAll.append hd h2, by rw [List.map_cons, List.map_cons, h3, hd.len]⟩
theorem CbOk.sumLL {K : PySem.W.Frag} : CbOk K (rSumLL K) fSumLL := by
  constructor
  intro H0 Hs P A s av σ H xs as Q R r h ⟨z, y, L, e, e2, e3, h1, h2, q⟩ k
  subst e e3
  obtain ⟨u, v, rfl, hu, nu, hv, nv⟩ := h.two
  obtain ⟨a, us, rfl, hA, hd⟩ := hu.lseq r e2
  obtain ⟨b, vs, rfl, _, eb, _, hd2⟩ := hv
  cases hd2
  obtain ⟨xss, g1, g2, g3⟩ := lists_un hd
  have lu := hd.len
  rw [List.length_map] at lu
  refine ⟨a, b, us, xss, rfl, hA, eb, by omega, g1, fun i hi => ?_, fun p hp => ?_⟩
  · have e4 : (xss.map List.length).sum ≤ 10000 := by rw [g3, ← List.length_flatten]; exact h2
    have e5 : ((xss.take i).map List.length).sum ≤ (xss.map List.length).sum := by
      conv => rhs; rw [← List.take_append_drop i xss, List.map_append, List.sum_append]
      omega
    exact smallN (by omega)
  · exact k _ _ _ (My.Same.new hp) (VRel.lst r hp g2) (by simp) q
end My
set_option Elab.async false
set_option linter.all false
set_option maxRecDepth 100000
set_option maxHeartbeats 4000000
namespace My
open PySem PySem.Spec PyProof.Rows L2
/-! ### steps by themselves: each word applied, as an equation -/
theorem pC_s (d : PyData) (s : PSt) (Q : Sl → PSt → Prop) : pC d s Q = (Q (.d d) s) := (rfl)
theorem pOp_s (f : F2) (p q : PE1) (s : PSt) (Q : Sl → PSt → Prop) : pOp f p q s Q = (p s fun a s1 => q s1 fun b s2 => f s2 a b fun z => Q z s2) := (rfl)
theorem pUn_s (f : F1) (p : PE1) (s : PSt) (Q : Sl → PSt → Prop) : pUn f p s Q = (p s fun a s1 => f s1 a fun z => Q z s1) := (rfl)
theorem pNil_s  (s : PSt) (Q : List Sl → PSt → Prop) : pNil s Q = (Q [] s) := (rfl)
theorem pCons_s (p : PE1) (q : PA1) (s : PSt) (Q : List Sl → PSt → Prop) : pCons p q s Q = (p s fun a s1 => q s1 fun as s2 => Q (a :: as) s2) := (rfl)
theorem pCB_s (f : FN) (p : PA1) (s : PSt) (Q : Sl → PSt → Prop) : pCB f p s Q = (p s fun as s1 => f s1 as fun z => Q z s1) := (rfl)
theorem pCall_s (f : FC) (p : PA1) (s : PSt) (Q : Sl → PSt → Prop) : pCall f p s Q = (p s fun as s1 => f s1 as Q) := (rfl)
theorem pTup_s (p : PA1) (s : PSt) (Q : Sl → PSt → Prop) : pTup p s Q = (p s fun as s1 => ∃ ds, datsOf as = some ds ∧ ds.length ≤ 10000 ∧ Q (.d (.tuple ds)) s1) := (rfl)
theorem pLst_s (p : PA1) (s : PSt) (Q : Sl → PSt → Prop) : pLst p s Q = (p s fun as s1 => ∃ ds, datsOf as = some ds ∧ ds.length ≤ 10000 ∧ Q (.nw ds) s1) := (rfl)
theorem pB_s (p : PE1) (s : PSt) (Q : Bool → PSt → Prop) : pB p s Q = (p s fun z s1 => blOf z fun b => Q b s1) := (rfl)
theorem pNot_s (p : PT1) (s : PSt) (Q : Bool → PSt → Prop) : pNot p s Q = (p s fun b s1 => Q (!b) s1) := (rfl)
theorem pAnd_s (p q : PT1) (s : PSt) (Q : Bool → PSt → Prop) : pAnd p q s Q = (p s fun b s1 => if b = true then q s1 Q else Q false s1) := (rfl)
theorem pOr_s (p q : PT1) (s : PSt) (Q : Bool → PSt → Prop) : pOr p q s Q = (p s fun b s1 => if b = true then Q true s1 else q s1 Q) := (rfl)
theorem pYes_s  (s : PSt) (Q : Bool → PSt → Prop) : pYes s Q = (Q true s) := (rfl)
theorem pAndV_s (p q : PE1) (s : PSt) (Q : Sl → PSt → Prop) : pAndV p q s Q = (p s fun z s1 => blOf z fun b => if b = true then q s1 Q else Q (.d (.bool false)) s1) := (rfl)
theorem pOrV_s (p q : PE1) (s : PSt) (Q : Sl → PSt → Prop) : pOrV p q s Q = (p s fun z s1 => blOf z fun b => if b = true then Q (.d (.bool true)) s1 else q s1 Q) := (rfl)
theorem pNotV_s (p : PE1) (s : PSt) (Q : Sl → PSt → Prop) : pNotV p s Q = (p s fun z s1 => blOf z fun b => Q (.d (.bool (!b))) s1) := (rfl)
theorem pIf_s (c : PT1) (p q : PE1) (s : PSt) (Q : Sl → PSt → Prop) : pIf c p q s Q = (c s fun b s1 => if b = true then p s1 Q else q s1 Q) := (rfl)
theorem pChain_s (f g : F2) (p q r : PE1) (s : PSt) (Q : Sl → PSt → Prop) : pChain f g p q r s Q = (p s fun a s1 => q s1 fun b s2 => f s2 a b fun z => blOf z fun c => if c = true then r s2 fun e s3 => g s3 b e fun z => Q z s3 else Q (.d (.bool false)) s2) := (rfl)
theorem pSeqL_s (p : PE1) (s : PSt) (Q : Option Nat → List PyData → PSt → Prop) : pSeqL p s Q = (p s fun z s1 => ∃ ds, seqOf s1 z = some (true, ds) ∧ Q (gdOf z) ds s1) := (rfl)
theorem pSeqT_s (p : PE1) (s : PSt) (Q : Option Nat → List PyData → PSt → Prop) : pSeqT p s Q = (p s fun z s1 => ∃ ds, seqOf s1 z = some (false, ds) ∧ Q none ds s1) := (rfl)
theorem pRng1_s (pa : PA1) (s : PSt) (Q : Option Nat → List PyData → PSt → Prop) : pRng1 pa s Q = (pa s fun zs s1 => ∃ j : Int, zs = [.d (.int j)] ∧ (-(2 ^ 62) ≤ j ∧ j < 2 ^ 62) ∧ Q none (intsFrom 0 j.toNat) s1) := (rfl)
theorem pRng2_s (pa : PA1) (s : PSt) (Q : Option Nat → List PyData → PSt → Prop) : pRng2 pa s Q = (pa s fun zs s1 => ∃ i j : Int, zs = [.d (.int i), .d (.int j)] ∧ (-(2 ^ 62) ≤ i ∧ i < 2 ^ 62 ∧ -(2 ^ 62) ≤ j ∧ j < 2 ^ 62) ∧ Q none (intsFrom i (j - i).toNat) s1) := (rfl)
theorem pEnumL_s (pa : PA1) (s : PSt) (Q : Option Nat → List PyData → PSt → Prop) : pEnumL pa s Q = (pa s fun zs s1 => ∃ z ds, zs = [z] ∧ gdOf z = none ∧ seqOf s1 z = some (true, ds) ∧ Q none (enumD ds) s1) := (rfl)
theorem pEnumT_s (pa : PA1) (s : PSt) (Q : Option Nat → List PyData → PSt → Prop) : pEnumT pa s Q = (pa s fun zs s1 => ∃ z ds, zs = [z] ∧ seqOf s1 z = some (false, ds) ∧ Q none (enumD ds) s1) := (rfl)
theorem pZip_s (pa : PA1) (s : PSt) (Q : Option Nat → List PyData → PSt → Prop) : pZip pa s Q = (pa s fun zs s1 => ∃ y z b ds es, zs = [y, z] ∧ gdOf y = none ∧ gdOf z = none ∧ seqOf s1 y = some (b, ds) ∧ seqOf s1 z = some (b, es) ∧ Q none (zipD ds es) s1) := (rfl)
theorem pgName_s (i : Nat) (z : Sl) (s : PSt) (Q : PSt → Prop) : pgName i z s Q = (Q { s with ρ := s.ρ.set i (plainS z) }) := (rfl)
theorem pgNil_s  (zs : List Sl) (s : PSt) (Q : PSt → Prop) : pgNil zs s Q = (match zs with
  | [] => Q s
  | _ => False) := (rfl)
theorem pgCons_s (g : PG1) (r : PGs1) (zs : List Sl) (s : PSt) (Q : PSt → Prop) : pgCons g r zs s Q = (match zs with
  | z :: zs => g z s fun s' => r zs s' Q
  | [] => False) := (rfl)
theorem pgTup_s (n : Nat) (g : PGs1) (z : Sl) (s : PSt) (Q : PSt → Prop) : pgTup n g z s Q = (∃ ds, seqOf s z = some (false, ds) ∧ ds.length = n ∧ g (ds.map Sl.d) s Q) := (rfl)
theorem pNext_s  (D : PEnds) (s : PSt) : pNext D s = (D.nx s) := (rfl)
theorem pBreak_s  (D : PEnds) (s : PSt) : pBreak D s = (D.bk s) := (rfl)
theorem pCont_s  (D : PEnds) (s : PSt) : pCont D s = (D.ct s) := (rfl)
theorem pDrop_s (p : PE1) (D : PEnds) (s : PSt) : pDrop p D s = (p s fun _ s1 => D.nx s1) := (rfl)
theorem pRet_s (p : PE1) (D : PEnds) (s : PSt) : pRet p D s = (p s D.rt) := (rfl)
theorem pRetN_s  (D : PEnds) (s : PSt) : pRetN D s = (D.rt (.d .none) s) := (rfl)
theorem pSet_s (w : Bool) (p : PE1) (i : Nat) (D : PEnds) (s : PSt) : pSet w p i D s = (p s fun z s1 => pown w s.m z s1 fun z' s2 => D.nx { s2 with ρ := s2.ρ.set i z' }) := (rfl)
theorem pAsg_s (p : PE1) (g : PG1) (D : PEnds) (s : PSt) : pAsg p g D s = (p s fun z s1 => g z s1 D.nx) := (rfl)
theorem pPar_s (w1 w2 : Bool) (i j : Nat) (p q : PE1) (D : PEnds) (s : PSt) : pPar w1 w2 i j p q D s = (p s fun z s1 => pown w1 s.m z s1 fun z1 s2 => q s2 fun y s3 => pown w2 s2.m y s3 fun z2 s4 => D.nx { s4 with ρ := (s4.ρ.set i z1).set j z2 }) := (rfl)
theorem pPar3_s (w1 w2 w3 : Bool) (i j l : Nat) (p q r : PE1) (D : PEnds) (s : PSt) : pPar3 w1 w2 w3 i j l p q r D s = (p s fun z s1 => pown w1 s.m z s1 fun z1 s2 => q s2 fun y s3 => pown w2 s2.m y s3 fun z2 s4 => r s4 fun x s5 => pown w3 s4.m x s5 fun z3 s6 => D.nx { s6 with ρ := ((s6.ρ.set i z1).set j z2).set l z3 }) := (rfl)
theorem fI_s (g : Int → Int → PyData) (u_s : PSt) (a : Sl) (b : Sl) (Q : Sl → Prop) : fI g u_s a b Q = (match a, b with
  | .d (.int i), .d (.int j) => Q (.d (g i j))
  | _, _ => False) := (rfl)
theorem fIC_s (C : Int → Int → Prop) (g : Int → Int → PyData) (u_s : PSt) (a : Sl) (b : Sl) (Q : Sl → Prop) : fIC C g u_s a b Q = (match a, b with
  | .d (.int i), .d (.int j) => C i j ∧ Q (.d (g i j))
  | _, _ => False) := (rfl)
theorem fAdd_s  (s : PSt) (a : Sl) (b : Sl) (Q : Sl → Prop) : fAdd s a b Q = ((fI fun i j => .int (i + j)) s a b Q) := (rfl)
theorem fSub_s  (s : PSt) (a : Sl) (b : Sl) (Q : Sl → Prop) : fSub s a b Q = ((fI fun i j => .int (i - j)) s a b Q) := (rfl)
theorem fMul_s  (s : PSt) (a : Sl) (b : Sl) (Q : Sl → Prop) : fMul s a b Q = ((fIC CMul fun i j => .int (i * j)) s a b Q) := (rfl)
theorem fDiv_s  (s : PSt) (a : Sl) (b : Sl) (Q : Sl → Prop) : fDiv s a b Q = ((fIC CDiv fun i j => .int (i / j)) s a b Q) := (rfl)
theorem fMod_s  (s : PSt) (a : Sl) (b : Sl) (Q : Sl → Prop) : fMod s a b Q = ((fIC (fun _ j => 0 < j) fun i j => .int (i % j)) s a b Q) := (rfl)
theorem fPow_s  (s : PSt) (a : Sl) (b : Sl) (Q : Sl → Prop) : fPow s a b Q = ((fIC CPow fun i j => .int (i ^ j.toNat)) s a b Q) := (rfl)
theorem fLt_s  (s : PSt) (a : Sl) (b : Sl) (Q : Sl → Prop) : fLt s a b Q = ((fI fun i j => .bool (decide (i < j))) s a b Q) := (rfl)
theorem fLe_s  (s : PSt) (a : Sl) (b : Sl) (Q : Sl → Prop) : fLe s a b Q = ((fI fun i j => .bool (decide (i ≤ j))) s a b Q) := (rfl)
theorem fGt_s  (s : PSt) (a : Sl) (b : Sl) (Q : Sl → Prop) : fGt s a b Q = ((fI fun i j => .bool (decide (j < i))) s a b Q) := (rfl)
theorem fGe_s  (s : PSt) (a : Sl) (b : Sl) (Q : Sl → Prop) : fGe s a b Q = ((fI fun i j => .bool (decide (j ≤ i))) s a b Q) := (rfl)
theorem fEq_s  (u_s : PSt) (a : Sl) (b : Sl) (Q : Sl → Prop) : fEq u_s a b Q = (∃ d e, datOf a = some d ∧ datOf b = some e ∧ flatD d = true ∧ flatD e = true ∧ scal (vOf d) (vOf e) = true ∧ Q (.d (.bool (decide (vOf d = vOf e))))) := (rfl)
theorem fNe_s  (u_s : PSt) (a : Sl) (b : Sl) (Q : Sl → Prop) : fNe u_s a b Q = (∃ d e, datOf a = some d ∧ datOf b = some e ∧ flatD d = true ∧ flatD e = true ∧ scal (vOf d) (vOf e) = true ∧ Q (.d (.bool (!decide (vOf d = vOf e))))) := (rfl)
theorem fEqD_s  (s : PSt) (a : Sl) (b : Sl) (Q : Sl → Prop) : fEqD s a b Q = (∃ d e n m, datOf a = some d ∧ datOf b = some e ∧ Fit n d ∧ Fit m e ∧ SeqAt.shaped d = true ∧ SeqAt.shaped e = true ∧ Q (.d (.bool (PyData.eqv d e)))) := (rfl)
theorem fNeD_s  (s : PSt) (a : Sl) (b : Sl) (Q : Sl → Prop) : fNeD s a b Q = (∃ d e n m, datOf a = some d ∧ datOf b = some e ∧ Fit n d ∧ Fit m e ∧ SeqAt.shaped d = true ∧ SeqAt.shaped e = true ∧ Q (.d (.bool (!PyData.eqv d e)))) := (rfl)
theorem fIn_s (neg : Bool) (s : PSt) (a : Sl) (b : Sl) (Q : Sl → Prop) : fIn neg s a b Q = (∃ d c ds, datOf a = some d ∧ flatD d = true ∧ seqOf s b = some (c, ds) ∧ ds.all flatD = true ∧ Q (.d (.bool (if neg then !inF d ds else inF d ds)))) := (rfl)
theorem fIsN_s  (u_s : PSt) (a : Sl) (b : Sl) (Q : Sl → Prop) : fIsN u_s a b Q = (isNon b = true ∧ Q (.d (.bool (isNon a)))) := (rfl)
theorem fNotN_s  (u_s : PSt) (a : Sl) (b : Sl) (Q : Sl → Prop) : fNotN u_s a b Q = (isNon b = true ∧ Q (.d (.bool (!isNon a)))) := (rfl)
theorem fIsB_s (neg : Bool) (u_s : PSt) (a : Sl) (b : Sl) (Q : Sl → Prop) : fIsB neg u_s a b Q = (match a, b with
  | .d (.bool c), .d (.bool e) => Q (.d (.bool (if neg then !decide (c = e) else decide (c = e))))
  | _, _ => False) := (rfl)
theorem fIx_s (l : Bool) (s : PSt) (a : Sl) (b : Sl) (Q : Sl → Prop) : fIx l s a b Q = (∃ ds i e, seqOf s a = some (l, ds) ∧ b = .d (.int i) ∧ atI ds i = some e ∧ Q (.d e)) := (rfl)
theorem fCatT_s  (s : PSt) (a : Sl) (b : Sl) (Q : Sl → Prop) : fCatT s a b Q = (∃ ds es, seqOf s a = some (false, ds) ∧ seqOf s b = some (false, es) ∧ ds.length + es.length ≤ 10000 ∧ Q (.d (.tuple (ds ++ es)))) := (rfl)
theorem pNoP_s  (s : PSt) (Q : Option Int → PSt → Prop) : pNoP s Q = (Q none s) := (rfl)
theorem pPart_s (p : PE1) (s : PSt) (Q : Option Int → PSt → Prop) : pPart p s Q = (p s fun z s1 => match z with
  | .d (.int i) => Q (some i) s1
  | _ => False) := (rfl)
theorem pSl_s (l : Bool) (p : PE1) (lo hi : PO1) (s : PSt) (Q : Sl → PSt → Prop) : pSl l p lo hi s Q = (p s fun z s1 => lo s1 fun a s2 => hi s2 fun b s3 => ∃ ds, seqOf s3 z = some (l, ds) ∧ Q (if l then .nw (cutD ds a b) else .d (.tuple (cutD ds a b))) s3) := (rfl)
theorem fLen_s  (s : PSt) (as : List Sl) (Q : Sl → Prop) : fLen s as Q = (∃ (z : Sl) (b : Bool) (ds : List PyData), as = [z] ∧ seqOf s z = some (b, ds) ∧ Q (.d (.int (ds.length : Nat)))) := (rfl)
theorem fList_s  (s : PSt) (as : List Sl) (Q : Sl → Prop) : fList s as Q = (∃ (z : Sl) (b : Bool) (ds : List PyData), as = [z] ∧ seqOf s z = some (b, ds) ∧ Q (.nw ds)) := (rfl)
theorem fTuple_s  (s : PSt) (as : List Sl) (Q : Sl → Prop) : fTuple s as Q = (∃ (z : Sl) (b : Bool) (ds : List PyData), as = [z] ∧ seqOf s z = some (b, ds) ∧ Q (.d (.tuple ds))) := (rfl)
theorem fSum_s (l : Bool) (s : PSt) (as : List Sl) (Q : Sl → Prop) : fSum l s as Q = (∃ (z : Sl) (ns : List Int), as = [z] ∧ seqOf s z = some (l, ns.map PyData.int) ∧ Q (.d (.int ns.sum))) := (rfl)
theorem fMin_s  (s : PSt) (as : List Sl) (Q : Sl → Prop) : fMin s as Q = (∃ (z : Sl) (ns : List Int) (m : Int), as = [z] ∧ seqOf s z = some (true, ns.map PyData.int) ∧ m ∈ ns ∧ (∀ y ∈ ns, m ≤ y) ∧ Q (.d (.int m))) := (rfl)
theorem fMax_s  (s : PSt) (as : List Sl) (Q : Sl → Prop) : fMax s as Q = (∃ (z : Sl) (ns : List Int) (m : Int), as = [z] ∧ seqOf s z = some (true, ns.map PyData.int) ∧ m ∈ ns ∧ (∀ y ∈ ns, y ≤ m) ∧ Q (.d (.int m))) := (rfl)
theorem fMaxT_s  (s : PSt) (as : List Sl) (Q : Sl → Prop) : fMaxT s as Q = (∃ (z : Sl) (n : Int) (ns : List Int), as = [z] ∧ seqOf s z = some (false, (n :: ns).map PyData.int) ∧ Q (.d (.int (ns.foldl max n)))) := (rfl)
theorem fMinT_s  (s : PSt) (as : List Sl) (Q : Sl → Prop) : fMinT s as Q = (∃ (z : Sl) (n : Int) (ns : List Int), as = [z] ∧ seqOf s z = some (false, (n :: ns).map PyData.int) ∧ Q (.d (.int (ns.foldl min n)))) := (rfl)
theorem fMin2_s  (u_s : PSt) (as : List Sl) (Q : Sl → Prop) : fMin2 u_s as Q = (match as with
  | [.d (.int i), .d (.int j)] => Q (.d (.int (if j < i then j else i)))
  | _ => False) := (rfl)
theorem fMax2_s  (u_s : PSt) (as : List Sl) (Q : Sl → Prop) : fMax2 u_s as Q = (match as with
  | [.d (.int i), .d (.int j)] => Q (.d (.int (if j > i then j else i)))
  | _ => False) := (rfl)
theorem fInt_s  (u_s : PSt) (as : List Sl) (Q : Sl → Prop) : fInt u_s as Q = (match as with
  | [.d (.int i)] => Q (.d (.int i))
  | [.d (.bool b)] => Q (.d (.int (if b then 1 else 0)))
  | _ => False) := (rfl)
theorem fAll_s  (s : PSt) (as : List Sl) (Q : Sl → Prop) : fAll s as Q = (∃ (z : Sl) (bs : List Bool), as = [z] ∧ seqOf s z = some (true, bs.map PyData.bool) ∧ Q (.d (.bool (bs.all id)))) := (rfl)
theorem fAny_s  (s : PSt) (as : List Sl) (Q : Sl → Prop) : fAny s as Q = (∃ (z : Sl) (bs : List Bool), as = [z] ∧ seqOf s z = some (true, bs.map PyData.bool) ∧ Q (.d (.bool (bs.any id)))) := (rfl)
theorem fSorted_s (l : Bool) (s : PSt) (as : List Sl) (Q : Sl → Prop) : fSorted l s as Q = (∃ (z : Sl) (ns : List Int), as = [z] ∧ seqOf s z = some (l, ns.map PyData.int) ∧ ns.length < 64 ∧ ∀ ns' : List Int, ns'.Perm ns → ns'.Pairwise (· ≤ ·) → Q (.nw (ns'.map PyData.int))) := (rfl)
theorem fRepr_s  (s : PSt) (as : List Sl) (Q : Sl → Prop) : fRepr s as Q = (∃ (z : Sl) (d : PyData), as = [z] ∧ datOf z = some d ∧ d.showable = true ∧ d.depth ≤ 60 ∧ d.shown.length ≤ sizeLine ∧ Q (.d (.str d.shown))) := (rfl)
theorem pIsi_s (c : Kd) (p : PE1) (s : PSt) (Q : Sl → PSt → Prop) : pIsi c p s Q = (p s fun z s1 => kindC s1 z fun k => Q (.d (.bool (k.is c))) s1) := (rfl)
theorem pIsi2_s (c e : Kd) (p : PE1) (s : PSt) (Q : Sl → PSt → Prop) : pIsi2 c e p s Q = (p s fun z s1 => kindC s1 z fun k => Q (.d (.bool (k.is c || k.is e))) s1) := (rfl)
theorem pRg1_s (p : PE1) (s : PSt) (Q : Int → Int → PSt → Prop) : pRg1 p s Q = (p s fun z s1 => ∃ n, z = .d (.int n) ∧ Q 0 n s1) := (rfl)
theorem pRg2_s (p q : PE1) (s : PSt) (Q : Int → Int → PSt → Prop) : pRg2 p q s Q = (p s fun z s1 => q s1 fun y s2 => ∃ i j, z = .d (.int i) ∧ y = .d (.int j) ∧ Q i j s2) := (rfl)
theorem pLstRg_s (p : PR1) (s : PSt) (Q : Sl → PSt → Prop) : pLstRg p s Q = (p s fun i j s1 => (-1000000 ≤ i ∧ i ≤ 1000000 ∧ -1000000 ≤ j ∧ j ≤ 1000000) ∧ Q (.nw (intsFrom i (j - i).toNat)) s1) := (rfl)
theorem pTupRg_s (p : PR1) (s : PSt) (Q : Sl → PSt → Prop) : pTupRg p s Q = (p s fun i j s1 => (-1000000 ≤ i ∧ i ≤ 1000000 ∧ -1000000 ≤ j ∧ j ≤ 1000000) ∧ Q (.d (.tuple (intsFrom i (j - i).toNat))) s1) := (rfl)
theorem pAppend_s (i : Nat) (p : PE1) (s : PSt) (Q : Sl → PSt → Prop) : pAppend i p s Q = (isOwn s i ∧ p s fun z s1 => ∃ d, datOf z = some d ∧ ownOf s1 i fun j ds => ds.length < 10000 ∧ Q (.d .none) (upO s1 j (ds ++ [d]))) := (rfl)
theorem pPop_s (i : Nat) (s : PSt) (Q : Sl → PSt → Prop) : pPop i s Q = (ownOf s i fun j ds => ∃ es e, ds = es ++ [e] ∧ Q (.d e) (upO s j es)) := (rfl)
theorem pPopAt_s (i : Nat) (p : PE1) (s : PSt) (Q : Sl → PSt → Prop) : pPopAt i p s Q = (isOwn s i ∧ p s fun z s1 => ownOf s1 i fun j ds => ∃ n e, z = .d (.int (n : Nat)) ∧ ds.length ≤ 100000 ∧ ds[n]? = some e ∧ Q (.d e) (upO s1 j (ds.eraseIdx n))) := (rfl)
theorem fD_s (F : List PyData → (Sl → Prop) → Prop) (s : PSt) (as : List Sl) (Q : Sl → PSt → Prop) : fD F s as Q = (∃ ds, datsOf as = some ds ∧ F ds fun z => Q z s) := (rfl)
theorem fP_s (G : List PyData → Nat → (Sl → Nat → Prop) → Prop) (s : PSt) (as : List Sl) (Q : Sl → PSt → Prop) : fP G s as Q = (∃ r ds, as = .pen :: r ∧ datsOf r = some ds ∧ G ds s.k fun z k' => Q z { s with k := k' }) := (rfl)
theorem fCatL_s  (s : PSt) (a : Sl) (b : Sl) (Q : Sl → Prop) : fCatL s a b Q = (∃ ds es, lstOf s a = some ds ∧ lstOf s b = some es ∧ ds.length + es.length ≤ 10000 ∧ Q (.nw (ds ++ es))) := (rfl)
theorem fRepL_s  (s : PSt) (a : Sl) (b : Sl) (Q : Sl → Prop) : fRepL s a b Q = (∃ ds k, lstOf s a = some ds ∧ b = .d (.int k) ∧ (-1000000 ≤ k ∧ k ≤ 1000000) ∧ ds.length * k.toNat ≤ 10000 ∧ Q (.nw (List.replicate k.toNat ds).flatten)) := (rfl)
theorem fRepT_s  (s : PSt) (a : Sl) (b : Sl) (Q : Sl → Prop) : fRepT s a b Q = (∃ ds k, seqOf s a = some (false, ds) ∧ b = .d (.int k) ∧ ds ≠ [] ∧ 1 ≤ k ∧ k ≤ 1000 ∧ ds.length ≤ 1000 ∧ Q (.d (.tuple (List.replicate k.toNat ds).flatten))) := (rfl)
theorem fLtT_s  (s : PSt) (a : Sl) (b : Sl) (Q : Sl → Prop) : fLtT s a b Q = (∃ ns ms : List Int, seqOf s a = some (false, ns.map PyData.int) ∧ seqOf s b = some (false, ms.map PyData.int) ∧ Q (.d (.bool (HT.lexLt ns ms)))) := (rfl)
theorem fLtU_s  (s : PSt) (a : Sl) (b : Sl) (Q : Sl → Prop) : fLtU s a b Q = (fLt s a b Q ∨ fLtT s a b Q) := (rfl)
theorem fNeg_s  (u_s : PSt) (a : Sl) (Q : Sl → Prop) : fNeg u_s a Q = (match a with
  | .d (.int i) => Q (.d (.int (-i)))
  | _ => False) := (rfl)
theorem pBackT_s (p : PE1) (s : PSt) (Q : Sl → PSt → Prop) : pBackT p s Q = (p s fun z s1 => ∃ ds, seqOf s1 z = some (false, ds) ∧ Q (.d (.tuple ds.reverse)) s1) := (rfl)
theorem pBackL_s (p : PE1) (s : PSt) (Q : Sl → PSt → Prop) : pBackL p s Q = (p s fun z s1 => ∃ ds, seqOf s1 z = some (true, ds) ∧ Q (.nw ds.reverse) s1) := (rfl)
theorem pExtend_s (i : Nat) (l : Bool) (p : PE1) (s : PSt) (Q : Sl → PSt → Prop) : pExtend i l p s Q = (isOwn s i ∧ p s fun z s1 => ∃ es, (if l then lstOf s1 z else (seqOf s1 z).bind fun q => if q.1 then none else some q.2) = some es ∧ ownOf s1 i fun j ds => ds.length + es.length ≤ 10000 ∧ Q (.d .none) (upO s1 j (ds ++ es))) := (rfl)
theorem pSetIx_s (i : Nat) (p q : PE1) (D : PEnds) (s : PSt) : pSetIx i p q D s = (p s fun z s1 => isOwn s1 i ∧ q s1 fun y s2 => ∃ d, datOf z = some d ∧ ownOf s2 i fun j ds => ∃ n : Nat, y = .d (.int n) ∧ n < ds.length ∧ D.nx (upO s2 j (ds.set n d))) := (rfl)
theorem fAddS_s  (u_s : PSt) (a : Sl) (b : Sl) (Q : Sl → Prop) : fAddS u_s a b Q = (match a, b with
  | .d (.str x), .d (.str y) => x.length + y.length ≤ sizeLine ∧ Q (.d (.str (x ++ y)))
  | _, _ => False) := (rfl)
theorem fStrI_s  (u_s : PSt) (as : List Sl) (Q : Sl → Prop) : fStrI u_s as Q = (∃ i : Int, as = [.d (.int i)] ∧ i.natAbs.log2 < 1920 ∧ Q (.d (.str (toString i)))) := (rfl)
theorem pJoin_s (p q : PE1) (s : PSt) (Q : Sl → PSt → Prop) : pJoin p q s Q = (p s fun z s1 => ∃ a : Str, z = .d (.str a) ∧ q s1 fun y s2 => ∃ (b : Bool) (ys : List Str), seqOf s2 y = some (b, ys.map PyData.str) ∧ (ys.map (·.length)).sum + ys.length * a.length ≤ 16777216 ∧ Q (.d (.str (Txt.join a ys))) s2) := (rfl)
theorem pSplit_s (p q : PE1) (s : PSt) (Q : Sl → PSt → Prop) : pSplit p q s Q = (p s fun z s1 => ∃ a : Str, z = .d (.str a) ∧ q s1 fun y s2 => ∃ b : Str, y = .d (.str b) ∧ (b.length == 0) = false ∧ a.length + 2 ≤ sizeLine ∧ Q (.nw ((Txt.split a b).map PyData.str)) s2) := (rfl)
theorem pEndsw_s (p q : PE1) (s : PSt) (Q : Sl → PSt → Prop) : pEndsw p q s Q = (p s fun z s1 => ∃ a : Str, z = .d (.str a) ∧ q s1 fun y s2 => ∃ b : Str, y = .d (.str b) ∧ Q (.d (.bool (Txt.endswith a b))) s2) := (rfl)
theorem fFlat_s (pre : List PyData → PyData → Prop) (s : PSt) (as : List Sl) (Q : Sl → PSt → Prop) : fFlat pre s as Q = (∃ ds r, datsOf as = some ds ∧ pre ds r ∧ flatD r = true ∧ Q (.d r) s) := (rfl)
theorem fData_s (pre : List PyData → PyData → Prop) (s : PSt) (as : List Sl) (Q : Sl → PSt → Prop) : fData pre s as Q = (∃ ds, datsOf as = some ds ∧ (∃ r, pre ds r) ∧ ∀ r, pre ds r → noLD r = true ∧ Q (.d r) s) := (rfl)
theorem fTake_s  (s : PSt) (as : List Sl) (Q : Sl → PSt → Prop) : fTake s as Q = (∃ m : Int, as = [.pen, .d (.int m)] ∧ s.k ≤ 1000000 ∧ 1 ≤ m ∧ m ≤ 1000000 ∧ ∀ r : Int, 0 ≤ r → r < m → Q (.d (.int r)) { s with k := s.k + 1 }) := (rfl)
theorem fOneOf_s  (s : PSt) (as : List Sl) (Q : Sl → PSt → Prop) : fOneOf s as Q = (∃ z ds, as = [.pen, z] ∧ gdOf z = none ∧ seqOf s z = some (true, ds) ∧ s.k ≤ 1000000 ∧ 1 ≤ ds.length ∧ ds.length ≤ 100000 ∧ ∀ (j : Nat) (d : PyData), ds[j]? = some d → Q (.d d) { s with k := s.k + 1 }) := (rfl)
theorem fPen_s (G : List PyData → Nat → (PyData → Nat → Prop) → Prop) (s : PSt) (as : List Sl) (Q : Sl → PSt → Prop) : fPen G s as Q = (∃ zs ds, as = .pen :: zs ∧ datsOf zs = some ds ∧ G ds s.k fun d k' => noLD d = true ∧ Q (.d d) { s with k := k' }) := (rfl)
theorem fStrU_s  (u_s : PSt) (as : List Sl) (Q : Sl → Prop) : fStrU u_s as Q = ((∃ i : Int, as = [.d (.int i)] ∧ i.natAbs.log2 < 1920 ∧ Q (.d (.str (toString i)))) ∨ ∃ a : Str, as = [.d (.str a)] ∧ Q (.d (.str a))) := (rfl)
theorem pSlS_s (p : PE1) (lo hi : PO1) (s : PSt) (Q : Sl → PSt → Prop) : pSlS p lo hi s Q = (p s fun z s1 => ∃ x : Str, z = .d (.str x) ∧ lo s1 fun a s2 => hi s2 fun b s3 => x.length ≤ sizeLine ∧ Q (.d (.str (cutS x a b))) s3) := (rfl)
theorem pZipM_s (pa : PA1) (s : PSt) (Q : Option Nat → List PyData → PSt → Prop) : pZipM pa s Q = (pa s fun zs s1 => ∃ y z ds es, zs = [y, z] ∧ gdOf y = none ∧ gdOf z = none ∧ seqOf s1 y = some (true, ds) ∧ seqOf s1 z = some (false, es) ∧ Q none (zipD ds es) s1) := (rfl)
theorem pAppNew_s (p q : PE1) (D : PEnds) (s : PSt) : pAppNew p q D s = (p s fun z s1 => (∃ ds, z = .nw ds) ∧ pown true s.m z s1 fun z' s2 => q s2 fun y s3 => ∃ d j es, z' = .ob j ∧ datOf y = some d ∧ s3.θ[j]? = some (.lst es) ∧ es.length < 10000 ∧ D.nx (upO s3 j (es ++ [d]))) := (rfl)
theorem fFlatO_s (pre : List PyData → PyData → Prop) (s : PSt) (as : List Sl) (Q : Sl → PSt → Prop) : fFlatO pre s as Q = (∃ ds r, datsO s as = some ds ∧ pre ds r ∧ flatD r = true ∧ Q (.d r) s) := (rfl)
theorem pTupP_s (pa : PA1) (s : PSt) (Q : Sl → PSt → Prop) : pTupP pa s Q = (pa s fun as s1 => ∃ ns : List Int, datsOf as = some (ns.map PyData.int) ∧ ns.length ≤ 10000 ∧ Q (.pl ns) s1) := (rfl)
theorem pDeal_s (p q : PE1) (s : PSt) (Q : Sl → PSt → Prop) : pDeal p q s Q = (p s fun z s1 => q s1 fun y s2 => ∃ rs ss, z = .pl rs ∧ datOf y = some (tI ss) ∧ Q (.dl rs ss) s2) := (rfl)
theorem fCatP_s  (u_s : PSt) (a : Sl) (b : Sl) (Q : Sl → Prop) : fCatP u_s a b Q = (∃ xs ys, a = .pl xs ∧ b = .pl ys ∧ xs.length + ys.length ≤ 10000 ∧ Q (.pl (xs ++ ys))) := (rfl)
theorem pSlP_s (p : PE1) (lo hi : PO1) (s : PSt) (Q : Sl → PSt → Prop) : pSlP p lo hi s Q = (p s fun z s1 => lo s1 fun a s2 => hi s2 fun b s3 => ∃ ns, z = .pl ns ∧ Q (.pl (cutI ns a b)) s3) := (rfl)
theorem pSortSet_s (p : PE1) (s : PSt) (Q : Sl → PSt → Prop) : pSortSet p s Q = (p s fun z s1 => ∃ D : List (Int × Int), seqOf s1 z = some (true, D.map fun t => tI (prI t)) ∧ D.length < 64 ∧ (∀ s ∈ D, (0 ≤ s.1 ∧ s.1 < 64) ∧ 0 ≤ s.2 ∧ s.2 < 64) ∧
  ∀ T : List (Int × Int), T.Pairwise ltP → (∀ t, t ∈ T ↔ t ∈ D) → Q (.nw (T.map fun t => tI (prI t))) s1) := (rfl)
theorem fInDct_s (neg : Bool) (s : PSt) (a : Sl) (b : Sl) (Q : Sl → Prop) : fInDct neg s a b Q = (∃ k kvs, datOf a = some (tI k) ∧ dOf s b = some kvs ∧ Q (.d (.bool (if neg then !(valK kvs k).isSome else (valK kvs k).isSome)))) := (rfl)
theorem pDctGet_s (p q : PE1) (s : PSt) (Q : Sl → PSt → Prop) : pDctGet p q s Q = (p s fun a s1 => q s1 fun b s2 => ∃ kvs k d, dOf s2 a = some kvs ∧ datOf b = some (tI k) ∧ valK kvs k = some d ∧ Q (.d d) s2) := (rfl)
theorem pDct1_s (p q : PE1) (s : PSt) (Q : Sl → PSt → Prop) : pDct1 p q s Q = (p s fun a s1 => q s1 fun b s2 => ∃ k d, datOf a = some (tI k) ∧ datOf b = some d ∧ Q (.nd [(k, d)]) s2) := (rfl)
theorem pSetKey_s (i : Nat) (p q : PE1) (D : PEnds) (s : PSt) : pSetKey i p q D s = (p s fun z s1 => ownD s1 i (fun _ _ => True) ∧ q s1 fun y s2 => ∃ d k, datOf z = some d ∧ datOf y = some (tI k) ∧ ownD s2 i fun j kvs => kvs.length < 10000 ∧ D.nx (upD s2 j (putK kvs k d))) := (rfl)
theorem fLenDct_s  (s : PSt) (as : List Sl) (Q : Sl → Prop) : fLenDct s as Q = (∃ z kvs, as = [z] ∧ dOf s z = some kvs ∧ Q (.d (.int (kvs.length : Nat)))) := (rfl)
theorem fListDct_s  (s : PSt) (as : List Sl) (Q : Sl → Prop) : fListDct s as Q = (∃ z kvs, as = [z] ∧ dOf s z = some kvs ∧ Q (.nw (kvs.map fun p => tI p.1))) := (rfl)
theorem fS_s (F : List Sl → (Sl → Prop) → Prop) (s : PSt) (as : List Sl) (Q : Sl → PSt → Prop) : fS F s as Q = ((∀ z ∈ as, argS z) ∧ F (as.map plainS) fun z => Q z s) := (rfl)
theorem fSortDct_s  (s : PSt) (as : List Sl) (Q : Sl → Prop) : fSortDct s as Q = (∃ z kvs, as = [z] ∧ dOf s z = some kvs ∧ (∀ p ∈ kvs, p.1 ≠ []) ∧ kvs.length ≤ 10000 ∧ ∀ L : List (List Int), L.Perm (kvs.map (·.1)) → LexUp L → Q (.nw (L.map tI))) := (rfl)
theorem pAug_s (i : Nat) (p : PE1) (D : PEnds) (s : PSt) : pAug i p D s = (match s.ρ[i]? with
  | some (.d (.int a)) => p s fun z s1 => ∃ b, z = .d (.int b) ∧ D.nx { s1 with ρ := s1.ρ.set i (.d (.int (a + b))) }
  | _ => False) := (rfl)
theorem fNewL_s (pre : List PyData → List PyData → Prop) (s : PSt) (as : List Sl) (Q : Sl → PSt → Prop) : fNewL pre s as Q = (∃ ds es, datsOf as = some ds ∧ pre ds es ∧ noLDs es = true ∧ Q (.nw es) s) := (rfl)
theorem fTo_s (G : List PyData → (PyData → Prop) → Prop) (s : PSt) (as : List Sl) (Q : Sl → PSt → Prop) : fTo G s as Q = (∃ ds, datsOf as = some ds ∧ G ds fun r => noLD r = true ∧ Q (.d r) s) := (rfl)
theorem fOneOfX_s  (s : PSt) (as : List Sl) (Q : Sl → PSt → Prop) : fOneOfX s as Q = (∃ z ds d, as = [.pen, z] ∧ datOf z = some d ∧ (d = .list ds ∨ d = .tuple ds) ∧ s.k ≤ 1000000 ∧ 1 ≤ ds.length ∧ ds.length ≤ 100000 ∧ ∀ (j : Nat) (e : PyData), ds[j]? = some e → Q (.d e) { s with k := s.k + 1 }) := (rfl)
theorem pSortSetL_s (p : PE1) (s : PSt) (Q : Sl → PSt → Prop) : pSortSetL p s Q = (p s fun z s1 => ∃ D : List (List Int), seqOf s1 z = some (true, D.map tI) ∧ D.length < 64 ∧ (∀ r ∈ D, r ≠ [] ∧ r.length ≤ 100000) ∧ ∀ L : List (List Int), L.Nodup → LexUp L → (∀ r, r ∈ L ↔ r ∈ D) → Q (.nw (L.map tI)) s1) := (rfl)
theorem pDiGet_s (p q : PE1) (s : PSt) (Q : Sl → PSt → Prop) : pDiGet p q s Q = (p s fun a s1 => q s1 fun b s2 => ∃ kvs k v, a = .di kvs ∧ b = .d (.int k) ∧ valI kvs k = some v ∧ Q (.d (.int v)) s2) := (rfl)
theorem pDiIn_s (q p : PE1) (s : PSt) (Q : Sl → PSt → Prop) : pDiIn q p s Q = (q s fun b s1 => p s1 fun a s2 => ∃ kvs k, a = .di kvs ∧ b = .d (.int k) ∧ Q (.d (.bool (valI kvs k).isSome)) s2) := (rfl)
theorem pDiGet2_s (p q r : PE1) (s : PSt) (Q : Sl → PSt → Prop) : pDiGet2 p q r s Q = (p s fun a s1 => ∃ kvs, a = .di kvs ∧ q s1 fun b s2 => r s2 fun c s3 => ∃ k x : Int, b = .d (.int k) ∧ c = .d (.int x) ∧ Q (.d (.int ((valI kvs k).getD x))) s3) := (rfl)
theorem fNotInO_s  (s : PSt) (a : Sl) (b : Sl) (Q : Sl → Prop) : fNotInO s a b Q = (∃ (r : List Int) (L : List (List Int)), datOf a = some (tI r) ∧ seqOf s b = some (true, L.map tI) ∧ r.length ≤ 1000 ∧ L.length ≤ 1000 ∧ (∀ x ∈ L, x.length ≤ 1000) ∧ Q (.d (.bool (!decide (r ∈ L))))) := (rfl)
theorem fOdd_s  (s : PSt) (as : List Sl) (Q : Sl → PSt → Prop) : fOdd s as Q = (as = [.pen] ∧ s.k ≤ 900000 ∧ ∀ d, Sm 2 3 d → Q (.d d) { s with k := s.k + 1 }) := (rfl)
theorem fRepT0_s  (s : PSt) (a : Sl) (b : Sl) (Q : Sl → Prop) : fRepT0 s a b Q = (∃ ds k, seqOf s a = some (false, ds) ∧ b = .d (.int k) ∧ ds ≠ [] ∧ 0 ≤ k ∧ k ≤ 1000 ∧ ds.length ≤ 1000 ∧ Q (.d (.tuple (List.replicate k.toNat ds).flatten))) := (rfl)
theorem pLenSetT_s (pa : PA1) (s : PSt) (Q : Sl → PSt → Prop) : pLenSetT pa s Q = (pa s fun zs s1 => ∃ (z : Sl) (ns : List Int), zs = [z] ∧ seqOf s1 z = some (false, ns.map PyData.int) ∧ ns.length ≤ 4000 ∧ ∀ c : Nat, (c = ns.length ↔ ns.Nodup) → Q (.d (.int c)) s1) := (rfl)
theorem pLenSetL_s (pa : PA1) (s : PSt) (Q : Sl → PSt → Prop) : pLenSetL pa s Q = (pa s fun zs s1 => ∃ (z : Sl) (ns : List Int), zs = [z] ∧ seqOf s1 z = some (true, ns.map PyData.int) ∧ ns.length ≤ 4000 ∧ ∀ c : Nat, (c = ns.length ↔ ns.Nodup) → Q (.d (.int c)) s1) := (rfl)
theorem pStepT_s (p : PE1) (q : PO1) (s : PSt) (Q : Sl → PSt → Prop) : pStepT p q s Q = (p s fun z s1 => q s1 fun o s2 => ∃ ds k, seqOf s2 z = some (false, ds) ∧ o = some k ∧ ((k = 1 ∧ Q z s2) ∨ (k = -1 ∧ Q (.d (.tuple ds.reverse)) s2))) := (rfl)
theorem fSumLL_s  (s : PSt) (as : List Sl) (Q : Sl → Prop) : fSumLL s as Q = (∃ (z y : Sl) (L : List (List PyData)), as = [z, y] ∧ seqOf s z = some (true, L.map PyData.list) ∧ y = .nw [] ∧ 1 ≤ L.length ∧ L.flatten.length ≤ 10000 ∧ Q (.nw L.flatten)) := (rfl)
section
variable {x : PyData}
theorem pVar_s (i : Nat) (a : Sl) (ρ : List Sl) (θ : List Ob) (k m : Nat) (Q : Sl → PSt → Prop) : pVar i ⟨a :: ρ, θ, k, m⟩ Q = (match (a :: ρ)[i]? with
  | some (.d e) => Q (.d e) ⟨a :: ρ, θ, k, m⟩
  | some (.l e) => Q (.l e) ⟨a :: ρ, θ, k, m⟩
  | some (.ob j) => Q (.ob j) ⟨a :: ρ, θ, k, m⟩
  | some .pen => Q .pen ⟨a :: ρ, θ, k, m⟩
  | some (.pl ns) => Q (.pl ns) ⟨a :: ρ, θ, k, m⟩
  | some (.kt ns) => Q (.kt ns) ⟨a :: ρ, θ, k, m⟩
  | some (.dl rs ss) => Q (.dl rs ss) ⟨a :: ρ, θ, k, m⟩
  | some (.dd kvs) => Q (.dd kvs) ⟨a :: ρ, θ, k, m⟩
  | some (.di kvs) => Q (.di kvs) ⟨a :: ρ, θ, k, m⟩
  | _ => False) := (rfl)
def pLcD (gd : Option Nat) (ds : List PyData) (pg : PG1) (pt : PT1) (pe : PE1) (vs : List Nat) (s : PSt) (Q : Sl → PSt → Prop) : Prop := pLc (fun s R => R gd ds s) pg pt pe vs s Q
theorem pLc_s (pi : PI1) (pg : PG1) (pt : PT1) (pe : PE1) (vs : List Nat) (s : PSt) (Q : Sl → PSt → Prop) : pLc pi pg pt pe vs s Q = pi s fun gd ds s1 => pLcD gd ds pg pt pe vs s1 Q := (rfl)
def pForD (gd : Option Nat) (ds : List PyData) (g : PG1) (b : PS1) (D : PEnds) (s : PSt) : Prop := pFor (fun s R => R gd ds s) g b D s
theorem pFor_s (pi : PI1) (g : PG1) (b : PS1) (D : PEnds) (s : PSt) : pFor pi g b D s = pi s fun gd ds s1 => pForD gd ds g b D s1 := (rfl)
def pLc2D (gd : Option Nat) (ds : List PyData) (pg : PG1) (pt : PT1) (pi1 : PI1) (pg1 : PG1) (pt1 : PT1) (pe : PE1) (vs vs1 : List Nat) (s : PSt) (Q : Sl → PSt → Prop) : Prop := pLc2 (fun s R => R gd ds s) pg pt pi1 pg1 pt1 pe vs vs1 s Q
theorem pLc2_s (pi : PI1) (pg : PG1) (pt : PT1) (pi1 : PI1) (pg1 : PG1) (pt1 : PT1) (pe : PE1) (vs vs1 : List Nat) (s : PSt) (Q : Sl → PSt → Prop) : pLc2 pi pg pt pi1 pg1 pt1 pe vs vs1 s Q = pi s fun gd ds s1 => pLc2D gd ds pg pt pi1 pg1 pt1 pe vs vs1 s1 Q := (rfl)
def pDcD (gd : Option Nat) (ds : List PyData) (pg : PG1) (pt : PT1) (pk pv : PE1) (vs : List Nat) (s : PSt) (Q : Sl → PSt → Prop) : Prop := pDc (fun s R => R gd ds s) pg pt pk pv vs s Q
theorem pDc_s (pi : PI1) (pg : PG1) (pt : PT1) (pk pv : PE1) (vs : List Nat) (s : PSt) (Q : Sl → PSt → Prop) : pDc pi pg pt pk pv vs s Q = pi s fun gd ds s1 => pDcD gd ds pg pt pk pv vs s1 Q := (rfl)
theorem mapPrI (t : Int × Int) : (prI t).map PyData.int = [.int t.1, .int t.2] := (rfl)
theorem datsOf_nil : datsOf [] = some [] := (rfl)
theorem datsOf_cons (z : Sl) (zs : List Sl) : datsOf (z :: zs) = match datOf z, datsOf zs with
    | some d, some ds => some (d :: ds)
    | _, _ => none := (rfl)
theorem datOf_d (e : PyData) : datOf (.d e) = some e := (rfl)
theorem datOf_nw (ds : List PyData) : datOf (.nw ds) = some (.list ds) := (rfl)
theorem datOf_l (ds : List PyData) : datOf (.l ds) = some (.list ds) := (rfl)
theorem datOf_pl (ns : List Int) : datOf (.pl ns) = some (tI ns) := (rfl)
theorem datOf_dl (rs ss : List Int) : datOf (.dl rs ss) = some (.tuple [tI rs, tI ss]) := (rfl)
theorem seqOf_dl_ (s : PSt) (ds : List PyData) : seqOf s (.d (.list ds)) = some (true, ds) := (rfl)
theorem seqOf_dt (s : PSt) (ds : List PyData) : seqOf s (.d (.tuple ds)) = some (false, ds) := (rfl)
theorem seqOf_tI (s : PSt) (ns : List Int) : seqOf s (.d (tI ns)) = some (false, ns.map PyData.int) := (rfl)
theorem seqOf_webD (s : PSt) (n : Int) (T : List (Int × Int)) : seqOf s (.d (webD n T)) = some (false, [.int n, .tuple (T.map fun t => tI (prI t))]) := (rfl)
theorem seqOf_bD (s : PSt) (bs : List (Int × Int)) : seqOf s (.d (bD bs)) = some (false, (bs.map prI).map tI) := (rfl)
theorem seqOf_nw (s : PSt) (ds : List PyData) : seqOf s (.nw ds) = some (true, ds) := (rfl)
theorem seqOf_l (s : PSt) (ds : List PyData) : seqOf s (.l ds) = some (true, ds) := (rfl)
theorem seqOf_pl (s : PSt) (ns : List Int) : seqOf s (.pl ns) = some (false, ns.map PyData.int) := (rfl)
theorem seqOf_dl2 (s : PSt) (rs ss : List Int) : seqOf s (.dl rs ss) = some (false, [tI rs, tI ss]) := (rfl)
theorem seqOf_ob_ (s : PSt) (i : Nat) : seqOf s (.ob i) = (lstAt s.θ i).map fun ds => (true, ds) := (rfl)
theorem lstAt_0 (ds : List PyData) (θ : List Ob) : lstAt (.lst ds :: θ) 0 = some ds := (rfl)
theorem lstAt_1 (ds : List PyData) (o : Ob) (θ : List Ob) : lstAt (o :: .lst ds :: θ) 1 = some ds := (rfl)
theorem lstAt_2 (ds : List PyData) (o o2 : Ob) (θ : List Ob) : lstAt (o :: o2 :: .lst ds :: θ) 2 = some ds := (rfl)
theorem lstOf_nw (s : PSt) (ds : List PyData) : lstOf s (.nw ds) = some ds := (rfl)
theorem lstOf_l (s : PSt) (ds : List PyData) : lstOf s (.l ds) = some ds := (rfl)
theorem gdOf_d (e : PyData) : gdOf (.d e) = none := (rfl)
theorem gdOf_nw (ds : List PyData) : gdOf (.nw ds) = none := (rfl)
theorem gdOf_l (ds : List PyData) : gdOf (.l ds) = none := (rfl)
theorem gdOf_pl (ns : List Int) : gdOf (.pl ns) = none := (rfl)
theorem gdOf_ob (j : Nat) : gdOf (.ob j) = some j := (rfl)
theorem kindC_d (s : PSt) (e : PyData) (Q : Kd → Prop) : kindC s (.d e) Q = Q (kd e) := (rfl)
theorem kindC_pl (s : PSt) (ns : List Int) (Q : Kd → Prop) : kindC s (.pl ns) Q = Q .tup := (rfl)
theorem kindC_nw (s : PSt) (ds : List PyData) (Q : Kd → Prop) : kindC s (.nw ds) Q = Q .lst := (rfl)
theorem kindC_l (s : PSt) (ds : List PyData) (Q : Kd → Prop) : kindC s (.l ds) Q = Q .lst := (rfl)
theorem kd_tI (ns : List Int) : kd (tI ns) = .tup := (rfl)
theorem kd_webD (n : Int) (T : List (Int × Int)) : kd (webD n T) = .tup := (rfl)
theorem kd_t (ds : List PyData) : kd (.tuple ds) = .tup := (rfl)
theorem kd_l (ds : List PyData) : kd (.list ds) = .lst := (rfl)
theorem kd_i (i : Int) : kd (.int i) = .int := (rfl)
theorem kd_b (b : Bool) : kd (.bool b) = .bl := (rfl)
theorem kd_n : kd .none = .non := (rfl)
theorem kd_s (x : Str) : kd (.str x) = .str := (rfl)
theorem kd_dc (kvs : List (PyData × PyData)) : kd (.dict kvs) = .dct := (rfl)
theorem blOf_b (b : Bool) (Q : Bool → Prop) : blOf (.d (.bool b)) Q = Q b := (rfl)
theorem atI_0 (a : PyData) (l : List PyData) : (atI (a :: l) 0 = some x) = (a = x) := propext ⟨fun h => by rw [show atI (a :: l) 0 = some a from atI_nat (j := 0) rfl] at h; exact Option.some.inj h, fun h => by rw [← h]; exact atI_nat (j := 0) rfl⟩
theorem atI_1 (a b : PyData) (l : List PyData) : (atI (a :: b :: l) 1 = some x) = (b = x) := propext ⟨fun h => by rw [show atI (a :: b :: l) 1 = some b from atI_nat (j := 1) rfl] at h; exact Option.some.inj h, fun h => by rw [← h]; exact atI_nat (j := 1) rfl⟩
theorem flatD_i (i : Int) : flatD (.int i) = true := (rfl)
theorem flatD_b (b : Bool) : flatD (.bool b) = true := (rfl)
theorem flatD_n : flatD .none = true := (rfl)
theorem flatD_s (x : Str) : flatD (.str x) = true := (rfl)
theorem scal_ii (i j : Int) : scal (vOf (.int i)) (vOf (.int j)) = true := (rfl)
theorem scal_bb (i j : Bool) : scal (vOf (.bool i)) (vOf (.bool j)) = true := (rfl)
theorem scal_ss (i j : Str) : scal (vOf (.str i)) (vOf (.str j)) = true := (rfl)
theorem decB {a b : Bool} : decide (vOf (PyData.bool a) = vOf (PyData.bool b)) = decide (a = b) := decide_eq_decide.mpr ⟨fun h => V.bl.inj h, fun h => by rw [h]⟩
theorem decS {a b : Str} : decide (vOf (PyData.str a) = vOf (PyData.str b)) = decide (a = b) := decide_eq_decide.mpr ⟨fun h => V.str.inj h, fun h => by rw [h]⟩
theorem isNon_n : isNon (.d .none) = true := (rfl)
theorem isNon_t (ds : List PyData) : isNon (.d (.tuple ds)) = false := (rfl)
theorem isNon_tI (ns : List Int) : isNon (.d (tI ns)) = false := (rfl)
theorem isNon_i (i : Int) : isNon (.d (.int i)) = false := (rfl)
theorem isNon_webD (n : Int) (T : List (Int × Int)) : isNon (.d (webD n T)) = false := (rfl)
theorem noLD_i (i : Int) : noLD (.int i) = true := (rfl)
theorem noLD_b (b : Bool) : noLD (.bool b) = true := (rfl)
theorem noLD_n : noLD .none = true := (rfl)
theorem noLD_s (x : Str) : noLD (.str x) = true := (rfl)
theorem map_sld_nil : ([] : List PyData).map Sl.d = [] := (rfl)
theorem map_sld_cons (d : PyData) (ds : List PyData) : (d :: ds).map Sl.d = Sl.d d :: ds.map Sl.d := (rfl)
theorem isOwn_s (s : PSt) (i : Nat) : isOwn s i = (match s.ρ[i]? with
  | some (.ob j) => (match s.θ[j]? with
    | some (.lst _) => True
    | _ => False)
  | _ => False) := (rfl)
theorem ownOf_s (s : PSt) (i : Nat) (Q : Nat → List PyData → Prop) : ownOf s i Q = (match s.ρ[i]? with
  | some (.ob j) => ∃ ds, s.θ[j]? = some (.lst ds) ∧ Q j ds
  | _ => False) := (rfl)
theorem ownD_s (s : PSt) (i : Nat) (Q : Nat → KVs → Prop) : ownD s i Q = (match s.ρ[i]? with
  | some (.ob j) => (match s.θ[j]? with
    | some (.dct kvs) => Q j kvs
    | _ => False)
  | _ => False) := (rfl)
theorem upO_s (s : PSt) (j : Nat) (es : List PyData) : upO s j es = { s with θ := s.θ.set j (.lst es), m := s.m + 1 } := (rfl)
theorem upD_s (s : PSt) (j : Nat) (kvs : KVs) : upD s j kvs = { s with θ := s.θ.set j (.dct kvs), m := s.m + 1 } := (rfl)
theorem dOf_nd (s : PSt) (kvs : KVs) : dOf s (.nd kvs) = some kvs := (rfl)
theorem dOf_dd (s : PSt) (kvs : KVs) : dOf s (.dd kvs) = some kvs := (rfl)
theorem dOf_ob (s : PSt) (i : Nat) : dOf s (.ob i) = (match s.θ[i]? with
    | some (.dct kvs) => some kvs
    | _ => none) := (rfl)
theorem plainS_d (e : PyData) : plainS (.d e) = .d e := (rfl)
theorem plainS_nwl (ds : List PyData) : plainS (.nw ds) = .l ds := (rfl)
theorem plainS_l (ds : List PyData) : plainS (.l ds) = .l ds := (rfl)
theorem plainS_nd (kvs : KVs) : plainS (.nd kvs) = .dd kvs := (rfl)
theorem plainS_dd (kvs : KVs) : plainS (.dd kvs) = .dd kvs := (rfl)
theorem plainS_di (kvs : List (Int × Int)) : plainS (.di kvs) = .di kvs := (rfl)
theorem plainS_pl (ns : List Int) : plainS (.pl ns) = .pl ns := (rfl)
theorem plainS_dl (rs ss : List Int) : plainS (.dl rs ss) = .dl rs ss := (rfl)
theorem plainS_pen : plainS .pen = .pen := (rfl)
theorem plainS_ob (j : Nat) : plainS (.ob j) = .ob j := (rfl)
theorem pown_f (m0 : Nat) (z : Sl) (s : PSt) (Q : Sl → PSt → Prop) : pown false m0 z s Q = Q (plainS z) s := by cases z <;> rfl
theorem pown_nw (m0 : Nat) (ds : List PyData) (s : PSt) (Q : Sl → PSt → Prop) : pown true m0 (.nw ds) s Q = (s.m = m0 ∧ Q (.ob s.θ.length) { s with θ := s.θ ++ [.lst ds] }) := (rfl)
theorem pown_nd (m0 : Nat) (kvs : KVs) (s : PSt) (Q : Sl → PSt → Prop) : pown true m0 (.nd kvs) s Q = (s.m = m0 ∧ Q (.ob s.θ.length) { s with θ := s.θ ++ [.dct kvs] }) := (rfl)
theorem wipeP_nil (ρ : List Sl) : wipeP ρ [] = ρ := (rfl)
theorem wipeP_cons (ρ : List Sl) (i : Nat) (vs : List Nat) : wipeP ρ (i :: vs) = (wipeP ρ vs).set i .no := (rfl)
theorem kdis_non_non : Kd.is .non .non = true := (rfl)
theorem kdis_non_bl : Kd.is .non .bl = false := (rfl)
theorem kdis_non_int : Kd.is .non .int = false := (rfl)
theorem kdis_non_str : Kd.is .non .str = false := (rfl)
theorem kdis_non_lst : Kd.is .non .lst = false := (rfl)
theorem kdis_non_tup : Kd.is .non .tup = false := (rfl)
theorem kdis_non_dct : Kd.is .non .dct = false := (rfl)
theorem kdis_bl_non : Kd.is .bl .non = false := (rfl)
theorem kdis_bl_bl : Kd.is .bl .bl = true := (rfl)
theorem kdis_bl_int : Kd.is .bl .int = true := (rfl)
theorem kdis_bl_str : Kd.is .bl .str = false := (rfl)
theorem kdis_bl_lst : Kd.is .bl .lst = false := (rfl)
theorem kdis_bl_tup : Kd.is .bl .tup = false := (rfl)
theorem kdis_bl_dct : Kd.is .bl .dct = false := (rfl)
theorem kdis_int_non : Kd.is .int .non = false := (rfl)
theorem kdis_int_bl : Kd.is .int .bl = false := (rfl)
theorem kdis_int_int : Kd.is .int .int = true := (rfl)
theorem kdis_int_str : Kd.is .int .str = false := (rfl)
theorem kdis_int_lst : Kd.is .int .lst = false := (rfl)
theorem kdis_int_tup : Kd.is .int .tup = false := (rfl)
theorem kdis_int_dct : Kd.is .int .dct = false := (rfl)
theorem kdis_str_non : Kd.is .str .non = false := (rfl)
theorem kdis_str_bl : Kd.is .str .bl = false := (rfl)
theorem kdis_str_int : Kd.is .str .int = false := (rfl)
theorem kdis_str_str : Kd.is .str .str = true := (rfl)
theorem kdis_str_lst : Kd.is .str .lst = false := (rfl)
theorem kdis_str_tup : Kd.is .str .tup = false := (rfl)
theorem kdis_str_dct : Kd.is .str .dct = false := (rfl)
theorem kdis_lst_non : Kd.is .lst .non = false := (rfl)
theorem kdis_lst_bl : Kd.is .lst .bl = false := (rfl)
theorem kdis_lst_int : Kd.is .lst .int = false := (rfl)
theorem kdis_lst_str : Kd.is .lst .str = false := (rfl)
theorem kdis_lst_lst : Kd.is .lst .lst = true := (rfl)
theorem kdis_lst_tup : Kd.is .lst .tup = false := (rfl)
theorem kdis_lst_dct : Kd.is .lst .dct = false := (rfl)
theorem kdis_tup_non : Kd.is .tup .non = false := (rfl)
theorem kdis_tup_bl : Kd.is .tup .bl = false := (rfl)
theorem kdis_tup_int : Kd.is .tup .int = false := (rfl)
theorem kdis_tup_str : Kd.is .tup .str = false := (rfl)
theorem kdis_tup_lst : Kd.is .tup .lst = false := (rfl)
theorem kdis_tup_tup : Kd.is .tup .tup = true := (rfl)
theorem kdis_tup_dct : Kd.is .tup .dct = false := (rfl)
theorem kdis_dct_non : Kd.is .dct .non = false := (rfl)
theorem kdis_dct_bl : Kd.is .dct .bl = false := (rfl)
theorem kdis_dct_int : Kd.is .dct .int = false := (rfl)
theorem kdis_dct_str : Kd.is .dct .str = false := (rfl)
theorem kdis_dct_lst : Kd.is .dct .lst = false := (rfl)
theorem kdis_dct_tup : Kd.is .dct .tup = false := (rfl)
theorem kdis_dct_dct : Kd.is .dct .dct = true := (rfl)
theorem retP_d (Q : Sl → Nat → Prop) (e : PyData) (s : PSt) : retP Q (.d e) s = Q (.d e) s.k := (rfl)
theorem retP_nw (Q : Sl → Nat → Prop) (ds : List PyData) (s : PSt) : retP Q (.nw ds) s = Q (.nw ds) s.k := (rfl)
theorem retP_nd (Q : Sl → Nat → Prop) (kvs : KVs) (s : PSt) : retP Q (.nd kvs) s = Q (.nd kvs) s.k := (rfl)
theorem retP_o0 (Q : Sl → Nat → Prop) (ρ : List Sl) (kvs : KVs) (θ : List Ob) (k m : Nat) : retP Q (.ob 0) ⟨ρ, .dct kvs :: θ, k, m⟩ = Q (.nd kvs) k := (rfl)
theorem retP_o1 (Q : Sl → Nat → Prop) (ρ : List Sl) (kvs : KVs) (o : Ob) (θ : List Ob) (k m : Nat) : retP Q (.ob 1) ⟨ρ, o :: .dct kvs :: θ, k, m⟩ = Q (.nd kvs) k := (rfl)
theorem retP_o0l (Q : Sl → Nat → Prop) (ρ : List Sl) (ds : List PyData) (θ : List Ob) (k m : Nat) : retP Q (.ob 0) ⟨ρ, .lst ds :: θ, k, m⟩ = Q (.nw ds) k := (rfl)
theorem isNon_nd (kvs : KVs) : isNon (.nd kvs) = false := (rfl)
theorem isNon_dd (kvs : KVs) : isNon (.dd kvs) = false := (rfl)
theorem isNon_nw (ds : List PyData) : isNon (.nw ds) = false := (rfl)
theorem isNon_l (ds : List PyData) : isNon (.l ds) = false := (rfl)
theorem isNon_ob (j : Nat) : isNon (.ob j) = false := (rfl)
theorem retP_l (Q : Sl → Nat → Prop) (ds : List PyData) (s : PSt) : retP Q (.l ds) s = Q (.l ds) s.k := (rfl)
theorem retP_pl (Q : Sl → Nat → Prop) (ns : List Int) (s : PSt) : retP Q (.pl ns) s = Q (.pl ns) s.k := (rfl)
theorem map_inj_of {α β : Type} {f : α → β} (hf : ∀ a b, f a = f b → a = b) : ∀ {l l2 : List α}, l.map f = l2.map f → l = l2
  | [], [], _ => rfl
  | [], _ :: _, h => by cases h
  | _ :: _, [], h => by cases h
  | a :: l, b :: l2, h => by
    injection h with h1 h2
    rw [hf a b h1, map_inj_of hf h2]
theorem mapInt_e (l l2 : List Int) : (l.map PyData.int = l2.map PyData.int) = (l = l2) := propext ⟨fun h => map_inj_of (fun a b e => PyData.int.inj e) h, fun h => by rw [h]⟩
theorem mapStr_e (l l2 : List Str) : (l.map PyData.str = l2.map PyData.str) = (l = l2) := propext ⟨fun h => map_inj_of (fun a b e => PyData.str.inj e) h, fun h => by rw [h]⟩
theorem tI_e (l l2 : List Int) : (tI l = tI l2) = (l = l2) := propext ⟨fun h => map_inj_of (fun a b e => PyData.int.inj e) (PyData.tuple.inj h), fun h => by rw [h]⟩
theorem mapTI_e (l l2 : List (List Int)) : (l.map tI = l2.map tI) = (l = l2) := propext ⟨fun h => map_inj_of (fun a b e => (tI_e a b).mp e) h, fun h => by rw [h]⟩
end
section
variable {s : PSt} {D : PEnds} {pi : PI1} {pg : PG1} {pt : PT1} {pe : PE1} {vs : List Nat} {Q : Sl → PSt → Prop}
/-- an if, its branches not looked at yet -/
theorem pIf_ {c : PT1} {t u : PS1} (h : ∀ X Y : PSt → Prop, (∀ s', t D s' → X s') → (∀ s', u D s' → Y s') → c s fun b s1 => if b = true then X s1 else Y s1) : pIfS c t u D s := h (t D) (u D) (fun _ h => h) fun _ h => h
theorem pLcD_fun {ds : List PyData} {α : Type} (l : List α) (f : α → PyData) (keep : α → Bool) (g : α → PyData) (hl : l.length ≤ 10000) (e : ds = l.map f := by rfl)
    (hs : ∀ a ∈ l, ∀ (T : PyData → PSt → Prop) (F : PSt → Prop), (keep a = true → T (g a) s) → (keep a = false → F s) → pg (.d (f a)) { s with ρ := wipeP s.ρ vs } fun s3 => pt s3 fun b s4 => if b = true then pe s4 fun z s5 => ∃ y, datOf z = some y ∧ T y { s5 with ρ := s.ρ } else F { s4 with ρ := s.ρ })
    (q : Q (.nw ((l.filter keep).map g)) s) : pLcD none ds pg pt pe vs s Q := pLc_fun l f keep g hl none (fun j e => by cases e) (fun R r => by rw [e]; exact r) hs q
theorem pLcD_all {ds : List PyData} {α : Type} (l : List α) (f g : α → PyData) (hl : l.length ≤ 10000) (e : ds = l.map f := by rfl)
    (hs : ∀ a ∈ l, ∀ (T : PyData → PSt → Prop), T (g a) s → pg (.d (f a)) { s with ρ := wipeP s.ρ vs } fun s3 => pe s3 fun z s5 => ∃ y, datOf z = some y ∧ T y { s5 with ρ := s.ρ })
    (q : Q (.nw (l.map g)) s) : pLcD none ds pg pYes pe vs s Q := pLc_all l f g hl none (fun j e => by cases e) (fun R r => by rw [e]; exact r) hs q
theorem pLcD_inv {gd : Option Nat} {ds : List PyData} (hl : ds.length ≤ 10000) (I : Nat → List PyData → PSt → Prop) (hgd : ∀ i acc s2, I i acc s2 → ∀ j, gd = some j → s2.θ[j]? = some (.lst ds)) (h0 : I 0 [] s)
    (hs : ∀ (i : Nat) (d : PyData) (acc : List PyData) (s2 : PSt), ds[i]? = some d → I i acc s2 → s2.ρ = s.ρ → pg (.d d) { s2 with ρ := wipeP s.ρ vs } fun s3 => pt s3 fun b s4 => if b = true then pe s4 fun z s5 => ∃ y, datOf z = some y ∧ I (i + 1) (acc ++ [y]) { s5 with ρ := s.ρ } else I (i + 1) acc { s4 with ρ := s.ρ })
    (q : ∀ acc s2, I ds.length acc s2 → s2.ρ = s.ρ → Q (.nw acc) s2) : pLcD gd ds pg pt pe vs s Q := pLc_inv ds hl I gd hgd (fun R r => r) h0 hs q
theorem pForD_ {gd : Option Nat} {ds : List PyData} {b : PS1} (I : Nat → PSt → Prop) (hgd : ∀ i s2, I i s2 → ∀ j, gd = some j → s2.θ[j]? = some (.lst ds)) (h0 : I 0 s)
    (hs : ∀ (i : Nat) (d : PyData) (s2 : PSt), ds[i]? = some d → I i s2 → pg (.d d) s2 fun s3 => b { D with nx := I (i + 1), ct := I (i + 1), bk := D.nx } s3)
    (q : ∀ s2, I ds.length s2 → D.nx s2) : pForD gd ds pg b D s := pFor_ ds I gd hgd (fun R r => r) h0 hs q
theorem pForN {ds : List PyData} {b : PS1} (I : Nat → PSt → Prop) (h0 : I 0 s)
    (hs : ∀ (i : Nat) (d : PyData) (s2 : PSt), ds[i]? = some d → I i s2 → pg (.d d) s2 fun s3 => b { D with nx := I (i + 1), ct := I (i + 1), bk := D.nx } s3)
    (q : ∀ s2, I ds.length s2 → D.nx s2) : pForD none ds pg b D s := pForD_ I (fun _ _ _ j e => by cases e) h0 hs q
theorem pDcN {ds : List PyData} {pk pv : PE1} (hl : ds.length ≤ 10000) (I : Nat → List (Int × Int) → PSt → Prop) (h0 : I 0 [] s)
    (hs : ∀ (i : Nat) (d : PyData) (acc : List (Int × Int)) (s2 : PSt), ds[i]? = some d → I i acc s2 → s2.ρ = s.ρ → pg (.d d) { s2 with ρ := wipeP s.ρ vs } fun s3 => pt s3 fun b s4 => if b = true then pk s4 fun y s5 => pv s5 fun z s6 => ∃ k v, y = .d (.int k) ∧ z = .d (.int v) ∧ I (i + 1) (putI acc k v) { s6 with ρ := s.ρ } else I (i + 1) acc { s4 with ρ := s.ρ })
    (q : ∀ acc s2, I ds.length acc s2 → s2.ρ = s.ρ → Q (.di acc) s2) : pDcD none ds pg pt pk pv vs s Q := ⟨hl, I, h0, fun _ _ _ _ j e => (by cases e), hs, q⟩
theorem pWhile_ {c : PT1} {b : PS1} (W : Nat → PSt → Prop) (h0 : ∃ m, W m s) (h : ∀ m s1, W m s1 → ∀ B E : PSt → Prop, (∀ s2, b { D with nx := fun s' => ∃ m', m' < m ∧ W m' s', ct := fun s' => ∃ m', m' < m ∧ W m' s', bk := D.nx } s2 → B s2) → (∀ s2, D.nx s2 → E s2) → c s1 fun k s2 => if k = true then B s2 else E s2) : pWhile c b D s :=
  ⟨W, h0, fun m s1 hw => h m s1 hw _ _ (fun _ hb => ⟨_, fun _ g => g, hb⟩) fun _ g => g⟩
end
end My
local macro_rules
  | `(tactic| array_get_dec) => `(tactic| simp only [My.pC_s, My.pOp_s, My.pUn_s, My.pNil_s, My.pCons_s, My.pCB_s, My.pCall_s, My.pTup_s, My.pLst_s, My.pB_s, My.pNot_s, My.pAnd_s, My.pOr_s, My.pYes_s, My.pAndV_s, My.pOrV_s, My.pNotV_s, My.pIf_s, My.pChain_s, My.pSeqL_s, My.pSeqT_s, My.pRng1_s, My.pRng2_s, My.pEnumL_s, My.pEnumT_s, My.pZip_s, My.pgName_s, My.pgNil_s, My.pgCons_s, My.pgTup_s, My.pNext_s, My.pBreak_s, My.pCont_s, My.pDrop_s, My.pRet_s, My.pRetN_s, My.pSet_s, My.pAsg_s, My.pPar_s, My.pPar3_s, My.fI_s, My.fIC_s, My.fAdd_s, My.fSub_s, My.fMul_s, My.fDiv_s, My.fMod_s, My.fPow_s, My.fLt_s, My.fLe_s, My.fGt_s, My.fGe_s, My.fEq_s, My.fNe_s, My.fEqD_s, My.fNeD_s, My.fIn_s, My.fIsN_s, My.fNotN_s, My.fIsB_s, My.fIx_s, My.fCatT_s, My.pNoP_s, My.pPart_s, My.pSl_s, My.fLen_s, My.fList_s, My.fTuple_s, My.fSum_s, My.fMin_s, My.fMax_s, My.fMaxT_s, My.fMinT_s, My.fMin2_s, My.fMax2_s, My.fInt_s, My.fAll_s, My.fAny_s, My.fSorted_s, My.fRepr_s, My.pIsi_s, My.pIsi2_s, My.pRg1_s, My.pRg2_s, My.pLstRg_s, My.pTupRg_s, My.pAppend_s, My.pPop_s, My.pPopAt_s, My.fD_s, My.fP_s, My.fCatL_s, My.fRepL_s, My.fRepT_s, My.fLtT_s, My.fLtU_s, My.fNeg_s, My.pBackT_s, My.pBackL_s, My.pExtend_s, My.pSetIx_s, My.fAddS_s, My.fStrI_s, My.pJoin_s, My.pSplit_s, My.pEndsw_s, My.fFlat_s, My.fData_s, My.fTake_s, My.fOneOf_s, My.fPen_s, My.fStrU_s, My.pSlS_s, My.pZipM_s, My.pAppNew_s, My.fFlatO_s, My.pTupP_s, My.pDeal_s, My.fCatP_s, My.pSlP_s, My.pSortSet_s, My.fInDct_s, My.pDctGet_s, My.pDct1_s, My.pSetKey_s, My.fLenDct_s, My.fListDct_s, My.fS_s, My.fSortDct_s, My.pAug_s, My.fNewL_s, My.fTo_s, My.fOneOfX_s, My.pSortSetL_s, My.pDiGet_s, My.pDiIn_s, My.pDiGet2_s, My.fNotInO_s, My.fOdd_s, My.fRepT0_s, My.pLenSetT_s, My.pLenSetL_s, My.pStepT_s, My.fSumLL_s, My.pVar_s, My.pLc_s, My.pFor_s, My.pLc2_s, My.pDc_s, My.mapPrI, My.datsOf_nil, My.datsOf_cons, My.datOf_d, My.datOf_nw, My.datOf_l, My.datOf_pl, My.datOf_dl, My.seqOf_dl_, My.seqOf_dt, My.seqOf_tI, My.seqOf_webD, My.seqOf_bD, My.seqOf_nw, My.seqOf_l, My.seqOf_pl, My.seqOf_dl2, My.seqOf_ob_, My.lstAt_0, My.lstAt_1, My.lstAt_2, My.lstOf_nw, My.lstOf_l, My.gdOf_d, My.gdOf_nw, My.gdOf_l, My.gdOf_pl, My.gdOf_ob, My.kindC_d, My.kindC_pl, My.kindC_nw, My.kindC_l, My.kd_tI, My.kd_webD, My.kd_t, My.kd_l, My.kd_i, My.kd_b, My.kd_n, My.kd_s, My.kd_dc, My.blOf_b, My.atI_0, My.atI_1, My.flatD_i, My.flatD_b, My.flatD_n, My.flatD_s, My.scal_ii, My.scal_bb, My.scal_ss, My.decB, My.decS, My.isNon_n, My.isNon_t, My.isNon_tI, My.isNon_i, My.isNon_webD, My.noLD_i, My.noLD_b, My.noLD_n, My.noLD_s, My.map_sld_nil, My.map_sld_cons, My.isOwn_s, My.ownOf_s, My.ownD_s, My.upO_s, My.upD_s, My.dOf_nd, My.dOf_dd, My.dOf_ob, My.plainS_d, My.plainS_nwl, My.plainS_l, My.plainS_nd, My.plainS_dd, My.plainS_di, My.plainS_pl, My.plainS_dl, My.plainS_pen, My.plainS_ob, My.pown_f, My.pown_nw, My.pown_nd, My.wipeP_nil, My.wipeP_cons, My.kdis_non_non, My.kdis_non_bl, My.kdis_non_int, My.kdis_non_str, My.kdis_non_lst, My.kdis_non_tup, My.kdis_non_dct, My.kdis_bl_non, My.kdis_bl_bl, My.kdis_bl_int, My.kdis_bl_str, My.kdis_bl_lst, My.kdis_bl_tup, My.kdis_bl_dct, My.kdis_int_non, My.kdis_int_bl, My.kdis_int_int, My.kdis_int_str, My.kdis_int_lst, My.kdis_int_tup, My.kdis_int_dct, My.kdis_str_non, My.kdis_str_bl, My.kdis_str_int, My.kdis_str_str, My.kdis_str_lst, My.kdis_str_tup, My.kdis_str_dct, My.kdis_lst_non, My.kdis_lst_bl, My.kdis_lst_int, My.kdis_lst_str, My.kdis_lst_lst, My.kdis_lst_tup, My.kdis_lst_dct, My.kdis_tup_non, My.kdis_tup_bl, My.kdis_tup_int, My.kdis_tup_str, My.kdis_tup_lst, My.kdis_tup_tup, My.kdis_tup_dct, My.kdis_dct_non, My.kdis_dct_bl, My.kdis_dct_int, My.kdis_dct_str, My.kdis_dct_lst, My.kdis_dct_tup, My.kdis_dct_dct, My.retP_d, My.retP_nw, My.retP_nd, My.retP_o0, My.retP_o1, My.retP_o0l, My.isNon_nd, My.isNon_dd, My.isNon_nw, My.isNon_l, My.isNon_ob, My.retP_l, My.retP_pl, My.mapInt_e, My.mapStr_e, My.tI_e, My.mapTI_e, List.getElem?_cons_succ, List.getElem?_cons_zero, List.getElem?_nil, List.set_cons_succ, List.set_cons_zero, List.cons.injEq, List.length_cons, List.length_nil, List.map_cons, List.map_nil, Option.some.injEq, Option.map_some, My.Sl.d.injEq, My.Sl.nw.injEq, My.Sl.l.injEq, My.Sl.pl.injEq, My.Sl.dl.injEq, My.Sl.di.injEq, My.Sl.ob.injEq, My.Sl.nd.injEq, My.Sl.dd.injEq, PySem.PyData.int.injEq, PySem.PyData.bool.injEq, PySem.PyData.str.injEq, PySem.PyData.tuple.injEq, PySem.PyData.list.injEq, My.Ob.lst.injEq, My.Ob.dct.injEq, Prod.mk.injEq, and_true, true_and, and_self, and_assoc, exists_eq_left, exists_eq_left', exists_eq_right, exists_eq_right', exists_eq, exists_eq', exists_and_left, exists_and_right, exists_const, Nat.reduceAdd, Nat.reduceLeDiff, Nat.zero_add, Int.reduceLE, Int.reduceLT, Bool.not_true, Bool.not_false, Bool.false_eq_true, if_true, if_false, ite_true, ite_false, Bool.or_false, Bool.or_true, Bool.false_or, Bool.true_or, eq_self, decide_true, decide_false, My.decI, My.decB, My.decS, reduceCtorEq, false_and, and_false, or_false, false_or, forall_const, List.cons_append, List.nil_append, List.append_nil, My.ints_flat, My.inF_ints, My.bools_flat])
set_option Elab.async false
set_option linter.all false
set_option maxRecDepth 100000
set_option maxHeartbeats 4000000
namespace My
open PySem PySem.Spec PyProof.Rows L2
/-! ### rows and shut sets of any value -/
theorem iteS {A B : Prop} {c : Bool} (h1 : c = true → A) (h2 : c = false → B) : if c = true then A else B := by
  cases c with
  | true => exact iteY (h1 rfl)
  | false => exact iteN (h2 rfl)
theorem atI_last {α : Type} {l : List α} {x : α} (h : l[l.length - 1]? = some x) : atI l ((l.length : Nat) - 1) = some x := by
  have hp := (List.getElem?_eq_some_iff.mp h).1
  rw [show ((l.length : Nat) : Int) - 1 = ((l.length - 1 : Nat) : Int) by omega]
  exact atI_nat h
end My
set_option Elab.async false
set_option linter.all false
set_option maxRecDepth 100000
set_option maxHeartbeats 4000000
namespace My
open PySem PySem.Spec PyProof.Rows L2
/-! ### ways apart, parting lots: as many of the one as places of the other -/
structure WayP (n : Nat) (T : List (Int × Int)) (a b : Int) (w : List Int) : Prop where
  hd : w[0]? = some a
  lt : w[w.length - 1]? = some b
  nd : w.Nodup
  st : ∀ (j : Nat) x y, w[j]? = some x → w[j + 1]? = some y → y ∈ nearS T x
  two : 2 ≤ w.length
def WaysP (n : Nat) (T : List (Int × Int)) (a b : Int) (ws : List (List Int)) : Prop := (∀ w ∈ ws, WayP n T a b w) ∧ ws.Pairwise fun v w => ∀ x ∈ v, x ∈ w → x = a ∨ x = b
def LotP (n : Nat) (T : List (Int × Int)) (a b : Int) (lot : List Int) : Prop := lot.Pairwise (· < ·) ∧ (∀ x ∈ lot, 0 ≤ x ∧ x < n) ∧ a ∉ lot ∧ b ∉ lot ∧ ¬ Reach T (othersL n lot) a b
section
variable {n : Nat} {T : List (Int × Int)} {a b : Int} {links : List (Int × Int)} {c : Nat}
theorem Lks.in_le (h : Lks n T a b links c) {y : Int} (hy : y ≠ b) : (links.filter fun l => decide (l.2 = y)).length ≤ 1 := by
  have hp := List.Pairwise.filter (fun l => decide (l.2 = y)) h.in1
  have hm : ∀ l ∈ links.filter fun l => decide (l.2 = y), l.2 = y := fun l hl => by simpa using (List.mem_filter.mp hl).2
  match e : links.filter fun l => decide (l.2 = y) with
  | [] => rw [e]; simp
  | [x] => rw [e]; simp
  | x :: z :: r =>
    rw [e] at hp hm
    have h1 := (List.pairwise_cons.mp hp).1 z (by simp)
    have e1 := hm x (by simp)
    have e2 := hm z (by simp)
    exact absurd (e1.symm.trans (h1 (e1.trans e2.symm))) hy
theorem len_one {α : Type} {l : List α} (h : l.length ≤ 1) {x y : α} (hx : x ∈ l) (hy : y ∈ l) : x = y := by
  match l, h with
  | [], _ => cases hx
  | [z], _ => rw [List.mem_singleton.mp hx, List.mem_singleton.mp hy]
theorem Lks.uin (h : Lks n T a b links c) {x z y : Int} (hy : y ≠ b) (h1 : (x, y) ∈ links) (h2 : (z, y) ∈ links) : x = z := by
  have := len_one (h.in_le hy) (List.mem_filter.mpr ⟨h1, by simp⟩) (List.mem_filter.mpr ⟨h2, by simp⟩)
  exact (Prod.mk.inj this).1
theorem Lks.outU (h : Lks n T a b links c) {x y : Int} (ha : y ≠ a) (hb : y ≠ b) (hx : (x, y) ∈ links) : ∃ z, (y, z) ∈ links ∧ ∀ u, (y, u) ∈ links → u = z := by
  have hin := h.in_le hb
  have hpos : 1 ≤ (links.filter fun l => decide (l.2 = y)).length := List.length_pos_of_mem (List.mem_filter.mpr ⟨hx, by simp⟩)
  have hbal := h.bal y
  rw [if_neg hb, if_neg ha] at hbal
  match e : links.filter fun l => decide (l.1 = y) with
  | [] => rw [e] at hbal; simp only [List.length_nil] at hbal; omega
  | l :: r =>
    have hl : l ∈ links.filter fun l => decide (l.1 = y) := by rw [e]; simp
    obtain ⟨h1, h2⟩ := List.mem_filter.mp hl
    have h2 : l.1 = y := by simpa using h2
    refine ⟨l.2, by rw [← h2]; exact h1, fun u hu => ?_⟩
    have : (y, u) = l := len_one (l := links.filter fun l => decide (l.1 = y)) (by omega) (List.mem_filter.mpr ⟨hu, by simp⟩) hl
    rw [← this]
theorem Lks.outB (h : Lks n T a b links c) (hab : a ≠ b) {z : Int} : (b, z) ∉ links := fun hz => by
  have hbal := h.bal b
  rw [if_pos rfl, if_neg (fun e => hab e.symm), h.inB] at hbal
  have : 1 ≤ (links.filter fun l => decide (l.1 = b)).length := List.length_pos_of_mem (List.mem_filter.mpr ⟨hz, by simp⟩)
  omega
/-- to where the link from each place leads -/
def aftI (a : Int) (links : List (Int × Int)) : List (Int × Int) := befI a (links.map fun l => (l.2, l.1))
theorem aftI_some {y z : Int} (h : valI (aftI a links) y = some z) : y ≠ a ∧ (y, z) ∈ links := by
  obtain ⟨h1, h2⟩ := befI_some h
  obtain ⟨l, hl, e⟩ := List.mem_map.mp h2
  injection e with e1 e2
  exact ⟨h1, by rw [← e1, ← e2]; exact hl⟩
theorem aftI_in {y z : Int} (ha : y ≠ a) (h : (y, z) ∈ links) : ∃ u, valI (aftI a links) y = some u := by
  cases e : valI (aftI a links) y with
  | some u => exact ⟨u, rfl⟩
  | none =>
    rcases befI_none e with h1 | h1
    · exact absurd h1 ha
    · exact absurd (List.mem_map.mpr ⟨_, h, rfl⟩) (h1 z)
/-- a walk along links from a -/
structure Along (a b : Int) (links : List (Int × Int)) (w : List Int) : Prop where
  hd : w[0]? = some a
  st : ∀ (j : Nat) x y, w[j]? = some x → w[j + 1]? = some y → (x, y) ∈ links
  nb : ∀ j : Nat, j + 1 < w.length → w[j]? ≠ some b
variable {w v : List Int}
theorem Along.pred (h : Along a b links w) {j : Nat} {x : Int} (e : w[j + 1]? = some x) : ∃ p, w[j]? = some p ∧ (p, x) ∈ links := by
  have hj := (List.getElem?_eq_some_iff.mp e).1
  obtain ⟨p, ep⟩ : ∃ p, w[j]? = some p := ⟨_, List.getElem?_eq_getElem (by omega)⟩
  exact ⟨p, ep, h.st j p x ep e⟩
theorem Along.noA (hL : Lks n T a b links c) (h : Along a b links w) {j : Nat} : w[j + 1]? ≠ some a := fun e => by
  obtain ⟨p, _, hp⟩ := h.pred e
  exact hL.na _ hp rfl
theorem Along.inj (hL : Lks n T a b links c) (h : Along a b links w) : ∀ (i j : Nat) (x : Int), i < j → w[i]? = some x → w[j]? = some x → False
  | 0, j + 1, x, _, e1, e2 => by
    rw [h.hd] at e1
    cases e1
    exact h.noA hL e2
  | i + 1, j + 1, x, hij, e1, e2 => by
    obtain ⟨p, ep, hp⟩ := h.pred e1
    obtain ⟨q, eq, hq⟩ := h.pred e2
    have hj := (List.getElem?_eq_some_iff.mp e2).1
    have hxb : x ≠ b := fun e => h.nb (i + 1) (by omega) (by rw [e1, e])
    have := hL.uin hxb hp hq
    subst this
    exact h.inj hL i j p (by omega) ep eq
theorem Along.nodup (hL : Lks n T a b links c) (h : Along a b links w) : w.Nodup := by
  unfold List.Nodup
  rw [List.pairwise_iff_getElem]
  intro i j hi hj hij e
  exact h.inj hL i j w[i] hij (List.getElem?_eq_getElem hi) (by rw [List.getElem?_eq_getElem hj, e])
theorem Along.bd (hW : WebOk n T) (hL : Lks n T a b links c) (ha : 0 ≤ a ∧ a < n) (h : Along a b links w) : ∀ x ∈ w, 0 ≤ x ∧ x < n := fun x hx => by
  obtain ⟨i, hi, e⟩ := List.getElem_of_mem hx
  have e1 : w[i]? = some x := by rw [List.getElem?_eq_getElem hi, e]
  match i, e1 with
  | 0, e1 => rw [h.hd] at e1; cases e1; exact ha
  | i + 1, e1 =>
    obtain ⟨p, _, hp⟩ := h.pred e1
    exact nearS_bd hW (hL.tie _ hp)
theorem Along.len (hW : WebOk n T) (hL : Lks n T a b links c) (ha : 0 ≤ a ∧ a < n) (h : Along a b links w) : w.length ≤ n := by
  have := nodup_len (h.nodup hL) (m := ups n) fun x hx => mem_ups.mpr (h.bd hW hL ha x hx)
  rwa [ups_len] at this
theorem Along.two (hne : a ≠ b) (hab : b ∉ nearS T a) (hL : Lks n T a b links c) {p : Int} (hp : (a, p) ∈ links) : Along a b links [a, p] ∧ p ≠ b := by
  have hpb : p ≠ b := fun e => hab (e ▸ hL.tie _ hp)
  refine ⟨⟨rfl, fun j x y e1 e2 => ?_, fun j hj => ?_⟩, hpb⟩
  · match j, e1, e2 with
    | 0, e1, e2 => cases e1; cases e2; exact hp
    | 1, _, e2 => cases e2
  · match j, hj with
    | 0, _ =>
      intro e
      cases e
      exact hne rfl
theorem Along.snoc (h : Along a b links w) {y z : Int} (e : w[w.length - 1]? = some y) (hb : y ≠ b) (hz : (y, z) ∈ links) : Along a b links (w ++ [z]) := by
  have hpos := (List.getElem?_eq_some_iff.mp e).1
  refine ⟨by rw [List.getElem?_append_left (by omega)]; exact h.hd, fun j x u e1 e2 => ?_, fun j hj e1 => ?_⟩
  · have hj := (List.getElem?_eq_some_iff.mp e2).1
    rw [List.length_append, List.length_singleton] at hj
    rw [List.getElem?_append_left (by omega)] at e1
    by_cases hl : j + 1 < w.length
    · rw [List.getElem?_append_left hl] at e2
      exact h.st j x u e1 e2
    · have e3 : j = w.length - 1 := by omega
      subst e3
      rw [e] at e1
      cases e1
      rw [List.getElem?_append_right (by omega), show w.length - 1 + 1 - w.length = 0 by omega] at e2
      cases e2
      exact hz
  · rw [List.length_append, List.length_singleton] at hj
    rw [List.getElem?_append_left (by omega)] at e1
    by_cases hl : j + 1 < w.length
    · exact h.nb j hl e1
    · have e3 : j = w.length - 1 := by omega
      subst e3
      rw [e] at e1
      cases e1
      exact hb rfl
/-- on from the last place -/
theorem Along.on (hL : Lks n T a b links c) (h : Along a b links w) (h2 : 2 ≤ w.length) {y : Int} (e : w[w.length - 1]? = some y) (hb : y ≠ b) : ∃ z, valI (aftI a links) y = some z ∧ Along a b links (w ++ [z]) := by
  have e1 : w[w.length - 2 + 1]? = some y := by rw [show w.length - 2 + 1 = w.length - 1 by omega]; exact e
  obtain ⟨p, _, hp⟩ := h.pred e1
  have hya : y ≠ a := fun z => h.noA hL (z ▸ e1)
  obtain ⟨z, hz, hu⟩ := hL.outU hya hb hp
  obtain ⟨u, eu⟩ := aftI_in hya hz
  have := hu u (aftI_some eu).2
  subst this
  exact ⟨u, eu, h.snoc e hb hz⟩
theorem Along.way (hL : Lks n T a b links c) (h : Along a b links w) (h2 : 2 ≤ w.length) (e : w[w.length - 1]? = some b) : WayP n T a b w :=
  ⟨h.hd, e, h.nodup hL, fun j x y e1 e2 => hL.tie _ (h.st j x y e1 e2), h2⟩
theorem Along.meet (hL : Lks n T a b links c) (h : Along a b links v) (g : Along a b links w) : ∀ (i j : Nat) (x : Int), v[i + 1]? = some x → w[j + 1]? = some x → x ≠ b → v[1]? = w[1]?
  | 0, j, x, e1, e2, hx => by
    obtain ⟨p, ep, hp⟩ := h.pred e1
    obtain ⟨q, eq, hq⟩ := g.pred e2
    have := hL.uin hx hp hq
    subst this
    rw [h.hd] at ep
    cases ep
    match j, eq with
    | 0, _ => rw [e1, e2]
    | j + 1, eq => exact absurd eq (g.noA hL)
  | i + 1, j, x, e1, e2, hx => by
    obtain ⟨p, ep, hp⟩ := h.pred e1
    obtain ⟨q, eq, hq⟩ := g.pred e2
    have := hL.uin hx hp hq
    subst this
    have hi := (List.getElem?_eq_some_iff.mp e1).1
    match j, eq with
    | 0, eq =>
      rw [g.hd] at eq
      cases eq
      exact absurd ep (h.noA hL)
    | j + 1, eq => exact h.meet hL g i j p ep eq fun z => h.nb (i + 1) (by omega) (by rw [ep, z])
theorem Along.apart (hL : Lks n T a b links c) (h : Along a b links v) (g : Along a b links w) (hne : v[1]? ≠ w[1]?) : ∀ x ∈ v, x ∈ w → x = a ∨ x = b := fun x hv hw => by
  obtain ⟨i, hi, ei⟩ := List.getElem_of_mem hv
  obtain ⟨j, hj, ej⟩ := List.getElem_of_mem hw
  have e1 : v[i]? = some x := by rw [List.getElem?_eq_getElem hi, ei]
  have e2 : w[j]? = some x := by rw [List.getElem?_eq_getElem hj, ej]
  match i, e1 with
  | 0, e1 => rw [h.hd] at e1; cases e1; exact .inl rfl
  | i + 1, e1 =>
    match j, e2 with
    | 0, e2 => rw [g.hd] at e2; cases e2; exact .inl rfl
    | j + 1, e2 =>
      by_cases hx : x = b
      · exact .inr hx
      · exact absurd (h.meet hL g i j x e1 e2 hx) hne
/-- the links from a lead to unlike places -/
theorem Lks.first (h : Lks n T a b links c) (hno : b ∉ nearS T a) : ((links.filter fun l => decide (l.1 = a)).map (·.2)).Nodup := by
  unfold List.Nodup
  rw [List.pairwise_map]
  refine List.Pairwise.imp_of_mem (fun {l m} hl hm hp e => ?_) (List.Pairwise.filter _ h.in1)
  have h1 := List.mem_filter.mp hl
  have h2 : l.1 = a := by simpa using h1.2
  have := h.tie l h1.1
  rw [hp e, h2] at this
  exact hno this
/-! weak duality -/
theorem WayP.reach {lot : List Int} (hW : WebOk n T) (h : WayP n T a b w) (hl : ∀ x ∈ w, x ∉ lot) : Reach T (othersL n lot) a b := by
  have key : ∀ (j : Nat) x, w[j]? = some x → Reach T (othersL n lot) a x := fun j => by
    induction j with
    | zero =>
      intro x e
      rw [h.hd] at e
      cases e
      exact .base
    | succ j ih =>
      intro x e
      have hj := (List.getElem?_eq_some_iff.mp e).1
      obtain ⟨p, ep⟩ : ∃ p, w[j]? = some p := ⟨_, List.getElem?_eq_getElem (by omega)⟩
      have hn := h.st j p x ep e
      refine .step (ih p ep) hn ?_
      unfold othersL
      rw [List.mem_filter]
      exact ⟨mem_ups.mpr (nearS_bd hW hn), by simpa using hl x (List.mem_of_getElem? e)⟩
  exact key _ _ h.lt
theorem ways_le {ws : List (List Int)} {lot : List Int} (hW : WebOk n T) (hw : WaysP n T a b ws) (ha : a ∉ lot) (hb : b ∉ lot) (hr : ¬ Reach T (othersL n lot) a b) : ws.length ≤ lot.length := by
  have pick : ∀ w : List Int, ∃ x, w ∈ ws → x ∈ w ∧ x ∈ lot := fun w => by
    by_cases h : w ∈ ws
    · by_cases g : ∃ x ∈ w, x ∈ lot
      · obtain ⟨x, h1, h2⟩ := g
        exact ⟨x, fun _ => ⟨h1, h2⟩⟩
      · exact absurd ((hw.1 w h).reach hW fun x hx hl => g ⟨x, hx, hl⟩) hr
    · exact ⟨0, fun z => absurd z h⟩
  obtain ⟨f, hf⟩ : ∃ f : List Int → Int, ∀ w, w ∈ ws → f w ∈ w ∧ f w ∈ lot := ⟨fun w => Classical.choose (pick w), fun w => Classical.choose_spec (pick w)⟩
  have nd : (ws.map f).Nodup := by
    unfold List.Nodup
    rw [List.pairwise_map]
    refine List.Pairwise.imp_of_mem (fun {v w} hv hw' hp e => ?_) hw.2
    obtain ⟨h1, h2⟩ := hf v hv
    obtain ⟨h3, h4⟩ := hf w hw'
    rcases hp (f v) h1 (by rw [e]; exact h3) with z | z
    · exact ha (z ▸ h2)
    · exact hb (z ▸ h2)
  have := nodup_len nd (m := lot) fun x hx => by
    obtain ⟨w, hw', rfl⟩ := List.mem_map.mp hx
    exact (hf w hw').2
  rwa [List.length_map] at this
/-! the lot: as many places as ways -/
theorem or_len {α : Type} {p q : α → Bool} : ∀ {l : List α}, (∀ x ∈ l, ¬ (p x = true ∧ q x = true)) → (l.filter fun x => p x || q x).length = (l.filter p).length + (l.filter q).length
  | [], _ => rfl
  | x :: l, h => by
    have ih := or_len (p := p) (q := q) (l := l) fun y hy => h y (List.mem_cons_of_mem _ hy)
    have h0 := h x List.mem_cons_self
    cases e1 : p x <;> cases e2 : q x <;> simp [e1, e2] at ih h0 ⊢ <;> omega
theorem Lks.sum (h : Lks n T a b links c) : ∀ (S : List Int), S.Nodup → (links.filter fun l => decide (l.1 ∈ S)).length + (if b ∈ S then c else 0) = (links.filter fun l => decide (l.2 ∈ S)).length + (if a ∈ S then c else 0)
  | [], _ => by simp
  | y :: S, nd => by
    obtain ⟨hy, nd⟩ := List.nodup_cons.mp nd
    have ih := h.sum S nd
    have hb := h.bal y
    have e1 : (links.filter fun l => decide (l.1 ∈ y :: S)) = links.filter fun l => decide (l.1 = y) || decide (l.1 ∈ S) := List.filter_congr fun l _ => by simp
    have e2 : (links.filter fun l => decide (l.2 ∈ y :: S)) = links.filter fun l => decide (l.2 = y) || decide (l.2 ∈ S) := List.filter_congr fun l _ => by simp
    rw [e1, e2, or_len fun l _ => by simp only [decide_eq_true_eq]; rintro ⟨rfl, z⟩; exact hy z, or_len fun l _ => by simp only [decide_eq_true_eq]; rintro ⟨rfl, z⟩; exact hy z]
    have f : ∀ z : Int, (if z ∈ y :: S then c else 0) = (if y = z then c else 0) + (if z ∈ S then c else 0) := fun z => by
      by_cases e : z = y
      · subst e
        rw [if_pos (by simp), if_pos rfl, if_neg hy]
        rfl
      · by_cases g : z ∈ S
        · rw [if_pos (by simp [g]), if_neg (fun w => e w.symm), if_pos g, Nat.zero_add]
        · rw [if_neg (by simp [e, g]), if_neg (fun w => e w.symm), if_neg g]
    rw [f, f]
    omega
theorem plot_len {row : List (List Int)} {par : List Int → Option (List Int)} {dep : List Int → Nat} (hW : WebOk n T) (ha : 0 ≤ a ∧ a < n) (hab : a ≠ b) (h : Lks n T a b links c) (hB : Bfs (nextS T (befI b links)) [a, 1] row par dep row.length 0) (hb : [b, 0] ∉ row) : (plotL n row).length = c := by
  have done : ∀ s ∈ row, ∀ t ∈ nextS T (befI b links) s, t ∈ row := fun s hs t ht => by
    obtain ⟨j, hj, e⟩ := List.getElem_of_mem hs
    exact (hB.done j s hj (List.getElem?_eq_some_iff.mpr ⟨hj, e⟩) t ht).1
  have a1 : [a, 1] ∈ row := List.mem_of_getElem? hB.s0
  have sidesd : ∀ s ∈ row, ∃ p d : Int, s = [p, d] ∧ (d = 0 ∨ d = 1) := hB.all (p := fun s => ∃ p d : Int, s = [p, d] ∧ (d = 0 ∨ d = 1)) ⟨a, 1, rfl, .inr rfl⟩ fun s t ⟨p, d, e, hd⟩ ht => by
    subst e
    rcases hd with rfl | rfl
    · rw [next_in ht]; exact ⟨_, _, rfl, .inr rfl⟩
    · rcases next_out ht with ⟨o, _, rfl⟩ | ⟨_, rfl⟩
      · exact ⟨_, _, rfl, .inl rfl⟩
      · exact ⟨_, _, rfl, .inl rfl⟩
  have b1 : [b, 1] ∉ row := fun hb1 => by
    obtain ⟨p, _, hp, hn, _⟩ := hB.pp _ hb1 (fun e => by injection e with e _; exact hab e.symm)
    obtain ⟨y, d, rfl, hd⟩ := sidesd p hp
    rcases hd with rfl | rfl
    · have e := next_in hn
      injection e with e _
      cases ev : valI (befI b links) y with
      | none =>
        rw [ev] at e
        have e : b = y := e
        exact hb (e ▸ hp)
      | some x =>
        rw [ev] at e
        have e : b = x := e
        subst e
        exact h.outB hab (befI_some ev).2
    · rcases next_out hn with ⟨o, _, e⟩ | ⟨_, e⟩
      · injection e with _ e; injection e with e _; exact absurd e (by decide)
      · injection e with _ e; injection e with e _; exact absurd e (by decide)
  have mS : ∀ x, x ∈ (ups n).filter (fun p => decide ([p, 1] ∈ row)) ↔ (0 ≤ x ∧ x < n) ∧ [x, 1] ∈ row := fun x => by
    rw [List.mem_filter, mem_ups, decide_eq_true_eq]
  have ndS : ((ups n).filter (fun p => decide ([p, 1] ∈ row))).Nodup := List.Pairwise.filter _ ((ups_up n).imp fun {a b} h => by omega)
  generalize (ups n).filter (fun p => decide ([p, 1] ∈ row)) = S at mS ndS
  have hs := h.sum S ndS
  rw [if_neg (fun z => b1 ((mS b).mp z).2), if_pos ((mS a).mpr ⟨ha, a1⟩)] at hs
  have bd1 : ∀ l ∈ links, 0 ≤ l.1 ∧ l.1 < n := fun l hl => nearS_bd hW (adj_symm (h.tie l hl))
  have bd2 : ∀ l ∈ links, 0 ≤ l.2 ∧ l.2 < n := fun l hl => nearS_bd hW (h.tie l hl)
  have back : ∀ l ∈ links, l.2 ∈ S → l.1 ∈ S := fun l hl hS => by
    obtain ⟨_, h1⟩ := (mS _).mp hS
    have hlb : l.2 ≠ b := fun e => b1 (e ▸ h1)
    have hv := h.bef hl hlb
    have h0 : [l.2, 0] ∈ row := done _ h1 _ (by
      unfold nextS
      dsimp only
      rw [if_neg (by decide), hv]
      exact List.mem_append_right _ (by simp))
    have h2 : [l.1, 1] ∈ row := done _ h0 _ (by
      unfold nextS
      dsimp only
      rw [if_pos rfl, hv]
      simp)
    exact (mS _).mpr ⟨bd1 l hl, h2⟩
  have eb : (links.filter fun l => decide (l.2 ∈ S)) = links.filter fun l => decide (l.1 ∈ S) && decide (l.2 ∈ S) := List.filter_congr fun l hl => by
    by_cases g : l.2 ∈ S
    · simp [g, back l hl g]
    · simp [g]
  have es : (links.filter fun l => decide (l.1 ∈ S)).length = (links.filter fun l => decide (l.1 ∈ S) && decide (l.2 ∈ S)).length + (links.filter fun l => decide (l.1 ∈ S) && !decide (l.2 ∈ S)).length := by
    rw [← or_len fun l _ => by
      by_cases g2 : l.2 ∈ S <;> simp [g2]]
    congr 1
    refine List.filter_congr fun l _ => ?_
    by_cases g : l.1 ∈ S <;> by_cases g2 : l.2 ∈ S <;> simp [g, g2]
  rw [eb, es] at hs
  have hc : (links.filter fun l => decide (l.1 ∈ S) && !decide (l.2 ∈ S)).length = c := by omega
  rw [← hc]
  have to0 : ∀ l ∈ links, l.1 ∈ S → [l.2, 0] ∈ row := fun l hl hS => done _ ((mS _).mp hS).2 _ (by
    unfold nextS
    dsimp only
    rw [if_neg (by decide)]
    exact List.mem_append_left _ (List.mem_map.mpr ⟨l.2, h.tie l hl, rfl⟩))
  have nd2 : ((links.filter fun l => decide (l.1 ∈ S) && !decide (l.2 ∈ S)).map (·.2)).Nodup := by
    unfold List.Nodup
    rw [List.pairwise_map]
    refine List.Pairwise.imp_of_mem (fun {l m} hl hm hp e => ?_) (List.Pairwise.filter _ h.in1)
    have h1 := List.mem_filter.mp hl
    have h2 : l.1 ∈ S := by
      have := h1.2
      simp only [Bool.and_eq_true, decide_eq_true_eq] at this
      exact this.1
    exact hb (hp e ▸ to0 l h1.1 h2)
  have hperm : (plotL n row).Perm ((links.filter fun l => decide (l.1 ∈ S) && !decide (l.2 ∈ S)).map (·.2)) := by
    refine (List.perm_ext_iff_of_nodup (List.Pairwise.filter _ ((ups_up n).imp fun {a b} h => by omega)) nd2).mpr fun x => ?_
    rw [List.mem_map]
    constructor
    · intro hx
      have hx := List.mem_filter.mp hx
      simp only [Bool.and_eq_true, decide_eq_true_eq, Bool.not_eq_true', decide_eq_false_iff_not] at hx
      obtain ⟨h1, h2, h3⟩ := hx
      have h4 := done _ h2 [(valI (befI b links) x).getD x, 1] (by
        unfold nextS
        dsimp only
        rw [if_pos rfl]
        simp)
      cases ev : valI (befI b links) x with
      | none =>
        rw [ev] at h4
        exact absurd h4 h3
      | some y =>
        rw [ev] at h4
        have hl := (befI_some ev).2
        refine ⟨(y, x), List.mem_filter.mpr ⟨hl, ?_⟩, rfl⟩
        have g1 : y ∈ S := (mS _).mpr ⟨bd1 _ hl, h4⟩
        have g2 : x ∉ S := fun z => h3 ((mS _).mp z).2
        simp [g1, g2]
    · rintro ⟨l, hl, rfl⟩
      have h1 := List.mem_filter.mp hl
      simp only [Bool.and_eq_true, decide_eq_true_eq, Bool.not_eq_true', decide_eq_false_iff_not] at h1
      obtain ⟨h1, h2, h3⟩ := h1
      refine List.mem_filter.mpr ⟨mem_ups.mpr (bd2 l h1), ?_⟩
      simp only [Bool.and_eq_true, decide_eq_true_eq, Bool.not_eq_true', decide_eq_false_iff_not]
      exact ⟨to0 l h1 h2, fun z => h3 ((mS _).mpr ⟨bd2 l h1, z⟩)⟩
  rw [hperm.length_eq, List.length_map]
theorem plot_lot {row : List (List Int)} {par : List Int → Option (List Int)} {dep : List Int → Nat} (hW : WebOk n T) (hab : a ≠ b) (hB : Bfs (nextS T (befI b links)) [a, 1] row par dep row.length 0) (hnb : [b, 0] ∉ row) : LotP n T a b (plotL n row) := by
  refine ⟨List.Pairwise.filter _ (ups_up _), fun x hx => mem_ups.mp (List.mem_filter.mp hx).1, fun h => ?_, fun h => ?_, fun h => ?_⟩
  · have h1 := (List.mem_filter.mp h).2
    rw [decide_eq_true (List.mem_of_getElem? hB.s0)] at h1
    simp at h1
  · have h1 := (List.mem_filter.mp h).2
    rw [decide_eq_false hnb] at h1
    cases h1
  · refine (plot_reach hW hab hB hnb (lot := othersL n (plotL n row)) (fun x hx => ?_) h).1 rfl
    have := (List.mem_filter.mp hx).2
    simpa using this
/-- a way from each first link -/
theorem Lks.ways (hW : WebOk n T) (ha : 0 ≤ a ∧ a < n) (hab : a ≠ b) (hno : b ∉ nearS T a) (h : Lks n T a b links c) {p : Int} (hp : (a, p) ∈ links) : ∃ w, Along a b links w ∧ w[1]? = some p ∧ 2 ≤ w.length ∧ w[w.length - 1]? = some b := by
  have grow : ∀ (m : Nat) (w : List Int), Along a b links w → w[1]? = some p → 2 ≤ w.length → n < w.length + m → ∃ w, Along a b links w ∧ w[1]? = some p ∧ 2 ≤ w.length ∧ w[w.length - 1]? = some b := fun m => by
    induction m with
    | zero =>
      intro w hw _ _ hm
      have := hw.len hW h ha
      omega
    | succ m ih =>
      intro w hw h1 h2 hm
      obtain ⟨y, ey⟩ : ∃ y, w[w.length - 1]? = some y := ⟨_, List.getElem?_eq_getElem (by omega)⟩
      by_cases hy : y = b
      · exact ⟨w, hw, h1, h2, hy ▸ ey⟩
      · obtain ⟨z, _, hz⟩ := hw.on h h2 ey hy
        exact ih (w ++ [z]) hz (by rw [List.getElem?_append_left (by omega)]; exact h1) (by rw [List.length_append]; omega) (by rw [List.length_append, List.length_singleton]; omega)
  obtain ⟨h1, _⟩ := Along.two hab hno h hp
  exact grow n [a, p] h1 rfl (by simp) (by simp)
end
end My
set_option Elab.async false
set_option linter.all false
set_option maxRecDepth 100000
set_option maxHeartbeats 4000000
namespace My
open PySem PySem.Spec PyProof.Rows L2
/-! ### flows: promises -/
/-- two places that are not tied -/
structure Apart2 (n : Nat) (T : List (Int × Int)) (a b : Int) : Prop where
  hW : WebOk n T
  n12 : n ≤ 12
  ha : 0 ≤ a ∧ a < n
  hb : 0 ≤ b ∧ b < n
  hab : a ≠ b
  hno : b ∉ nearS T a
def FWayAlong (ds : List PyData) (Q : Sl → Prop) : Prop := ∃ (n : Nat) (T : List (Int × Int)) (a b p : Int) (links : List (Int × Int)) (c : Nat), ds = [.list (links.map linkD), .int a, .int p, .int b] ∧ Apart2 n T a b ∧ Lks n T a b links c ∧ (a, p) ∈ links ∧ ∀ w, Along a b links w → w[1]? = some p → 2 ≤ w.length → w[w.length - 1]? = some b → Q (.d (tI w))
def FWaysApart (ds : List PyData) (Q : Sl → Prop) : Prop := ∃ (n : Nat) (T : List (Int × Int)) (a b : Int), ds = [webD n T, .int a, .int b] ∧ Apart2 n T a b ∧ ∀ ws lot, WaysP n T a b ws → LotP n T a b lot → lot.length = ws.length → Q (.d (.tuple (ws.map tI)))
theorem FParting.of {n : Nat} {T : List (Int × Int)} {a b : Int} {Q : Sl → Prop} (h : Apart2 n T a b) (hq : ∀ lot ws, LotP n T a b lot → WaysP n T a b ws → ws.length = lot.length → Q (.d (tI lot))) : FParting [webD n T, .int a, .int b] Q := by
  refine ⟨n, T, a, b, rfl, h.hW, h.n12, h.ha, h.hb, h.hab, h.hno, fun links c row par dep hL hB hnb => ?_⟩
  have pick : ∀ p : Int, ∃ w, (a, p) ∈ links → Along a b links w ∧ w[1]? = some p ∧ 2 ≤ w.length ∧ w[w.length - 1]? = some b := fun p => by
    by_cases hp : (a, p) ∈ links
    · obtain ⟨w, hw⟩ := hL.ways h.hW h.ha h.hab h.hno hp
      exact ⟨w, fun _ => hw⟩
    · exact ⟨[], fun z => absurd z hp⟩
  obtain ⟨f, hf⟩ : ∃ f : Int → List Int, ∀ p, (a, p) ∈ links → Along a b links (f p) ∧ (f p)[1]? = some p ∧ 2 ≤ (f p).length ∧ (f p)[(f p).length - 1]? = some b := ⟨fun p => Classical.choose (pick p), fun p => Classical.choose_spec (pick p)⟩
  have hm : ∀ p ∈ (links.filter fun l => decide (l.1 = a)).map (·.2), (a, p) ∈ links := fun p hp => by
    obtain ⟨l, hl, rfl⟩ := List.mem_map.mp hp
    obtain ⟨h1, h2⟩ := List.mem_filter.mp hl
    have h2 : l.1 = a := by simpa using h2
    rw [← h2]
    exact h1
  refine hq _ (((links.filter fun l => decide (l.1 = a)).map (·.2)).map f) (plot_lot h.hW h.hab hB hnb) ⟨fun w hw => ?_, ?_⟩ ?_
  · obtain ⟨p, hp, rfl⟩ := List.mem_map.mp hw
    obtain ⟨h1, h2, h3, h4⟩ := hf p (hm p hp)
    exact h1.way hL h3 h4
  · rw [List.pairwise_map]
    refine List.Pairwise.imp_of_mem (fun {p q} hp hq' hne => ?_) (hL.first h.hno)
    obtain ⟨h1, h2, _⟩ := hf p (hm p hp)
    obtain ⟨g1, g2, _⟩ := hf q (hm q hq')
    exact h1.apart hL g1 (by rw [h2, g2]; exact fun e => hne (Option.some.inj e))
  · rw [List.length_map, List.length_map, hL.frA, plot_len h.hW h.ha h.hab hL hB hnb]
theorem looseL_apart {n : Nat} {T : List (Int × Int)} {a b : Int} (hW : WebOk n T) (n12 : n ≤ 12) (h : (a, b) ∈ looseL n T) : Apart2 n T a b := by
  obtain ⟨h1, h2, h3, h4⟩ := mem_looseL.mp h
  refine ⟨hW, n12, ⟨h1, by omega⟩, ⟨by omega, h3⟩, by omega, fun hn => ?_⟩
  obtain ⟨t, ht, h | h⟩ := mem_nearS.mp hn
  · have := hW.2 t ht
    omega
  · exact h4 (by rw [← h.1, ← h.2]; exact ht)
theorem Apart2.symm {n : Nat} {T : List (Int × Int)} {a b : Int} (h : Apart2 n T a b) : Apart2 n T b a := ⟨h.hW, h.n12, h.hb, h.ha, fun e => h.hab e.symm, fun z => h.hno (adj_symm z)⟩
end My
namespace My
open PySem PySem.Spec PyProof.Rows L2
def FLooseL (ds : List PyData) (Q : Sl → Prop) : Prop := ∃ (n : Nat) (T : List (Int × Int)), ds = [webD n T] ∧ WebOk n T ∧ n ≤ 12 ∧ Q (.l ((looseL n T).map linkD))
section
variable {n : Nat} {T : List (Int × Int)} {a b : Int}
theorem WayP.bd (hA : Apart2 n T a b) {w : List Int} (h : WayP n T a b w) : ∀ x ∈ w, 0 ≤ x ∧ x < n := fun x hx => by
  obtain ⟨i, hi, e⟩ := List.getElem_of_mem hx
  have e1 : w[i]? = some x := by rw [List.getElem?_eq_getElem hi, e]
  match i, e1 with
  | 0, e1 => rw [h.hd] at e1; cases e1; exact hA.ha
  | i + 1, e1 =>
    obtain ⟨p, ep⟩ : ∃ p, w[i]? = some p := ⟨_, List.getElem?_eq_getElem (by omega)⟩
    exact nearS_bd hA.hW (h.st i p x ep e1)
theorem WayP.len (hA : Apart2 n T a b) {w : List Int} (h : WayP n T a b w) : w.length ≤ n := by
  have := nodup_len h.nd (m := ups n) fun x hx => mem_ups.mpr (h.bd hA x hx)
  rwa [ups_len] at this
theorem WaysP.few (hA : Apart2 n T a b) {ws : List (List Int)} (h : WaysP n T a b ws) : ws.length ≤ n := by
  have ha : a ∉ nearS T a := fun z => near_ne hA.hW z rfl
  have hr : ¬ Reach T (othersL n (nearS T a)) a b := fun hr => by
    have key : ∀ x, Reach T (othersL n (nearS T a)) a x → x = a := fun x hx => by
      induction hx with
      | base => rfl
      | step hr hy hl ih =>
        rw [ih] at hy
        have := (List.mem_filter.mp hl).2
        simp [hy] at this
    exact hA.hab (key b hr).symm
  have h1 := ways_le hA.hW h ha hA.hno hr
  have h2 := nodup_len (nearS_nd (x := a) hA.hW) (m := ups n) fun x hx => mem_ups.mpr (nearS_bd hA.hW hx)
  rw [ups_len] at h2
  omega
end
end My
set_option Elab.async false
set_option linter.all false
set_option maxRecDepth 100000
set_option maxHeartbeats 4000000
namespace My
open PySem PySem.Spec PyProof.Rows L2
/-! ### all lots -/
def nxtP (lot : List Int) : Int := match lot.getLast? with
  | some x => x + 1
  | none => 0
def moreL (n : Nat) (lot : List Int) : List (List Int) := (List.range ((n : Int) - nxtP lot).toNat).map fun j : Nat => lot ++ [nxtP lot + (j : Int)]
def levL (n : Nat) : Nat → List (List Int)
  | 0 => [[]]
  | t + 1 => (levL n t).flatMap (moreL n)
def lotsL (n most : Nat) : List (List Int) := (List.range (most + 1)).flatMap (levL n)
def AscIn (n : Nat) (r : List Int) : Prop := r.Pairwise (· < ·) ∧ ∀ x ∈ r, 0 ≤ x ∧ x < n
theorem nxtP_snoc (r : List Int) (x : Int) : nxtP (r ++ [x]) = x + 1 := by
  unfold nxtP
  rw [List.getLast?_append]
  rfl
theorem nxtP_le {n : Nat} {r : List Int} (h : AscIn n r) : 0 ≤ nxtP r ∧ ∀ x ∈ r, x < nxtP r := by
  rcases List.eq_nil_or_concat r with rfl | ⟨l, x, rfl⟩
  · exact ⟨Int.le_refl 0, fun x hx => by cases hx⟩
  · rw [List.concat_eq_append, nxtP_snoc]
    rw [List.concat_eq_append] at h
    have hx := h.2 x (by simp)
    refine ⟨by omega, fun y hy => ?_⟩
    rcases List.mem_append.mp hy with hy | hy
    · have := (List.pairwise_append.mp h.1).2.2 y hy x (by simp)
      omega
    · rw [List.mem_singleton.mp hy]; omega
theorem mem_levL {n : Nat} : ∀ {t : Nat} {r : List Int}, r ∈ levL n t ↔ r.length = t ∧ AscIn n r
  | 0, r => by
    unfold levL
    rw [List.mem_singleton, List.length_eq_zero_iff]
    constructor
    · rintro rfl
      exact ⟨rfl, .nil, fun x hx => by cases hx⟩
    · exact fun h => h.1
  | t + 1, r => by
    unfold levL
    rw [List.mem_flatMap]
    constructor
    · rintro ⟨lot, hl, hr⟩
      obtain ⟨h1, h2⟩ := mem_levL.mp hl
      obtain ⟨a, b⟩ := nxtP_le h2
      unfold moreL at hr
      obtain ⟨j, hj, rfl⟩ := List.mem_map.mp hr
      rw [List.mem_range] at hj
      refine ⟨by rw [List.length_append, h1]; rfl, List.pairwise_append.mpr ⟨h2.1, List.pairwise_singleton _ _, fun x hx y hy => ?_⟩, fun x hx => ?_⟩
      · rw [List.mem_singleton.mp hy]
        have := b x hx
        omega
      · rcases List.mem_append.mp hx with hx | hx
        · exact h2.2 x hx
        · rw [List.mem_singleton.mp hx]; omega
    · rintro ⟨h1, h2⟩
      rcases List.eq_nil_or_concat r with rfl | ⟨l, x, rfl⟩
      · cases h1
      · rw [List.concat_eq_append] at h1 h2 ⊢
        rw [List.length_append, List.length_singleton] at h1
        have h3 : AscIn n l := ⟨(List.pairwise_append.mp h2.1).1, fun y hy => h2.2 y (List.mem_append_left _ hy)⟩
        refine ⟨l, mem_levL.mpr ⟨by omega, h3⟩, List.mem_map.mpr ⟨(x - nxtP l).toNat, ?_, ?_⟩⟩
        · have hx := h2.2 x (by simp)
          have := (nxtP_le h3).1
          have h4 : nxtP l ≤ x := by
            rcases List.eq_nil_or_concat l with rfl | ⟨l', y, rfl⟩
            · exact hx.1
            · rw [List.concat_eq_append, nxtP_snoc]
              have := (List.pairwise_append.mp h2.1).2.2 y (by simp) x (by simp)
              omega
          rw [List.mem_range]
          omega
        · have h4 : nxtP l ≤ x := by
            rcases List.eq_nil_or_concat l with rfl | ⟨l', y, rfl⟩
            · exact (h2.2 x (by simp)).1
            · rw [List.concat_eq_append, nxtP_snoc]
              have := (List.pairwise_append.mp h2.1).2.2 y (by simp) x (by simp)
              omega
          congr 1
          congr 1
          omega
theorem mem_lotsL {n most : Nat} {r : List Int} : r ∈ lotsL n most ↔ r.length ≤ most ∧ AscIn n r := by
  unfold lotsL
  rw [List.mem_flatMap]
  constructor
  · rintro ⟨t, ht, h⟩
    rw [List.mem_range] at ht
    obtain ⟨h1, h2⟩ := mem_levL.mp h
    exact ⟨by omega, h2⟩
  · rintro ⟨h1, h2⟩
    exact ⟨r.length, List.mem_range.mpr (by omega), mem_levL.mpr ⟨rfl, h2⟩⟩
/-- the lesser ones first -/
theorem lotsL_up {n most : Nat} : (lotsL n most).Pairwise fun r s => r.length ≤ s.length := by
  unfold lotsL
  rw [List.pairwise_flatMap]
  refine ⟨fun t _ => ?_, ?_⟩
  · refine List.Pairwise.imp_of_mem (R := fun _ _ => True) (fun {r s} hr hs _ => ?_) (List.pairwise_of_forall fun _ _ => trivial)
    rw [(mem_levL.mp hr).1, (mem_levL.mp hs).1]
    exact Nat.le_refl _
  · refine List.Pairwise.imp (R := (· < ·)) (fun {a b} h r hr s hs => ?_) List.pairwise_lt_range
    rw [(mem_levL.mp hr).1, (mem_levL.mp hs).1]
    omega
theorem moreL_len {n : Nat} {lot : List Int} (h : AscIn n lot) : (moreL n lot).length ≤ n := by
  unfold moreL
  rw [List.length_map, List.length_range]
  have := (nxtP_le h).1
  omega
theorem lots_few : ∀ n < 8, (lotsL n 7).length ≤ 128 ∧ ∀ t < 8, (levL n t).length ≤ 35 := by decide +kernel
theorem lotsL_len {n most : Nat} (hn : n ≤ 7) (hm : most ≤ 7) : (lotsL n most).length ≤ 128 := by
  refine Nat.le_trans ?_ (lots_few n (by omega)).1
  unfold lotsL
  have e : List.range (7 + 1) = List.range (most + 1) ++ (List.range (7 - most)).map (most + 1 + ·) := by
    rw [← List.range_add]
    congr 1
    omega
  rw [e, List.flatMap_append, List.length_append]
  omega
theorem levL_len {n t : Nat} (hn : n ≤ 7) (ht : t ≤ 7) : (levL n t).length ≤ 35 := (lots_few n (by omega)).2 t (by omega)
def FLots (ds : List PyData) (Q : Sl → Prop) : Prop := ∃ n most : Nat, ds = [.int n, .int most] ∧ n ≤ 7 ∧ most ≤ 7 ∧ Q (.nw ((lotsL n most).map tI))
end My
set_option Elab.async false
set_option linter.all false
set_option maxRecDepth 100000
set_option maxHeartbeats 4000000
namespace My
open PySem PySem.Spec PyProof.Rows L2
/-! ### least cuts -/
section
variable {n : Nat} {T : List (Int × Int)}
theorem pieces_cut {lot : List Int} {ps : List (List Int)} (hA : AscIn n lot) (hp : PiecesIs T (othersL n lot) ps) (h2 : 2 ≤ ps.length) : CutIs n T lot := by
  match ps, hp, h2 with
  | p :: q :: ps', hp, _ =>
    obtain ⟨u, uo, pu⟩ := (hp.2.2 p).mp List.mem_cons_self
    obtain ⟨v, vo, pv⟩ := (hp.2.2 q).mp (List.mem_cons_of_mem _ List.mem_cons_self)
    have hu := List.mem_filter.mp uo
    have hv := List.mem_filter.mp vo
    refine ⟨hA.1, hA.2, u, v, mem_ups.mp hu.1, mem_ups.mp hv.1, by simpa using hu.2, by simpa using hv.2, fun huv => ?_⟩
    have e : ∀ z, Reach T (othersL n lot) u z ↔ Reach T (othersL n lot) v z := fun z => ⟨fun h => reach_trans (reach_symm uo huv) h, fun h => reach_trans huv h⟩
    have pv2 : PieceIs T (othersL n lot) u q := ⟨pv.1, fun z => (pv.2 z).trans (e z).symm⟩
    have := pu.eq pv2
    exact (List.nodup_cons.mp hp.2.1).1 (by rw [this]; exact List.mem_cons_self)
theorem cut_twoP {lot : List Int} {ps : List (List Int)} (h : CutIs n T lot) (hp : PiecesIs T (othersL n lot) ps) : 2 ≤ ps.length := by
  obtain ⟨x, y, r, s, ps', rfl, _⟩ := cut_pieces h hp
  simp
/-- a cut leaves two places at least -/
theorem CutIs.small {lot : List Int} (h : CutIs n T lot) : lot.length + 2 ≤ n := by
  obtain ⟨h1, h2, a, b, ha, hb, hal, hbl, hr⟩ := h
  have hab : a ≠ b := fun e => hr (e ▸ .base)
  have nd : (a :: b :: lot).Nodup := by
    rw [List.nodup_cons, List.nodup_cons]
    refine ⟨fun z => ?_, hbl, up_nodup h1⟩
    rcases List.mem_cons.mp z with z | z
    · exact hab z
    · exact hal z
  have := nodup_len nd (m := ups n) fun x hx => by
    rcases List.mem_cons.mp hx with rfl | hx
    · exact mem_ups.mpr ha
    · rcases List.mem_cons.mp hx with rfl | hx
      · exact mem_ups.mpr hb
      · exact mem_ups.mpr (h2 x hx)
  rw [ups_len] at this
  simpa using this
theorem LotP.cut {a b : Int} {lot : List Int} (hA : Apart2 n T a b) (h : LotP n T a b lot) : CutIs n T lot := ⟨h.1, h.2.1, a, b, hA.ha, hA.hb, h.2.2.1, h.2.2.2.1, h.2.2.2.2⟩
/-- a cut parts two places that are not tied -/
theorem CutIs.pair (hW : WebOk n T) {lot : List Int} (h : CutIs n T lot) : ∃ a b, (a, b) ∈ looseL n T ∧ LotP n T a b lot := by
  obtain ⟨h1, h2, a, b, ha, hb, hal, hbl, hr⟩ := h
  have hab : a ≠ b := fun e => hr (e ▸ .base)
  have hno : ∀ t ∈ T, ¬ (t.1 = a ∧ t.2 = b) ∧ ¬ (t.1 = b ∧ t.2 = a) := fun t ht => by
    have mb : b ∈ othersL n lot := List.mem_filter.mpr ⟨mem_ups.mpr hb, by simpa using hbl⟩
    constructor
    · intro e
      exact hr (.step .base (mem_nearS.mpr ⟨t, ht, .inr ⟨e.1, e.2⟩⟩) mb)
    · intro e
      exact hr (.step .base (mem_nearS.mpr ⟨t, ht, .inl ⟨e.2, e.1⟩⟩) mb)
  rcases Int.lt_or_gt_of_ne hab with g | g
  · exact ⟨a, b, mem_looseL.mpr ⟨ha.1, g, hb.2, fun ht => (hno _ ht).1 ⟨rfl, rfl⟩⟩, h1, h2, hal, hbl, hr⟩
  · refine ⟨b, a, mem_looseL.mpr ⟨hb.1, g, ha.2, fun ht => (hno _ ht).2 ⟨rfl, rfl⟩⟩, h1, h2, hbl, hal, fun h => hr ?_⟩
    have mb : b ∈ othersL n lot := List.mem_filter.mpr ⟨mem_ups.mpr hb, by simpa using hbl⟩
    exact reach_symm mb h
end
def LeastP (n : Nat) (T : List (Int × Int)) (c : Nat) : Prop := (∃ lot, CutIs n T lot ∧ lot.length = c) ∧ ∀ lot, CutIs n T lot → c ≤ lot.length
def FLeast (ds : List PyData) (Q : Sl → Prop) : Prop := ∃ (n : Nat) (T : List (Int × Int)), ds = [webD n T, .int ((n : Int) - 2)] ∧ WebOk n T ∧ 2 ≤ n ∧ n ≤ 7 ∧ (∀ c, LeastP n T c → Q (.d (.int (c : Nat)))) ∧ ((∀ lot, ¬ CutIs n T lot) → Q (.d .none))
def FFindCutX (ds : List PyData) (Q : Sl → Prop) : Prop := ∃ (n : Nat) (T : List (Int × Int)) (k : Int), ds = [webD n T, .int k] ∧ WebOk n T ∧ n ≤ 12 ∧ ((∀ lot, CutIs n T lot → k ≤ (lot.length : Int)) → Q (.d .none)) ∧ ∀ lot, CutIs n T lot → (lot.length : Int) < k → Q (.d (tI lot))
/-- the first of the lots that is a cut is a least one -/
theorem lots_first {n most : Nat} {T : List (Int × Int)} {j : Nat} {lot : List Int} (e : (lotsL n most)[j]? = some lot) (hc : CutIs n T lot) (hno : ∀ i < j, ∀ l, (lotsL n most)[i]? = some l → ¬ CutIs n T l) : LeastP n T lot.length := by
  refine ⟨⟨lot, hc, rfl⟩, fun l hl => ?_⟩
  by_cases hm : l.length ≤ most
  · have hin := mem_lotsL.mpr ⟨hm, hl.1, hl.2.1⟩
    obtain ⟨i, hi, ei⟩ := List.getElem_of_mem hin
    have e2 : (lotsL n most)[i]? = some l := by rw [List.getElem?_eq_getElem hi, ei]
    rcases Nat.lt_trichotomy i j with g | g | g
    · exact absurd hl (hno i g l e2)
    · subst g
      rw [e] at e2
      cases e2
      exact Nat.le_refl _
    · have hp := List.pairwise_iff_getElem.mp (lotsL_up (n := n) (most := most))
      obtain ⟨h1, g1⟩ := List.getElem?_eq_some_iff.mp e
      have := hp j i h1 hi g
      rw [g1, ei] at this
      exact this
  · have := (mem_lotsL.mp (List.mem_of_getElem? e)).1
    omega
end My
set_option Elab.async false
set_option linter.all false
set_option maxRecDepth 100000
set_option maxHeartbeats 4000000
namespace My
open PySem PySem.Spec PyProof.Rows L2
/-! ### papers -/
/-- k ways apart for each pair that is not tied -/
structure PaperP (n : Nat) (T : List (Int × Int)) (k : Nat) (kvs : KVs) : Prop where
  keys : kvs.map (·.1) = (looseL n T).map prI
  vals : ∀ p ∈ kvs, ∃ a b ws, p.1 = prI (a, b) ∧ (a, b) ∈ looseL n T ∧ WaysP n T a b ws ∧ ws.length = k ∧ p.2 = .tuple (ws.map tI)
def FFindPaper (ds : List PyData) (Q : Sl → Prop) : Prop := ∃ (n : Nat) (T : List (Int × Int)) (k : Nat), ds = [webD n T, .int k] ∧ WebOk n T ∧ n ≤ 12 ∧ ((∃ lot, CutIs n T lot ∧ lot.length < k) → Q (.d .none)) ∧ ∀ kvs, PaperP n T k kvs → (∀ lot, CutIs n T lot → k ≤ lot.length) → Q (.nd kvs)
theorem looseL_nd {n : Nat} {T : List (Int × Int)} : (looseL n T).Nodup := by
  unfold looseL
  unfold List.Nodup
  rw [List.pairwise_flatMap]
  refine ⟨fun i _ => ?_, ?_⟩
  · rw [List.pairwise_map]
    refine List.Pairwise.imp (R := (· < ·)) (fun {a b} h e => ?_) (List.Pairwise.filter _ List.pairwise_lt_range)
    have := (Prod.mk.inj e).2
    omega
  · refine List.Pairwise.imp (R := (· < ·)) (fun {a b} h x hx y hy e => ?_) List.pairwise_lt_range
    obtain ⟨_, _, rfl⟩ := List.mem_map.mp hx
    obtain ⟨_, _, rfl⟩ := List.mem_map.mp hy
    have := (Prod.mk.inj e).1
    omega
theorem putK_new {kvs : KVs} {k : List Int} {d : PyData} (h : k ∉ kvs.map (·.1)) : putK kvs k d = kvs ++ [(k, d)] := by
  unfold putK
  rw [if_neg]
  rw [valK_keys, decide_eq_false h]
  decide
end My
set_option Elab.async false
set_option linter.all false
set_option maxRecDepth 100000
set_option maxHeartbeats 4000000
namespace K14
open PySem PySem.Spec PyProof.Rows L2 My
def topS (i : Nat) : Stmt := PySem.Challenge.pw_rootparts_k14_whole_cuts_by_all_lots.main.body.getD i (.Pass ⟨0, 0, 0, 0⟩)
abbrev s_law_spread : Stmt := topS 18
theorem sc_law_spread : FnScope ["cell", "at", "primes", "one", "two", "three"] ["cell", "at"] (defScope s_law_spread) := ⟨rfl, rfl, rfl, by decide +kernel, rfl, by decide +kernel, by decide +kernel⟩
abbrev s_law_take : Stmt := topS 19
theorem sc_law_take : FnScope ["pen", "amount", "at", "cell", "found"] ["pen", "amount"] (defScope s_law_take) := ⟨rfl, rfl, rfl, by decide +kernel, rfl, by decide +kernel, by decide +kernel⟩
abbrev s_law_open : Stmt := topS 17
theorem sc_law_open : FnScope ["script", "cells", "k", "cell"] ["script"] (defScope s_law_open) := ⟨rfl, rfl, rfl, by decide +kernel, rfl, by decide +kernel, by decide +kernel⟩
section
variable {P : Program} {w : World} {K : PySem.W.Frag} {mg : Str → Option Value} {base : Heap}
theorem ok_spread {f : Addr} {fd : FuncData} {k : Nat} (F : Fun K "_law_spread" "_law_spread" s_law_spread f fd) (B : Bn mg) : FnOk P w K mg base CX0 (k + 1) f fd ["cell", "at"] spSpread := by
  refine F.ok sc_law_spread (fun vs H Q E h => ?_) (fun cdv A outer s H vs Q E hr h => ?_)
  · obtain ⟨a, ns, rfl, _⟩ := h
    rfl
  · obtain ⟨cell, i, rfl, i0, i1, q⟩ := h
    refine ⟨_, (pss_cons (ps_if (pt_cmpR op_ge (pv 0) (pe_op op_pow pe_int pe_int) (nomark _)) (pss_one (ps_ret (pv 0))) pss_nil)
      (pss_cons (ps_set (i := 2) sc_law_spread.nd rfl (.inl rfl) (pe_lst (pa_cons pe_int (pa_cons pe_int (pa_cons pe_int (pa_cons pe_int (pa_cons pe_int (pa_cons pe_int (pa_cons pe_int (pa_cons pe_int pa_nil))))))))))
      (pss_cons (ps_set (i := 2) sc_law_spread.nd rfl (.inl rfl) (pe_op op_cat (pv 2) (pe_lst (pa_cons pe_int (pa_cons pe_int (pa_cons pe_int (pa_cons pe_int (pa_cons pe_int pa_nil))))))))
      (pss_cons (ps_set (i := 3) sc_law_spread.nd rfl (.inl rfl) (pe_op op_add (pe_op op_add (pe_op op_mul (pe_op op_mod (pe_callTy call_int1 (by rfl) B.int_ (by decide +kernel) (pa_cons (pv 0) pa_nil)) pe_int) (pe_op op_add (pe_op op_mul pe_int (pv 1)) pe_int)) (pe_op op_mul (pv 1) pe_int)) pe_int))
      (pss_cons (ps_set (i := 3) sc_law_spread.nd rfl (.inl rfl) (pe_op op_mod (pe_callTy call_int1 (by rfl) B.int_ (by decide +kernel) (pa_cons (pe_op op_pow (pv 3) pe_int) pa_nil)) (pe_ix (ixL K) (pv 2) (pe_op op_mod (pe_callTy call_int1 (by rfl) B.int_ (by decide +kernel) (pa_cons (pv 1) pa_nil)) pe_int) (fun _ _ => rfl))))
      (pss_cons (ps_set (i := 4) sc_law_spread.nd rfl (.inl rfl) (pe_op op_mod (pe_callTy call_int1 (by rfl) B.int_ (by decide +kernel) (pa_cons (pe_op op_pow (pe_op op_add (pe_op op_add (pe_op op_mul (pv 3) (pe_op op_add (pv 1) pe_int)) (pe_op op_mod (pe_callTy call_int1 (by rfl) B.int_ (by decide +kernel) (pa_cons (pv 0) pa_nil)) pe_int)) pe_int) pe_int) pa_nil)) (pe_ix (ixL K) (pv 2) (pe_op op_mod (pe_callTy call_int1 (by rfl) B.int_ (by decide +kernel) (pa_cons (pe_op op_add (pv 1) pe_int) pa_nil)) pe_int) (fun _ _ => rfl))))
      (pss_cons (ps_set (i := 5) sc_law_spread.nd rfl (.inl rfl) (pe_op op_mod (pe_callTy call_int1 (by rfl) B.int_ (by decide +kernel) (pa_cons (pe_op op_pow (pe_op op_add (pe_op op_add (pv 4) (pe_op op_mod (pe_callTy call_int1 (by rfl) B.int_ (by decide +kernel) (pa_cons (pv 3) pa_nil)) pe_int)) (pv 1)) pe_int) pa_nil)) (pe_ix (ixL K) (pv 2) (pe_op op_mod (pe_callTy call_int1 (by rfl) B.int_ (by decide +kernel) (pa_cons (pe_op op_add (pv 1) pe_int) pa_nil)) pe_int) (fun _ _ => rfl))))
      (pss_one (ps_ret (pe_op op_add (pe_op op_mul (pe_op op_add (pe_op op_mul (pv 3) pe_int) (pv 4)) pe_int) (pv 5))))))))))), ?_⟩
    refine ⟨_, rfl, 10, 18, rfl, rfl, ⟨by decide, by decide, by decide⟩, cell, _, rfl, rfl, _, rfl, ite2 (fun e => ?_) (fun e => ?_)⟩
    · have hc : (0 : Int) ≤ cell := Int.le_trans (by decide : (0 : Int) ≤ 10 ^ (18 : Int).toNat) (dT e)
      exact ⟨_, rfl, q H cell (Same.refl H) hc⟩
    -- primes
    refine ⟨by show 8 ≤ sizeLine; decide, fun l hl => ?_⟩
    refine ⟨_, rfl, by show 5 ≤ sizeLine; decide, fun l2 hl2 => ?_⟩
    have hne : l ≠ l2 := fun z => by
      rw [← z, upd_same] at hl2
      cases hl2
    refine ⟨l, l2, _, _, rfl, rfl, (upd_ne hne).trans upd_same, upd_same, by show 13 ≤ sizeLine; decide, fun l3 hl3 => ?_⟩
    -- one
    generalize hH : upd (upd (upd H l _) l2 _) l3 _ = H3
    have s3 : Same H H3 := by
      rw [← hH]
      exact (Same.new hl).trans ((Same.new hl2).trans (Same.new hl3))
    have hp : H3 l3 = some (.lst (primes.map V.int)) := by
      rw [← hH]
      exact upd_same
    clear hH hl hl2 hl3 hne
    have a0 : 0 ≤ cell % 1000000007 := Int.emod_nonneg _ (by decide)
    have a1 : cell % 1000000007 < 1000000007 := Int.emod_lt_of_pos _ (by decide)
    have b0 : 0 ≤ cell % 65537 := Int.emod_nonneg _ (by decide)
    have b1 : cell % 65537 < 65537 := Int.emod_lt_of_pos _ (by decide)
    obtain ⟨m0, m1⟩ := mul_bd (B := 2069069) a0 (Int.le_of_lt a1) (show 0 ≤ 2 * i + 69069 by omega) (by omega)
    refine ⟨_, rfl, .inl ⟨cell, rfl, ?_⟩⟩
    refine ⟨_, 1000000007, rfl, rfl, by show (0 : Int) < _; decide, ?_⟩
    refine ⟨_, rfl, 2, i, rfl, rfl, .inl ⟨by decide, by decide⟩, ?_⟩
    refine ⟨2 * i, 69069, rfl, rfl, ?_⟩
    refine ⟨_, _, rfl, rfl, .inl ⟨by omega, by omega⟩, ?_⟩
    refine ⟨_, rfl, i, 40503, rfl, rfl, .inr ⟨by decide, by decide⟩, ?_⟩
    refine ⟨_, _, rfl, rfl, _, 977, rfl, rfl, ?_⟩
    dsimp only
    generalize ho : cell % 1000000007 * (2 * i + 69069) + i * 40503 + 977 = one
    have o0 : 0 ≤ one := by omega
    have o1 : one < 18446744073709551616 := by omega
    -- one = int(one ** 3) % primes[at % 13]
    refine ⟨_, rfl, one, 3, rfl, rfl, ⟨by decide, by decide, by omega⟩, .inl ⟨_, rfl, ?_⟩⟩
    obtain ⟨p1, e1, e10, e11⟩ := prime_at (Int.emod_nonneg i (by decide : (13 : Int) ≠ 0)) (Int.emod_lt_of_pos i (by decide))
    refine ⟨_, rfl, _, rfl, .inl ⟨i, rfl, _, 13, rfl, rfl, by show (0 : Int) < _; decide, l3, _, _, _, rfl, rfl, SqL.of hp, e1, ?_⟩⟩
    refine ⟨_, _, rfl, rfl, e10, ?_⟩
    dsimp only
    generalize ho1 : one ^ (3 : Int).toNat % p1 = one1
    have c0 : 0 ≤ one1 := ho1 ▸ Int.emod_nonneg _ (by omega)
    have c1 : one1 < p1 := ho1 ▸ Int.emod_lt_of_pos _ e10
    -- two
    obtain ⟨n0, n1⟩ := mul_bd (B := 1000003) c0 (show one1 ≤ 2147483648 by omega) (show 0 ≤ i + 3 by omega) (by omega)
    refine ⟨_, rfl, _, rfl, i, 3, rfl, rfl, _, _, rfl, rfl, .inl ⟨by omega, by omega⟩, ?_⟩
    refine ⟨_, rfl, .inl ⟨cell, rfl, _, 65537, rfl, rfl, by show (0 : Int) < _; decide, _, _, rfl, rfl, _, 5, rfl, rfl, ?_⟩⟩
    refine ⟨_, 5, rfl, rfl, ⟨by decide, by decide, by omega⟩, .inl ⟨_, rfl, ?_⟩⟩
    obtain ⟨p2, e2, e20, e21⟩ := prime_at (Int.emod_nonneg (i + 5) (by decide : (13 : Int) ≠ 0)) (Int.emod_lt_of_pos (i + 5) (by decide))
    refine ⟨_, rfl, _, rfl, i, 5, rfl, rfl, .inl ⟨i + 5, rfl, _, 13, rfl, rfl, by show (0 : Int) < _; decide, l3, _, _, _, rfl, rfl, SqL.of hp, e2, ?_⟩⟩
    refine ⟨_, _, rfl, rfl, e20, ?_⟩
    dsimp only
    generalize ho2 : (one1 * (i + 3) + cell % 65537 + 5) ^ (5 : Int).toNat % p2 = two
    have d0 : 0 ≤ two := ho2 ▸ Int.emod_nonneg _ (by omega)
    have d1 : two < p2 := ho2 ▸ Int.emod_lt_of_pos _ e20
    -- three
    have f0 : 0 ≤ one1 % 1009 := Int.emod_nonneg _ (by decide)
    have f1 : one1 % 1009 < 1009 := Int.emod_lt_of_pos _ (by decide)
    refine ⟨_, rfl, _, rfl, .inl ⟨one1, rfl, _, 1009, rfl, rfl, by show (0 : Int) < _; decide, _, _, rfl, rfl, _, rfl, _, i, rfl, rfl, ?_⟩⟩
    refine ⟨_, 3, rfl, rfl, ⟨by decide, by decide, by omega⟩, .inl ⟨_, rfl, ?_⟩⟩
    obtain ⟨p3, e3, e30, e31⟩ := prime_at (Int.emod_nonneg (i + 7) (by decide : (13 : Int) ≠ 0)) (Int.emod_lt_of_pos (i + 7) (by decide))
    refine ⟨_, rfl, _, rfl, i, 7, rfl, rfl, .inl ⟨i + 7, rfl, _, 13, rfl, rfl, by show (0 : Int) < _; decide, l3, _, _, _, rfl, rfl, SqL.of hp, e3, ?_⟩⟩
    refine ⟨_, _, rfl, rfl, e30, ?_⟩
    dsimp only
    generalize ho3 : (two + one1 % 1009 + i) ^ (3 : Int).toNat % p3 = three
    have g0 : 0 ≤ three := ho3 ▸ Int.emod_nonneg _ (by omega)
    -- return
    refine ⟨_, rfl, one1, 2147483647, rfl, rfl, .inr ⟨by decide, by decide⟩, ?_⟩
    refine ⟨_, rfl, one1 * 2147483647, two, rfl, rfl, ?_⟩
    refine ⟨_, 2147483647, rfl, rfl, .inr ⟨by decide, by decide⟩, ?_⟩
    refine ⟨_, rfl, _, three, rfl, rfl, ?_⟩
    exact q _ _ s3 (by omega)
theorem ok_take {f : Addr} {fd : FuncData} {k : Nat} (F : Fun K "_law_take" "_law_take" s_law_take f fd) (B : Bn mg) (D_law_spread : Own P w K mg base "_law_spread" k ["cell", "at"] spSpread) : FnOk P w K mg base CX0 (k + 1) f fd ["pen", "amount"] spTake := by
  refine F.ok sc_law_take (fun vs H Q E h => ?_) (fun cdv A outer s H vs Q E hr h => ?_)
  · obtain ⟨p, c, m, n, rfl, _⟩ := h
    rfl
  · obtain ⟨p, c, m, n, rfl, pen, hn, m0, m1, q⟩ := h
    refine ⟨_, (C8.pss_cut (ps_if (pt_cmpR op_lt (pe_ix (ixL K) (pv 0) pe_int (fun _ _ => rfl)) (pv 1) (nomark _)) (pss_cons (ps_set (i := 2) sc_law_take.nd rfl (.inl rfl) (pe_ix (ixL K) (pv 0) pe_int (fun _ _ => rfl)))
      (pss_cons (ps_set (i := 3) sc_law_take.nd rfl (.inl rfl) pe_int)
      (C8.pss_cut (ps_if (pt_cmpR op_lt (pv 2) (pe_callB (lenQ K) (by rfl) B.len (by decide +kernel) (pa_cons (pe_ix (ixL K) (pv 0) pe_int (fun _ _ => rfl)) pa_nil)) (nomark _)) (pss_one (ps_set (i := 3) sc_law_take.nd rfl (.inl rfl) (pe_ix (ixL K) (pe_ix (ixL K) (pv 0) pe_int (fun _ _ => rfl)) (pv 2) (fun _ _ => rfl)))) (pss_one (ps_if (pt_cmpR op_gt (pe_callB (lenQ K) (by rfl) B.len (by decide +kernel) (pa_cons (pe_ix (ixL K) (pv 0) pe_int (fun _ _ => rfl)) pa_nil)) pe_int (nomark _)) (pss_one (ps_set (i := 3) sc_law_take.nd rfl (.inl rfl) (pe_op op_mod (pe_callTy call_int1 (by rfl) B.int_ (by decide +kernel) (pa_cons (pe_ix (ixL K) (pe_ix (ixL K) (pv 0) pe_int (fun _ _ => rfl)) (pe_op op_mod (pe_callTy call_int1 (by rfl) B.int_ (by decide +kernel) (pa_cons (pe_op op_add (pe_op op_mul (pv 2) pe_int) pe_int) pa_nil)) (pe_callB (lenQ K) (by rfl) B.len (by decide +kernel) (pa_cons (pe_ix (ixL K) (pv 0) pe_int (fun _ _ => rfl)) pa_nil))) (fun _ _ => rfl)) pa_nil)) (pe_op op_add (pe_op op_pow pe_int pe_int) (pv 2))))) pss_nil)))
      (pss_cons (ps_asg (pe_op op_add (pv 2) pe_int) (pg_sub (pv 0) pe_int set_list))
      (pss_one (ps_asg (pe_own D_law_spread hr (by rfl) (pa_cons (pv 3) (pa_cons (pv 2) pa_nil))) (pg_sub (pv 0) pe_int set_list))))))) pss_nil)
      (pss_cons (ps_set (i := 4) sc_law_take.nd rfl (.inl rfl) (pe_op op_mod (pe_callTy call_int1 (by rfl) B.int_ (by decide +kernel) (pa_cons (pe_ix (ixL K) (pv 0) pe_int (fun _ _ => rfl)) pa_nil)) (pv 1)))
      (pss_cons (ps_asg (pe_op op_fdiv (pe_ix (ixL K) (pv 0) pe_int (fun _ _ => rfl)) (pv 1)) (pg_sub (pv 0) pe_int set_list))
      (pss_one (ps_ret (pv 4)))))), ?_⟩
    obtain ⟨cs, i, left, hp, hc, hcs, i0, i1, l0⟩ := pen
    have hpc : c ≠ p := ne_of hc hp (by
      intro z
      injection z with z
      cases cs with
      | nil => cases z
      | cons a r => cases z)
    -- what the rest asks: the pen with some number left
    refine ⟨fun σ H1 => ∃ (x2 x3 x4 : Option V) (j l : Int), σ = [some (.ref p), some (.int m), x2, x3, x4] ∧ H1 p = some (.lst [.ref c, .int j, .int l]) ∧ H1 c = some (.lst (cs.map V.int)) ∧ 0 ≤ j ∧ j ≤ n + 1 ∧ 0 ≤ l ∧ Same (wo p H) (wo p H1), ?_, ?_⟩
    · -- if pen[2] < amount
      refine ⟨_, rfl, p, _, 2, _, rfl, rfl, SqL.of hp, rfl, ?_⟩
      refine ⟨_, rfl, left, m, rfl, rfl, _, rfl, ite2 (fun e => ?_) (fun e => ?_)⟩
      · -- at = pen[1]; cell = 0
        refine ⟨_, rfl, p, _, 1, _, rfl, rfl, SqL.of hp, rfl, ?_⟩
        show (∃ Mid, _)
        refine ⟨fun σ H1 => ∃ (cell : Int), σ = [some (.ref p), some (.int m), some (.int i), some (.int cell), none] ∧ H1 = H, ?_, ?_⟩
        · -- if at < len(pen[0])
          refine ⟨_, rfl, _, rfl, p, _, 0, _, rfl, rfl, SqL.of hp, rfl, c, _, rfl, .inl (SqL.of hc), ?_⟩
          refine ⟨i, _, rfl, rfl, _, rfl, ite2 (fun e2 => ?_) (fun e2 => ?_)⟩
          · have h1 : i < ((cs.map V.int).length : Nat) := dT e2
            rw [List.length_map] at h1
            obtain ⟨z, _, hz⟩ := at_int i0 h1
            exact ⟨_, rfl, p, _, 0, _, rfl, rfl, SqL.of hp, rfl, _, rfl, c, _, i, .int z, rfl, rfl, SqL.of hc, hz, _, rfl, rfl⟩
          · refine ⟨_, rfl, p, _, 0, _, rfl, rfl, SqL.of hp, rfl, c, _, rfl, .inl (SqL.of hc), ?_⟩
            refine ⟨_, 0, rfl, rfl, _, rfl, ite2 (fun e3 => ?_) (fun e3 => ?_)⟩
            · have h3 : (0 : Int) < ((cs.map V.int).length : Nat) := dT e3
              rw [List.length_map] at h3
              have k0 : 0 ≤ (i * 5 + 3) % (cs.length : Int) := Int.emod_nonneg _ (by omega)
              have k1 : (i * 5 + 3) % (cs.length : Int) < cs.length := Int.emod_lt_of_pos _ h3
              -- cell = int(pen[0][int(at * 5 + 3) % len(pen[0])]) % (10 ** 17 + at)
              refine ⟨_, rfl, p, _, 0, _, rfl, rfl, SqL.of hp, rfl, ?_⟩
              refine ⟨_, rfl, i, 5, rfl, rfl, .inr ⟨by decide, by decide⟩, _, 3, rfl, rfl, .inl ⟨_, rfl, ?_⟩⟩
              refine ⟨_, rfl, p, _, 0, _, rfl, rfl, SqL.of hp, rfl, c, _, rfl, .inl (SqL.of hc), ?_⟩
              refine ⟨_, _, rfl, rfl, (by rw [List.length_map]; exact h3), ?_⟩
              dsimp only
              rw [List.length_map]
              obtain ⟨z, _, hz⟩ := at_int k0 k1
              refine ⟨c, _, _, .int z, rfl, rfl, SqL.of hc, hz, .inl ⟨_, rfl, ?_⟩⟩
              · refine ⟨10, 17, rfl, rfl, ⟨by decide, by decide, by decide⟩, _, rfl, _, i, rfl, rfl, _, _, rfl, rfl, ?_, _, rfl, rfl⟩
                have : (0 : Int) < 10 ^ (17 : Int).toNat := by decide
                show (0 : Int) < 10 ^ (17 : Int).toNat + i
                omega
            · exact ⟨0, rfl, rfl⟩
        · rintro σ1 H1 ⟨cell, rfl, rfl⟩
          -- pen[1] = at + 1
          refine ⟨_, rfl, i, 1, rfl, rfl, _, rfl, p, _, 1, 1, rfl, rfl, hp, rfl, ?_⟩
          -- pen[2] = _law_spread(cell, at)
          refine ⟨_, rfl, _, rfl, cell, i, rfl, i0, by omega, fun H2 r s2 r0 => ?_⟩
          have hp2 := s2 _ _ (upd_same (H := H1) (a := p) (o := .lst [.ref c, .int (i + 1), .int left]))
          refine ⟨_, rfl, p, _, 2, 2, rfl, rfl, hp2, rfl, ?_⟩
          refine ⟨_, _, _, i + 1, r, rfl, upd_same, ?_, by omega, by omega, r0, ?_⟩
          · rw [upd_ne hpc]
            exact s2 _ _ ((upd_ne hpc).trans hc)
          · exact (My.Same.put).trans ((My.Same.wo s2).trans My.Same.put)
      · exact ⟨_, _, _, i, left, rfl, hp, hc, i0, by omega, l0, Same.refl _⟩
    · rintro σ1 H1 ⟨x2, x3, x4, j, l, rfl, hp1, hc1, j0, j1, l0', sm⟩
      -- found = int(pen[2]) % amount
      refine ⟨_, rfl, p, _, 2, _, rfl, rfl, SqL.of hp1, rfl, .inl ⟨_, rfl, _, rfl, l, m, rfl, rfl, by show (0 : Int) < m; omega, ?_⟩⟩
      -- pen[2] = pen[2] // amount
      refine ⟨_, rfl, p, _, 2, _, rfl, rfl, SqL.of hp1, rfl, _, rfl, l, m, rfl, rfl, ⟨by show (0 : Int) < m; omega, by show m < 1073741824; omega⟩, ?_⟩
      refine ⟨_, rfl, p, _, 2, 2, rfl, rfl, hp1, rfl, ?_⟩
      refine ⟨_, rfl, q _ _ (Int.emod_nonneg _ (by omega)) (Int.emod_lt_of_pos _ (by omega)) ?_ (sm.trans My.Same.put)⟩
      refine ⟨cs, j, l / m, upd_same, (upd_ne hpc).trans hc1, hcs, j0, by omega, Int.ediv_nonneg l0' (by omega)⟩
theorem ok_open {f : Addr} {fd : FuncData} {k : Nat} (F : Fun K "_law_open" "_law_open" s_law_open f fd) (B : Bn mg) : FnOk P w K mg base CX0 (k + 1) f fd ["script"] (spOpen K) := by
  refine F.ok sc_law_open (fun vs H Q E h => ?_) (fun cdv A outer s H vs Q E hr h => ?_)
  · obtain ⟨p, m, rfl, _⟩ := h
    rfl
  · obtain ⟨a, ns, rfl, hS, hn, q⟩ := h
    refine ⟨_, (pss_cons (ps_set (i := 1) sc_law_open.nd rfl (.inl rfl) (pe_callTy (listOf K) (by rfl) B.list_ (by decide +kernel) (pa_cons (pe_slice (slL K) (pv 0) po_none (po_some pe_int)) pa_nil)))
      (pss_cons (ps_for PassesOwn.never rfl (pi_enumK K (by rfl) B.enumerate (pa_cons (pe_slice (slL K) (pv 0) (po_some pe_int) (po_some pe_int)) pa_nil)) (pg_tupK K 2 (by rfl) (pgs_cons (pg_name (i := 2) sc_law_open.nd rfl (.inl rfl)) (pgs_cons (pg_name (i := 3) sc_law_open.nd rfl (.inl rfl)) pgs_nil))) (pss_one (ps_asg (pe_op op_add (pe_ix (ixL K) (pv 1) (pe_op op_mod (pe_callTy call_int1 (by rfl) B.int_ (by decide +kernel) (pa_cons (pv 2) pa_nil)) pe_int) (fun _ _ => rfl)) (pv 3)) (pg_sub (pv 1) (pe_op op_mod (pe_callTy call_int1 (by rfl) B.int_ (by decide +kernel) (pa_cons (pv 2) pa_nil)) pe_int) set_list))))
      (pss_one (ps_ret (pe_lst (pa_cons (pv 1) (pa_cons pe_int (pa_cons pe_int pa_nil)))))))), ?_⟩
    -- cells = list(script[:12])
    refine ⟨_, rfl, 12, rfl, a, _, rfl, hS, fun c1 n1 => ?_⟩
    refine ⟨c1, _, rfl, .inl (SqL.of upd_same), fun c n2 => ?_⟩
    -- enumerate(script[12:63])
    have s1 : Same H (upd (upd H c1 (.lst (cutV (ns.map V.int) none (some 12)))) c (.lst (cutV (ns.map V.int) none (some 12)))) := (My.Same.new n1).trans (My.Same.new n2)
    refine ⟨_, rfl, 12, rfl, 63, rfl, a, _, rfl, s1.seq hS, fun d n3 => ?_⟩
    have hcut : ∀ lo hi, ∃ cs : List Int, cutV (ns.map V.int) lo hi = cs.map V.int := fun lo hi => by
      unfold cutV
      exact ⟨(ns.drop _).take _, by rw [List.map_take, List.map_drop]⟩
    obtain ⟨cs, ecs⟩ := hcut none (some 12)
    have hlen : cs.length = min 12 ns.length := by
      have := congrArg List.length ecs
      rw [List.length_map] at this
      rw [← this]
      unfold cutV
      rw [List.length_take, List.length_drop, List.length_map, HT.sIx_none]
      rw [show HT.sIx ns.length ns.length (some 12) = min 12 ns.length from HT.sIx_nat ns.length ns.length 12]
      omega
    have hdl : (cutV (ns.map V.int) (some 12) (some 63)).length = ns.length - 12 := by
      unfold cutV
      rw [List.length_take, List.length_drop, List.length_map]
      rw [show HT.sIx ns.length ns.length (some 63) = min 63 ns.length from HT.sIx_nat ns.length ns.length 63, show HT.sIx ns.length 0 (some 12) = min 12 ns.length from HT.sIx_nat ns.length 0 12]
      omega
    obtain ⟨ds, eds⟩ := hcut (some 12) (some 63)
    rw [eds] at hdl
    rw [List.length_map] at hdl
    have n3' := n3
    rw [ecs] at n3'
    have hcd : c ≠ d := fun z => by
      rw [← z, upd_same] at n3
      cases n3
    refine ⟨d, ds.map V.int, rfl, SqL.of (by rw [upd_same, eds]), ?_⟩
    refine for_enumL (xs := ds.map V.int) (fun i σ H1 => ∃ (x2 x3 : Option V) (zs : List Int), σ = [some (.ref a), some (.ref c), x2, x3] ∧ H1 c = some (.lst (zs.map V.int)) ∧ zs.length = cs.length ∧ H1 d = some (.lst (ds.map V.int)) ∧ Same H H1) ?_ ?_ ?_ ?_
    · refine ⟨none, none, cs, rfl, ?_, rfl, by rw [upd_same, eds], s1.trans (My.Same.new n3)⟩
      rw [upd_ne hcd, upd_same, ecs]
    · rintro i σ H1 hi ⟨x2, x3, zs, _, _, _, hd, _⟩
      exact SqL.of hd
    · rintro i x T σ H1 hx ⟨x2, x3, zs, rfl, hc, hz, hd, sm⟩ hT
      have hi : i < ds.length := by
        have := (List.getElem?_eq_some_iff.mp hx).1
        rwa [List.length_map] at this
      have h12 : cs.length = 12 := by omega
      obtain ⟨y, hy⟩ : ∃ y, x = .int y := by
        rw [List.getElem?_map] at hx
        cases e : ds[i]? with
        | none => rw [e] at hx; cases hx
        | some y => rw [e] at hx; exact ⟨y, (Option.some.inj hx).symm⟩
      subst hy
      have sT : Same H1 (upd H1 T (.tup [.int (i : Nat), .int y])) := My.Same.new hT
      have hc2 := sT _ _ hc
      have k0 : 0 ≤ ((i : Nat) : Int) % 12 := Int.emod_nonneg _ (by decide)
      have k1 : ((i : Nat) : Int) % 12 < 12 := Int.emod_lt_of_pos _ (by decide)
      obtain ⟨z, hz1, hz2⟩ := at_int (cs := zs) k0 (by omega)
      refine ⟨T, _, rfl, SqT.of upd_same, rfl, _, _, rfl, _, _, rfl, rfl, ?_⟩
      -- cells[int(k) % 12] + cell
      refine ⟨_, rfl, _, rfl, .inl ⟨_, rfl, _, 12, rfl, rfl, by show (0 : Int) < _; decide, c, _, _, _, rfl, rfl, SqL.of hc2, hz2, ?_⟩⟩
      refine ⟨_, rfl, z, y, rfl, rfl, ?_⟩
      refine ⟨_, rfl, _, rfl, .inl ⟨_, rfl, _, 12, rfl, rfl, by show (0 : Int) < _; decide, c, _, _, (((i : Nat) : Int) % 12).toNat, rfl, rfl, hc2, ?_, ?_⟩⟩
      · unfold ixN
        rw [List.length_map, if_pos k0, if_pos (by omega)]
      · refine ⟨_, _, zs.set (((i : Nat) : Int) % 12).toNat (z + y), rfl, ?_, ?_, ?_, ?_⟩
        · rw [upd_same, set_mapI]
        · rw [List.length_set, hz]
        · rw [upd_ne hcd.symm]
          exact sT _ _ hd
        · intro b o e
          have hb : b ≠ c := ne_of_none e ((My.Same.new n1).free n2)
          rw [upd_ne hb]
          exact sT _ _ (sm _ _ e)
    · rintro σ H1 ⟨x2, x3, zs, rfl, hc, hz, hd, sm⟩
      refine ⟨_, rfl, by show 3 ≤ sizeLine; decide, fun p hp => ?_⟩
      refine q _ p c (sm.trans (My.Same.new hp)) (sm.free hp) ⟨zs, 0, 0, upd_same, ?_, by omega, Int.le_refl 0, Int.le_refl 0, Int.le_refl 0⟩
      rw [upd_ne (ne_of_none hc hp)]
      exact hc
end
end K14
set_option Elab.async false
set_option linter.all false
set_option maxRecDepth 100000
set_option maxHeartbeats 4000000
namespace K14
open PySem PySem.Spec PyProof.Rows L2 My
abbrev s_trail : Stmt := topS 3
theorem sc_trail : FnScope ["came", "last", "row"] ["came", "last"] (defScope s_trail) := ⟨rfl, rfl, rfl, by decide +kernel, rfl, by decide +kernel, by decide +kernel⟩
section
variable {P : Program} {w : World} {K : PySem.W.Frag} {mg : Str → Option Value} {base : Heap}
theorem ok_trail {f : Addr} {fd : FuncData} {m : Nat} (F : Fun K "trail" "trail" s_trail f fd) (B : Bn mg) : FnOk P w K mg base CX0 (m + 1) f fd ["came", "last"] (spS K FTrail) := by
  refine F.ok sc_trail (fun vs H Q E h => spS_len (n := 2) (by rintro zs Q ⟨kvs, x, L, rfl, _⟩; rfl) h) (fun cdv A outer s H vs Q E hr h => ?_)
  refine ⟨_, (pss_cons (ps_set (i := 2) sc_trail.nd rfl (.inl rfl) (pe_lst (pa_cons (pv 1) pa_nil)))
      (pss_cons (ps_while PassesOwn.never (pt_cmpR op_notN (pe_dctGet (K := K) (P := P) (w := w) hr.units (pv 0) (pe_ix (ixL K) (pv 2) (pe_un un_neg pe_int) (fun _ _ => rfl)) (fun _ _ => rfl)) pe_non (nomark _)) (pss_one (ps_expr (pe_bmK K PySem.F.plainAttrs_list PySem.F.slot_list_append PySem.F.type_list_append mt_append (pv 2) (pa_cons (pe_dctGet (K := K) (P := P) (w := w) hr.units (pv 0) (pe_ix (ixL K) (pv 2) (pe_un un_neg pe_int) (fun _ _ => rfl)) (fun _ _ => rfl)) pa_nil)))))
      (pss_one (ps_ret (pe_revL (pv 2)))))), ?_⟩
  refine SS.fnS (SS.seq (SS.set true _ (SE.lst (SA.cons (SE.var _) SA.nil)))
      (SS.seq (SS.while_ (ST.test (SE.op OpOk.notN (SE.dctGet (SE.var _) (SE.op OpOk.ixL (SE.var _) (SE.un UnOk.neg (SE.int _)))) SE.non)) (SS.drop (SE.append _ (SE.dctGet (SE.var _) (SE.op OpOk.ixL (SE.var _) (SE.un UnOk.neg (SE.int _)))))))
      (SS.ret (SE.backL (SE.var _))))) 3 rfl h fun zs Qf hl hf => ?_
  obtain ⟨kvs, x, L, rfl, e0, hL, h5, q⟩ := hf
  refine pSeq_ fun X hX => ⟨_, rfl, leN rfl, rfl, hX _ ?_⟩
  clear hX X
  show pSeq _ _ _ ⟨[.dd kvs, .d (tI x), .ob 0], [.lst [tI x]], 0, 0⟩
  have hpos := (List.getElem?_eq_some_iff.mp e0).1
  refine pSeq_ fun X hX => ⟨fun m s => ∃ i k, m = L.length - i ∧ i < L.length ∧ s = ⟨[.dd kvs, .d (tI x), .ob 0], [.lst ((L.take (i + 1)).map tI)], 0, k⟩, ⟨_, 0, 0, rfl, hpos, ?_⟩, ?_⟩
  · rw [List.take_add_one, e0]
    rfl
  rintro m s ⟨i, k, rfl, hi, rfl⟩
  obtain ⟨y, ey⟩ : ∃ y, L[i]? = some y := ⟨_, List.getElem?_eq_getElem hi⟩
  have hlast : atI ((L.take (i + 1)).map tI) (-1) = some (tI y) := by
    have : (L.take (i + 1)).map tI = (L.take i).map tI ++ [tI y] := by
      rw [List.take_add_one, ey, List.map_append]
      rfl
    rw [this]
    exact at_neg (by simp) (by simp)
  refine ⟨_, _, _, rfl, rfl, hlast, kvs, y, _, rfl, rfl, hL i y ey, rfl, ?_⟩
  cases en : L[i + 1]? with
  | none =>
    have hli : i + 1 = L.length := by
      have := List.getElem?_eq_none_iff.mp en
      omega
    dsimp only [blOf]
    rw [if_neg (by decide)]
    refine hX _ ?_
    clear hX X
    refine ⟨_, rfl, ?_⟩
    show Qf _
    rw [hli, List.take_length, ← List.map_reverse]
    exact q
  | some p =>
    have hLi := hL i y ey
    rw [en] at hLi
    dsimp only [blOf]
    rw [if_pos (show (!My.isNon (Sl.d (optD (some p)))) = true from rfl)]
    refine ⟨_, fun s' h => h, ?_⟩
    have hl2 := (List.getElem?_eq_some_iff.mp en).1
    refine ⟨trivial, _, _, _, rfl, rfl, hlast, kvs, y, _, rfl, rfl, hLi, _, rfl, _, rfl, ?_, ?_⟩
    · rw [List.length_map, List.length_take]
      omega
    refine ⟨_, by omega, i + 1, k + 1, rfl, hl2, ?_⟩
    rw [List.take_add_one (i := i + 1), en, Option.toList_some, List.map_append]
    rfl
end
end K14
set_option Elab.async false
set_option linter.all false
set_option maxRecDepth 100000
set_option maxHeartbeats 4000000
namespace K14
open PySem PySem.Spec PyProof.Rows L2 My
abbrev s_neighbours : Stmt := topS 1
theorem sc_neighbours : FnScope ["web", "place", "ties", "lesser", "greater", "a", "b"] ["web", "place"] (defScope s_neighbours) := ⟨rfl, rfl, rfl, by decide +kernel, rfl, by decide +kernel, by decide +kernel⟩
section
variable {P : Program} {w : World} {K : PySem.W.Frag} {mg : Str → Option Value} {base : Heap}
theorem ok_neighbours {f : Addr} {fd : FuncData} {m : Nat} (F : Fun K "neighbours" "neighbours" s_neighbours f fd) (B : Bn mg) : FnOk P w K mg base CX0 (m + 1) f fd ["web", "place"] (spNbr K) := by
  refine F.ok sc_neighbours (fun vs H Q E h => ?_) (fun cdv A outer s H vs Q E hr h => ?_)
  · obtain ⟨v, n, T, x, rfl, _⟩ := h
    rfl
  · obtain ⟨v, n, T, x, rfl, hv, hT1, q⟩ := h
    obtain ⟨wa, ta, ts, rfl, hW, hTs, lts, get⟩ := hv.web
    refine ⟨_, (pss_cons (ps_set (i := 2) sc_neighbours.nd rfl (.inl rfl) (pe_ix (ixT K) (pv 0) pe_int (fun _ _ => rfl)))
      (pss_cons (ps_setLc (i := 3) (own := [("a", 5), ("b", 6)]) rfl sc_neighbours.nd rfl rfl (sw_true rfl rfl rfl (by decide +kernel)) (pi_tupK K (pv 2)) (blkOk_by (own := [("a", 5), ("b", 6)]) (N := ["web", "place", "ties", "lesser", "greater", "a", "b"]) (sc := (defScope s_neighbours)) (by decide +kernel)) (fun _ _ _ _ _ => (pg_tupK K 2 (by rfl) (pgs_cons (pg_name (i := 5) sc_neighbours.nd rfl (.inl rfl)) (pgs_cons (pg_name (i := 6) sc_neighbours.nd rfl (.inl rfl)) pgs_nil)))) (fun _ _ _ _ _ => (pts_one (pt_cmpR op_eq (pv 6) (pv 1) (nomark _)))) (fun _ _ _ _ _ => (pv 5)))
      (pss_cons (ps_setLc (i := 4) (own := [("a", 5), ("b", 6)]) rfl sc_neighbours.nd rfl rfl (sw_true rfl rfl rfl (by decide +kernel)) (pi_tupK K (pv 2)) (blkOk_by (own := [("a", 5), ("b", 6)]) (N := ["web", "place", "ties", "lesser", "greater", "a", "b"]) (sc := (defScope s_neighbours)) (by decide +kernel)) (fun _ _ _ _ _ => (pg_tupK K 2 (by rfl) (pgs_cons (pg_name (i := 5) sc_neighbours.nd rfl (.inl rfl)) (pgs_cons (pg_name (i := 6) sc_neighbours.nd rfl (.inl rfl)) pgs_nil)))) (fun _ _ _ _ _ => (pts_one (pt_cmpR op_eq (pv 5) (pv 1) (nomark _)))) (fun _ _ _ _ _ => (pv 6)))
      (pss_one (ps_ret (pe_callTy (tupleOf K) (by rfl) B.tuple_ (by decide +kernel) (pa_cons (pe_callB cr_sortedI (by rfl) B.sorted (by decide +kernel) (pa_cons (pe_op op_cat (pv 3) (pv 4)) pa_nil)) pa_nil))))))), ?_⟩
    refine ⟨_, rfl, wa, _, 1, _, rfl, rfl, hW, rfl, ?_⟩
    -- lesser
    refine ⟨_, rfl, ta, rfl, ⟨_, hTs⟩, fun D1 hD1 => ?_⟩
    refine lc_tup (xs := ts) (fun j H3 => Same H H3 ∧ H3 D1 = some (.lst ((((T.take j).filter fun t => decide (t.2 = x)).map (·.1)).map V.int))) ⟨My.Same.new hD1, upd_same⟩ (fun j H3 _ hP => My.Same.sqt hP.1 hTs) ?_ ?_
    · rintro j y H3 ex ⟨s3, eD⟩
      obtain ⟨a, b, t, e1, rfl, ht⟩ := get j y ex
      refine ⟨t, _, rfl, My.Same.sqt s3 ht, rfl, _, _, rfl, _, _, rfl, rfl, rfl, ?_⟩
      refine ⟨_, rfl, _, rfl, rfl, _, rfl, ?_⟩
      rw [dInt_iff (p := b = x) Iff.rfl]
      have hjT : j < T.length := (List.getElem?_eq_some_iff.mp e1).1
      have hl : (((T.take j).filter fun t => decide (t.2 = x)).map (·.1)).length ≤ 1000 := by
        rw [List.length_map]
        have h1 := List.length_filter_le (fun t : Int × Int => decide (t.2 = x)) (T.take j)
        rw [List.length_take] at h1
        omega
      by_cases hb : b = x
      · rw [decide_eq_true hb]
        refine iteT ⟨_, rfl, _, eD, by rw [List.length_map]; exact smallT (by omega), My.Same.updD s3 hD1, ?_⟩
        rw [upd_same, List.take_add_one, e1, List.filter_append, List.map_append, List.map_append]
        show some (HO.lst (_ ++ [V.int a])) = some (HO.lst (_ ++ List.map V.int (List.map _ (List.filter _ [(a, b)]))))
        rw [List.filter_cons_of_pos (by simpa using hb)]
        rfl
      · rw [decide_eq_false hb]
        refine iteF ⟨s3, ?_⟩
        rw [eD, List.take_add_one, e1, List.filter_append, List.map_append, List.map_append]
        show some (HO.lst _) = some (HO.lst (_ ++ List.map V.int (List.map _ (List.filter _ [(a, b)]))))
        rw [List.filter_cons_of_neg (by simpa using hb)]
        simp
    · rintro H1 ⟨s1, eD1⟩
      rw [lts, List.take_length] at eD1
      -- greater
      refine ⟨_, rfl, ta, rfl, ⟨_, My.Same.sqt s1 hTs⟩, fun D2 hD2 => ?_⟩
      refine lc_tup (xs := ts) (fun j H3 => Same H1 H3 ∧ H3 D2 = some (.lst ((((T.take j).filter fun t => decide (t.1 = x)).map (·.2)).map V.int))) ⟨My.Same.new hD2, upd_same⟩ (fun j H3 _ hP => My.Same.sqt (s1.trans hP.1) hTs) ?_ ?_
      · rintro j y H3 ex ⟨s3, eD⟩
        obtain ⟨a, b, t, e1, rfl, ht⟩ := get j y ex
        refine ⟨t, _, rfl, My.Same.sqt (s1.trans s3) ht, rfl, _, _, rfl, _, _, rfl, rfl, rfl, ?_⟩
        refine ⟨_, rfl, _, rfl, rfl, _, rfl, ?_⟩
        rw [dInt_iff (p := a = x) Iff.rfl]
        have hjT : j < T.length := (List.getElem?_eq_some_iff.mp e1).1
        have hl : (((T.take j).filter fun t => decide (t.1 = x)).map (·.2)).length ≤ 1000 := by
          rw [List.length_map]
          have h1 := List.length_filter_le (fun t : Int × Int => decide (t.1 = x)) (T.take j)
          rw [List.length_take] at h1
          omega
        by_cases hb : a = x
        · rw [decide_eq_true hb]
          refine iteT ⟨_, rfl, _, eD, by rw [List.length_map]; exact smallT (by omega), My.Same.updD s3 hD2, ?_⟩
          rw [upd_same, List.take_add_one, e1, List.filter_append, List.map_append, List.map_append]
          show some (HO.lst (_ ++ [V.int b])) = some (HO.lst (_ ++ List.map V.int (List.map _ (List.filter _ [(a, b)]))))
          rw [List.filter_cons_of_pos (by simpa using hb)]
          rfl
        · rw [decide_eq_false hb]
          refine iteF ⟨s3, ?_⟩
          rw [eD, List.take_add_one, e1, List.filter_append, List.map_append, List.map_append]
          show some (HO.lst _) = some (HO.lst (_ ++ List.map V.int (List.map _ (List.filter _ [(a, b)]))))
          rw [List.filter_cons_of_neg (by simpa using hb)]
          simp
      · rintro H2 ⟨s2, eD2⟩
        rw [lts, List.take_length] at eD2
        -- tuple(sorted(lesser + greater))
        have hlen : (nearL T x).length ≤ 2000 := by
          rw [← (nearF_perm x T).length_eq]
          have := nearF_len x T
          omega
        refine ⟨_, rfl, _, rfl, D1, D2, _, _, rfl, rfl, s2 _ _ eD1, eD2, ?_, fun ca hca => ?_⟩
        · have h1 : (nearL T x).length = _ := List.length_append
          rw [List.length_map (f := V.int), List.length_map (f := V.int)]
          exact small (by omega)
        rw [← List.map_append]
        refine ⟨ca, nearL T x, rfl, SqL.of upd_same, fun r sa hr hle hsa => ?_⟩
        have er := sortI_eq hr hle
        subst er
        refine ⟨sa, _, rfl, .inl ⟨SqL.of upd_same, fun ra hra => ?_⟩⟩
        exact q ra _ (s1.trans (s2.trans ((My.Same.new hca).trans ((My.Same.new hsa).trans (My.Same.new hra))))) (SqT.of upd_same)
end
end K14
set_option Elab.async false
set_option linter.all false
set_option maxRecDepth 100000
set_option maxHeartbeats 4000000
namespace K14
open PySem PySem.Spec PyProof.Rows L2 My
abbrev s_next_sides : Stmt := topS 11
theorem sc_next_sides : FnScope ["web", "before", "last", "place", "side", "ahead", "other"] ["web", "before", "last"] (defScope s_next_sides) := ⟨rfl, rfl, rfl, by decide +kernel, rfl, by decide +kernel, by decide +kernel⟩
abbrev s_came_from : Stmt := topS 10
theorem sc_came_from : FnScope ["web", "links", "a", "b", "before", "came", "row", "at", "last", "side", "start", "place"] ["web", "links", "a", "b"] (defScope s_came_from) := ⟨rfl, rfl, rfl, by decide +kernel, rfl, by decide +kernel, by decide +kernel⟩
section
variable {P : Program} {w : World} {K : PySem.W.Frag} {mg : Str → Option Value} {base : Heap}
theorem ok_next_sides {f : Addr} {fd : FuncData} {m : Nat} (F : Fun K "_next_sides" "_next_sides" s_next_sides f fd) (B : Bn mg) {tk1 tk2 : Tok} (B_IN : mg "IN" = some (.int 0 tk1)) (B_OUT : mg "OUT" = some (.int 1 tk2)) (D_neighbours : Own P w K mg base "neighbours" m ["web", "place"] (spNbr K)) : FnOk P w K mg base CX0 (m + 1) f fd ["web", "before", "last"] (spS K FNext) := by
  refine F.ok sc_next_sides (fun vs H Q E h => spS_len (n := 3) (by rintro zs Q ⟨n, T, bf, p, d, rfl, _⟩; rfl) h) (fun cdv A outer s H vs Q E hr h => ?_)
  refine ⟨_, (pss_cons (ps_asg (pv 2) (pg_tupK K 2 (by rfl) (pgs_cons (pg_name (i := 3) sc_next_sides.nd rfl (.inl rfl)) (pgs_cons (pg_name (i := 4) sc_next_sides.nd rfl (.inl rfl)) pgs_nil))))
      (pss_cons (ps_if (pt_cmpR op_eq (pv 4) (pe_glob (v := .int 0) (by rfl) B_IN ⟨_, rfl⟩) (nomark _)) (pss_one (ps_ret (pe_lst (pa_cons (pe_tup (pa_cons (pe_dget2 (lt1 hr.units) (pv 1) (pv 3) (pv 3) ⟨rfl, rfl, rfl, rfl⟩) (pa_cons (pe_glob (v := .int 1) (by rfl) B_OUT ⟨_, rfl⟩) pa_nil))) pa_nil)))) pss_nil)
      (pss_cons (ps_setLc (i := 5) (own := [("other", 6)]) rfl sc_next_sides.nd rfl rfl (sw_true rfl rfl rfl (by decide +kernel)) (pi_tupK K (pe_own D_neighbours hr (by rfl) (pa_cons (pv 0) (pa_cons (pv 3) pa_nil)))) (blkOk_by (own := [("other", 6)]) (N := ["web", "before", "last", "place", "side", "ahead", "other"]) (sc := (defScope s_next_sides)) (by decide +kernel)) (fun _ _ _ _ _ => (pg_name (i := 6) sc_next_sides.nd rfl (.inl rfl))) (fun _ _ _ _ _ => pts_nil) (fun _ _ _ _ _ => (pe_tup (pa_cons (pv 6) (pa_cons (pe_glob (v := .int 0) (by rfl) B_IN ⟨_, rfl⟩) pa_nil)))))
      (C8.pss_cut (ps_if (pt_cmp (pc_din (lt1 hr.units) (pv 3) (pv 1))) (pss_one (ps_expr (pe_bmK K PySem.F.plainAttrs_list PySem.F.slot_list_append PySem.F.type_list_append mt_append (pv 5) (pa_cons (pe_tup (pa_cons (pv 3) (pa_cons (pe_glob (v := .int 0) (by rfl) B_IN ⟨_, rfl⟩) pa_nil))) pa_nil)))) pss_nil)
      (pss_one (ps_ret (pv 5))))))), ?_⟩
  refine SS.fnS (SS.seq (SS.asg (SE.var _) (SG.tup (SGs.cons (SG.name _) (SGs.cons (SG.name _) SGs.nil))))
      (SS.seq (SS.ite (ST.test (SE.op OpOk.eq (SE.var _) (SE.int _))) (SS.ret (SE.lst (SA.cons (SE.tup (SA.cons (SE.diGet2 (SE.var _) (SE.var _) (SE.var _)) (SA.cons (SE.int _) SA.nil))) SA.nil))) SS.next)
      (SS.seq (SS.set true _ (SE.lc (SI.tup (SE.call ClOk.nbr (SA.cons (SE.var _) (SA.cons (SE.var _) SA.nil)))) (SG.name _) ST.yes (SE.tup (SA.cons (SE.var _) (SA.cons (SE.int _) SA.nil))) (by decide)))
      (SS.cut (SS.ite (ST.b (SE.diIn (SE.var _) (SE.var _))) (SS.drop (SE.append _ (SE.tup (SA.cons (SE.var _) (SA.cons (SE.int _) SA.nil))))) SS.next)
      (SS.ret (SE.var _)))))) 7 rfl h fun zs Qf hl hf => ?_
  obtain ⟨n, T, bf, p, d, rfl, hW, n12, hd, q⟩ := hf
  refine pSeq_ fun X hX => ⟨_, rfl, rfl, hX _ ?_⟩
  clear hX X
  refine pSeq_ fun X hX => pIfS_ ⟨_, _, rfl, rfl, rfl, rfl, rfl, ?_⟩
  rw [decI]
  refine blB (fun hc => iteY ?_) (fun hc => iteN (hX _ ?_))
  · refine ⟨_, rfl, _, _, rfl, rfl, _, rfl, leN rfl, _, rfl, leN rfl, ?_⟩
    rw [decide_eq_true_eq] at hc
    have e : (nextS T bf [p, d]).map tI = [tI [(valI bf p).getD p, 1]] := by
      unfold nextS
      dsimp only
      rw [if_pos hc]
      rfl
    rw [e] at q
    exact q
  clear hX X
  have hT := hW.len n12
  rw [decide_eq_false_iff_not] at hc
  have e : (nextS T bf [p, d]).map tI = ((nearS T p).map fun o => tI [o, 0]) ++ (if (valI bf p).isSome = true then [tI [p, 0]] else []) := by
    unfold nextS
    dsimp only
    rw [if_neg hc, List.map_append, List.map_map]
    congr 1
    split <;> rfl
  rw [e] at q
  show pSeq _ _ _ ⟨[.d (webD n T), .di bf, .d (tI [p, d]), .d (.int p), .d (.int d), .no, .no], [], 0, 0⟩
  have hnl := nearS_len12 (x := p) hW n12
  refine pSeq_ fun X hX => ?_
  dsimp only [pSet, pCall, pCons, pNil, pVar, pgName, plainS, List.set_cons_succ, List.set_cons_zero, List.getElem?_cons_succ, List.getElem?_cons_zero]
  refine pLc_all (nearS T p) (fun o => .int o) (fun o => tI [o, 0]) (by omega) none (fun j e => by cases e) (fun R r => ⟨_, rfl, n, T, p, rfl, by omega, noLD_tI _, _, rfl, r⟩) (fun o ho Y hY => ⟨_, rfl, leN rfl, _, rfl, hY⟩) ⟨rfl, hX _ ?_⟩
  clear hX X
  refine ⟨fun s' => ∃ k, s' = ⟨[.d (webD n T), .di bf, .d (tI [p, d]), .d (.int p), .d (.int d), .ob 0, .no], [.lst (((nearS T p).map fun o => tI [o, 0]) ++ (if (valI bf p).isSome = true then [tI [p, 0]] else []))], 0, k⟩, ?_, ?_⟩
  · refine pIfS_ ⟨bf, p, rfl, rfl, ?_⟩
    refine blB (fun hs => iteY ?_) (fun hs => iteN ?_)
    · rw [if_pos hs]
      refine ⟨trivial, _, rfl, leN rfl, _, rfl, _, rfl, by rw [List.length_map]; omega, 1, rfl⟩
    · rw [if_neg (by rw [hs]; decide), List.append_nil]
      exact ⟨0, rfl⟩
  · rintro s' ⟨k, rfl⟩
    exact q
theorem ok_came_from {f : Addr} {fd : FuncData} {m : Nat} (F : Fun K "_came_from" "_came_from" s_came_from f fd) (B : Bn mg) {tk1 tk2 : Tok} (B_IN : mg "IN" = some (.int 0 tk1)) (B_OUT : mg "OUT" = some (.int 1 tk2)) (D_next_sides : Own P w K mg base "_next_sides" m ["web", "before", "last"] (spS K FNext)) : FnOk P w K mg base CX0 (m + 1) f fd ["web", "links", "a", "b"] (spD K FCameS) := by
  refine F.ok sc_came_from (fun vs H Q E h => spD_len (n := 4) (by rintro ds Q ⟨n, T, links, a, b, rfl, _⟩; rfl) h) (fun cdv A outer s H vs Q E hr h => ?_)
  refine ⟨_, (pss_cons (ps_setDc (i := 4) (own := [("start", 10), ("place", 11)]) rfl sc_came_from.nd rfl rfl (sw_trueD rfl rfl rfl (by decide +kernel)) (pi_listK K (pv 1)) (blkOk_by (own := [("start", 10), ("place", 11)]) (N := ["web", "links", "a", "b", "before", "came", "row", "at", "last", "side", "start", "place"]) (sc := (defScope s_came_from)) (by decide +kernel)) (fun _ _ _ _ _ => (pg_tupK K 2 (by rfl) (pgs_cons (pg_name (i := 10) sc_came_from.nd rfl (.inl rfl)) (pgs_cons (pg_name (i := 11) sc_came_from.nd rfl (.inl rfl)) pgs_nil)))) (fun _ _ _ _ _ => (pts_one (pt_cmpR op_ne (pv 11) (pv 3) (nomark _)))) (fun _ _ _ _ _ => (pv 11)) (fun _ _ _ _ _ => (pv 10)))
      (pss_cons (ps_set (i := 5) sc_came_from.nd rfl (.inl rfl) (pe_dct1 (K := K) (P := P) (w := w) hr.units (pe_tup (pa_cons (pv 2) (pa_cons (pe_glob (v := .int 1) (by rfl) B_OUT ⟨_, rfl⟩) pa_nil))) pe_non))
      (pss_cons (ps_set (i := 6) sc_came_from.nd rfl (.inl rfl) (pe_lst (pa_cons (pe_tup (pa_cons (pv 2) (pa_cons (pe_glob (v := .int 1) (by rfl) B_OUT ⟨_, rfl⟩) pa_nil))) pa_nil)))
      (pss_cons (ps_set (i := 7) sc_came_from.nd rfl (.inl rfl) pe_int)
      (pss_cons (ps_while PassesOwn.never (pt_cmpR op_lt (pv 7) (pe_callB (lenQ K) (by rfl) B.len (by decide +kernel) (pa_cons (pv 6) pa_nil)) (nomark _)) (pss_cons (ps_set (i := 8) sc_came_from.nd rfl (.inl rfl) (pe_ix (ixL K) (pv 6) (pv 7) (fun _ _ => rfl)))
      (pss_cons (ps_for PassesOwn.never rfl (pi_listK K (pe_own D_next_sides hr (by rfl) (pa_cons (pv 0) (pa_cons (pv 4) (pa_cons (pv 8) pa_nil))))) (pg_name (i := 9) sc_came_from.nd rfl (.inl rfl)) (pss_one (ps_if (pt_cmpR (notInDct (K := K) (P := P) (w := w) hr.units) (pv 9) (pv 5) (by rfl)) (pss_cons (ps_asg (pv 8) (pg_sub (pv 5) (pv 9) (setDct (K := K) (P := P) (w := w) hr.units)))
      (pss_one (ps_expr (pe_bmK K PySem.F.plainAttrs_list PySem.F.slot_list_append PySem.F.type_list_append mt_append (pv 6) (pa_cons (pv 9) pa_nil))))) pss_nil)))
      (pss_one (ps_aug (i := 7) sc_came_from.nd rfl (.inl rfl) pe_int ip_add)))))
      (pss_one (ps_ret (pv 5)))))))), ?_⟩
  refine SS.fn (SS.seq (SS.set false _ (SE.dc (SI.lst (SE.var _)) (SG.tup (SGs.cons (SG.name _) (SGs.cons (SG.name _) SGs.nil))) (ST.test (SE.op OpOk.ne (SE.var _) (SE.var _))) (SE.var _) (SE.var _) (by decide)))
      (SS.seq (SS.set true _ (SE.dct1 (SE.tup (SA.cons (SE.var _) (SA.cons (SE.int _) SA.nil))) SE.non))
      (SS.seq (SS.set true _ (SE.lst (SA.cons (SE.tup (SA.cons (SE.var _) (SA.cons (SE.int _) SA.nil))) SA.nil)))
      (SS.seq (SS.set false _ (SE.int _))
      (SS.seq (SS.while_ (ST.test (SE.op OpOk.lt (SE.var _) (SE.cb CbOk.len (SA.cons (SE.var _) SA.nil)))) (SS.seq (SS.set false _ (SE.op OpOk.ixL (SE.var _) (SE.var _)))
      (SS.seq (SS.for_ (SI.lst (SE.call ClOk.s (SA.cons (SE.var _) (SA.cons (SE.var _) (SA.cons (SE.var _) SA.nil))))) (SG.name _) (SS.ite (ST.test (SE.op OpOk.inDct (SE.var _) (SE.var _))) (SS.seq (SS.setKey _ (SE.var _) (SE.var _))
      (SS.drop (SE.append _ (SE.var _)))) SS.next))
      (SS.aug _ (SE.int _)))))
      (SS.ret (SE.var _))))))) 12 rfl h fun ds Qf hl hf => ?_
  obtain ⟨n, T, links, a, b, rfl, hW, n12, ha, hLk, q⟩ := hf
  have hbin := bef_in (b := b) hLk
  refine pSeq_ fun X hX => ?_
  show pSet _ _ _ _ ⟨[.d (webD n T), .d (.list (links.map fun t => tI (prI t))), .d (.int a), .d (.int b), .no, .no, .no, .no, .no, .no, .no, .no], [], 0, 0⟩
  dsimp only [pSet, pVar, List.getElem?_cons_succ, List.getElem?_cons_zero]
  refine ⟨_, rfl, by rw [List.length_map]; have := hLk.1; omega, fun i acc s2 => acc = befI b (links.take i) ∧ s2 = ⟨[.d (webD n T), .d (.list (links.map fun t => tI (prI t))), .d (.int a), .d (.int b), .no, .no, .no, .no, .no, .no, .no, .no], [], 0, 0⟩, ⟨rfl, rfl⟩, fun _ _ _ _ j e => (by cases e), ?_, ?_⟩
  · rintro i d acc s2 ed ⟨rfl, rfl⟩ _
    obtain ⟨l, el, rfl⟩ := map_at ed
    have en : befI b (links.take (i + 1)) = if l.2 = b then befI b (links.take i) else putI (befI b (links.take i)) l.2 l.1 := by
      rw [List.take_add_one, el]
      exact befI_snoc
    refine ⟨_, rfl, rfl, _, _, rfl, rfl, rfl, rfl, rfl, ?_⟩
    rw [decI]
    refine blB (fun hc => iteY ?_) (fun hc => iteN ?_)
    · refine ⟨l.2, l.1, rfl, rfl, ?_, rfl⟩
      rw [en, if_neg (by simpa using hc)]
    · refine ⟨?_, rfl⟩
      rw [en, if_pos (by simpa using hc)]
  rintro acc s2 ⟨rfl, rfl⟩ _
  rw [List.length_map, List.take_length]
  refine hX _ ?_
  clear hX X
  refine pSeq_ fun X hX => ⟨_, rfl, leN rfl, [a, 1], _, rfl, rfl, rfl, hX _ ?_⟩
  clear hX X
  refine pSeq_ fun X hX => ⟨_, rfl, leN rfl, _, rfl, leN rfl, rfl, hX _ ?_⟩
  clear hX X
  refine pSeq_ fun X hX => hX _ ?_
  clear hX X
  generalize hbf : befI b links = bf at hbin q ⊢
  have hs0 : SideOk n [a, 1] := ⟨a, 1, rfl, ha, .inr rfl⟩
  have stand : ∀ {row : List (List Int)} {par : List Int → Option (List Int)} {dep : List Int → Nat} {i m : Nat}, Bfs (nextS T bf) [a, 1] row par dep i m → (∀ x ∈ row, SideOk n x) ∧ row.length ≤ 24 := fun {row par dep i m} hB => by
    have h1 := hB.all (p := SideOk n) hs0 fun x y hx hy => nextS_ok hW hbin hx hy
    have h2 := nodup_len hB.nd fun x hx => side_mem (h1 x hx)
    rw [sidesL_len] at h2
    exact ⟨h1, by omega⟩
  show pSeq _ _ _ ⟨[.d (webD n T), .d (.list (links.map fun t => tI (prI t))), .d (.int a), .d (.int b), .di bf, .ob 0, .ob 1, .d (.int 0), .no, .no, .no, .no], [.dct [([a, 1], .none)], .lst [tI [a, 1]]], 0, 0⟩
  refine pSeq_ fun X hX => ⟨fun m s => ∃ i row par dep l y k, m = 24 - i ∧ Bfs (nextS T bf) [a, 1] row par dep i 0 ∧ s = ⟨[.d (webD n T), .d (.list (links.map fun t => tI (prI t))), .d (.int a), .d (.int b), .di bf, .ob 0, .ob 1, .d (.int (i : Nat)), l, y, .no, .no], [.dct (cameL row par), .lst (row.map tI)], 0, k⟩, ⟨_, 0, [[a, 1]], fun _ => none, fun _ => 0, _, _, 0, rfl, Bfs.start, rfl⟩, ?_⟩
  rintro m s ⟨i, row, par, dep, l, y, k, rfl, hB, rfl⟩
  obtain ⟨hok, hlen⟩ := stand hB
  refine ⟨_, _, _, rfl, rfl, ?_⟩
  rw [List.length_map]
  dsimp only [fLt, fI]
  by_cases hi : i < row.length
  · refine blT (c := decide ((i : Int) < ((row.length : Nat) : Int))) (decide_eq_true (by omega)) ?_
    rw [if_pos rfl]
    obtain ⟨x, ex⟩ : ∃ x, row[i]? = some x := ⟨_, List.getElem?_eq_getElem hi⟩
    obtain ⟨p, dd, rfl, hp, hdd⟩ := hok x (List.mem_of_getElem? ex)
    refine ⟨_, fun s' h => h, ?_⟩
    refine pSeq_ fun X hX => ⟨_, _, _, rfl, rfl, atI_nat (j := i) (by rw [List.getElem?_map, ex]; rfl), hX _ ?_⟩
    clear hX X
    dsimp only [plainS, List.set_cons_succ, List.set_cons_zero]
    refine pSeq_ fun X hX => pFor_ ((nextS T bf [p, dd]).map tI) (fun j s => ∃ row par dep y k, Bfs (nextS T bf) [a, 1] row par dep i j ∧ row[i]? = some [p, dd] ∧ s = ⟨[.d (webD n T), .d (.list (links.map fun t => tI (prI t))), .d (.int a), .d (.int b), .di bf, .ob 0, .ob 1, .d (.int (i : Nat)), .d (tI [p, dd]), y, .no, .no], [.dct (cameL row par), .lst (row.map tI)], 0, k⟩) none (fun _ _ _ j e => by cases e) (fun R r => ⟨fun y hy => ?_, n, T, bf, p, dd, rfl, hW, n12, hdd, _, rfl, r⟩) ⟨row, par, dep, _, _, hB, ex, rfl⟩ ?_ ?_
    · simp only [List.mem_cons, List.not_mem_nil, or_false] at hy
      rcases hy with rfl | rfl | rfl <;> trivial
    · rintro j d s2 ed ⟨row, par, dep, y, k, hB, ex, rfl⟩
      obtain ⟨x', ex', rfl⟩ := map_at ed
      dsimp only [pgName, plainS, List.set_cons_succ, List.set_cons_zero]
      refine pIfS_ ⟨x', cameL row par, rfl, rfl, ?_⟩
      rw [valK_some]
      by_cases hm : x' ∈ row
      · refine blF (c := !decide (x' ∈ row)) (by rw [decide_eq_true hm]; rfl) ?_
        dsimp only
        rw [if_neg (by decide)]
        exact ⟨row, par, dep, _, k, hB.old ex ex' hm, ex, rfl⟩
      · refine blT (c := !decide (x' ∈ row)) (by rw [decide_eq_false hm]; rfl) ?_
        dsimp only
        rw [if_pos rfl]
        have hlen2 := (stand hB).2
        refine pSeq_ fun X hX => ⟨trivial, _, _, rfl, rfl, by rw [cameL_len]; omega, hX _ ?_⟩
        clear hX X
        rw [putK_came hm]
        refine ⟨trivial, _, rfl, _, rfl, by rw [List.length_map]; omega, ?_⟩
        refine ⟨row ++ [x'], _, _, .d (tI x'), k + 1 + 1, hB.new ex ex' hm, by rw [List.getElem?_append_left (List.getElem?_eq_some_iff.mp ex).1]; exact ex, ?_⟩
        rw [List.map_append]
        rfl
    · rintro s2 ⟨row, par, dep, y, k, hB, ex, rfl⟩
      rw [List.length_map] at hB
      refine hX _ ?_
      clear hX X
      refine ⟨_, rfl, _, by omega, i + 1, row, par, dep, _, _, k, rfl, hB.next ex (Nat.le_refl _), rfl⟩
  · refine blF (c := decide ((i : Int) < ((row.length : Nat) : Int))) (decide_eq_false (by omega)) ?_
    rw [if_neg (by decide)]
    have e : i = row.length := by have := hB.le; omega
    subst e
    refine hX _ ?_
    exact q row par dep hB
end
end K14
set_option Elab.async false
set_option linter.all false
set_option maxRecDepth 100000
set_option maxHeartbeats 4000000
namespace K14
open PySem PySem.Spec PyProof.Rows L2 My
abbrev s_with_way : Stmt := topS 12
theorem sc_with_way : FnScope ["links", "sides", "added", "taken", "place", "side", "other", "_", "link"] ["links", "sides"] (defScope s_with_way) := ⟨rfl, rfl, rfl, by decide +kernel, rfl, by decide +kernel, by decide +kernel⟩
abbrev s_most_links : Stmt := topS 9
theorem sc_most_links : FnScope ["web", "a", "b", "links", "came"] ["web", "a", "b"] (defScope s_most_links) := ⟨rfl, rfl, rfl, by decide +kernel, rfl, by decide +kernel, by decide +kernel⟩
section
variable {P : Program} {w : World} {K : PySem.W.Frag} {mg : Str → Option Value} {base : Heap}
theorem ok_with_way {f : Addr} {fd : FuncData} {m : Nat} (F : Fun K "_with_way" "_with_way" s_with_way f fd) (B : Bn mg) {tk1 tk2 : Tok} (B_IN : mg "IN" = some (.int 0 tk1)) (B_OUT : mg "OUT" = some (.int 1 tk2)) : FnOk P w K mg base CX0 (m + 1) f fd ["links", "sides"] (spD K FWithWay) := by
  refine F.ok sc_with_way (fun vs H Q E h => spD_len (n := 2) (by rintro ds Q ⟨links, L, rfl, _⟩; rfl) h) (fun cdv A outer s H vs Q E hr h => ?_)
  refine ⟨_, (pss_cons (ps_set (i := 2) sc_with_way.nd rfl (.inl rfl) (pe_lst pa_nil))
      (pss_cons (ps_set (i := 3) sc_with_way.nd rfl (.inr rfl) (pe_lst pa_nil))
      (pss_cons (ps_for PassesOwn.never rfl (pi_zipK K (by rfl) B.zip (pa_cons (pv 1) (pa_cons (pe_slice (slL K) (pv 1) (po_some pe_int) po_none) pa_nil))) (pg_tupK K 2 (by rfl) (pgs_cons (pg_tupK K 2 (by rfl) (pgs_cons (pg_name (i := 4) sc_with_way.nd rfl (.inl rfl)) (pgs_cons (pg_name (i := 5) sc_with_way.nd rfl (.inl rfl)) pgs_nil))) (pgs_cons (pg_tupK K 2 (by rfl) (pgs_cons (pg_name (i := 6) sc_with_way.nd rfl (.inl rfl)) (pgs_cons (pg_name (i := 7) sc_with_way.nd rfl (.inl rfl)) pgs_nil))) pgs_nil))) (C8.pss_cut (ps_if ((pw_and (pt_cmpR op_ne (pv 4) (pv 6) (nomark _)) (pw_and1 (pt_cmpR op_eq (pv 5) (pe_glob (v := .int 1) (by rfl) B_OUT ⟨_, rfl⟩) (nomark _))))).pt (pss_one (ps_expr (pe_bmK K PySem.F.plainAttrs_list PySem.F.slot_list_append PySem.F.type_list_append mt_append (pv 2) (pa_cons (pe_tup (pa_cons (pv 4) (pa_cons (pv 6) pa_nil))) pa_nil)))) pss_nil)
      (pss_one (ps_if ((pw_and (pt_cmpR op_ne (pv 4) (pv 6) (nomark _)) (pw_and1 (pt_cmpR op_eq (pv 5) (pe_glob (v := .int 0) (by rfl) B_IN ⟨_, rfl⟩) (nomark _))))).pt (pss_one (ps_expr (pe_bmK K PySem.F.plainAttrs_list PySem.F.slot_list_append PySem.F.type_list_append mt_append (pv 3) (pa_cons (pe_tup (pa_cons (pv 6) (pa_cons (pv 4) pa_nil))) pa_nil)))) pss_nil))))
      (pss_one (ps_ret (pe_op op_cat (pe_lc (own := [("link", 8)]) (by rfl) sc_with_way.nd (pi_listK K (pv 0)) (blkOk_by (own := [("link", 8)]) (N := ["links", "sides", "added", "taken", "place", "side", "other", "_", "link"]) (sc := (defScope s_with_way)) (by decide +kernel)) (fun _ _ _ _ _ => (pg_name (i := 8) sc_with_way.nd rfl (.inl rfl))) (fun _ _ _ _ _ => (pts_one (pt_cmpR (notInDL K hr.units) (pv 8) (pv 3) (by rfl)))) (fun _ _ _ _ _ => (pv 8))) (pv 2))))))), ?_⟩
  refine SS.fn (SS.seq (SS.set true _ (SE.lst SA.nil))
      (SS.seq (SS.set true _ (SE.lst SA.nil))
      (SS.seq (SS.for_ (SI.zip (SA.cons (SE.var _) (SA.cons (SE.slL (SE.var _) (SO.part (SE.int _)) SO.no) SA.nil))) (SG.tup (SGs.cons (SG.tup (SGs.cons (SG.name _) (SGs.cons (SG.name _) SGs.nil))) (SGs.cons (SG.tup (SGs.cons (SG.name _) (SGs.cons (SG.name _) SGs.nil))) SGs.nil))) (SS.cut (SS.ite (ST.and (ST.test (SE.op OpOk.ne (SE.var _) (SE.var _))) (ST.test (SE.op OpOk.eq (SE.var _) (SE.int _)))) (SS.drop (SE.append _ (SE.tup (SA.cons (SE.var _) (SA.cons (SE.var _) SA.nil))))) SS.next)
      (SS.ite (ST.and (ST.test (SE.op OpOk.ne (SE.var _) (SE.var _))) (ST.test (SE.op OpOk.eq (SE.var _) (SE.int _)))) (SS.drop (SE.append _ (SE.tup (SA.cons (SE.var _) (SA.cons (SE.var _) SA.nil))))) SS.next)))
      (SS.ret (SE.op OpOk.catL (SE.lc (SI.lst (SE.var _)) (SG.name _) (ST.test (SE.op OpOk.notInO (SE.var _) (SE.var _))) (SE.var _) (by decide)) (SE.var _)))))) 9 rfl h fun ds Qf hl hf => ?_
  obtain ⟨links, L, rfl, h200, h100, hsd, q⟩ := hf
  refine pSeq_ fun X hX => ⟨_, rfl, leN rfl, rfl, hX _ ?_⟩
  clear hX X
  refine pSeq_ fun X hX => ⟨_, rfl, leN rfl, rfl, hX _ ?_⟩
  clear hX X
  show pSeq _ _ _ ⟨[.d (.list (links.map linkD)), .d (.list (L.map tI)), .ob 0, .ob 1, .no, .no, .no, .no, .no], [.lst [], .lst []], 0, 0⟩
  have ez : zipD (L.map tI) (cutD (L.map tI) (some ((1 : Nat) : Int)) none) = (L.zip (L.drop 1)).map fun q => .tuple [tI q.1, tI q.2] := by
    by_cases h1 : 1 ≤ L.length
    · rw [cutD_drop (by rw [List.length_map]; omega), ← List.map_drop]
      unfold zipD
      rw [List.zip_map, List.map_map]
      rfl
    · have : L = [] := List.length_eq_zero_iff.mp (by omega)
      subst this
      rfl
  refine pSeq_ fun X hX => pFor_ ((L.zip (L.drop 1)).map fun q => .tuple [tI q.1, tI q.2]) (fun i s => ∃ x4 x5 x6 x7 k, s = ⟨[.d (.list (links.map linkD)), .d (.list (L.map tI)), .ob 0, .ob 1, x4, x5, x6, x7, .no], [.lst ((addL (L.take (i + 1))).map linkD), .lst ((tknL (L.take (i + 1))).map linkD)], 0, k⟩) none (fun _ _ _ j e => by cases e) (fun R r => ⟨_, rfl, _, _, _, _, _, rfl, rfl, rfl, rfl, rfl, by rw [← ez] at r; exact r⟩) ⟨.no, .no, .no, .no, 0, ?_⟩ ?_ ?_
  · have e1 : addL (L.take (0 + 1)) = [] := by cases L <;> rfl
    have e2 : tknL (L.take (0 + 1)) = [] := by cases L <;> rfl
    rw [e1, e2]
    rfl
  · rintro i d s2 ed ⟨x4, x5, x6, x7, k, rfl⟩
    obtain ⟨qq, eq, rfl⟩ := map_at ed
    obtain ⟨e1, e2⟩ := List.getElem?_zip_eq_some.mp eq
    rw [List.getElem?_drop, Nat.add_comm] at e2
    obtain ⟨u, v⟩ := qq
    dsimp only at e1 e2 ⊢
    have hA := along_take (f := stepA) e1 e2
    have hT := along_take (f := stepT) e1 e2
    obtain ⟨p, d, rfl, hd⟩ := hsd u (List.mem_of_getElem? e1)
    obtain ⟨p2, d2, rfl, hd2⟩ := hsd v (List.mem_of_getElem? e2)
    have hlA := along_len (f := stepA) (fun _ _ => stepA_len) (L := L.take (i + 1))
    have hlT := along_len (f := stepT) (fun _ _ => stepT_len) (L := L.take (i + 1))
    rw [List.length_take] at hlA hlT
    refine ⟨_, rfl, rfl, _, rfl, rfl, _, rfl, rfl, ?_⟩
    refine ⟨fun s' => ∃ k, s' = ⟨[.d (.list (links.map linkD)), .d (.list (L.map tI)), .ob 0, .ob 1, .d (.int p), .d (.int d), .d (.int p2), .d (.int d2), .no], [.lst ((addL (L.take (i + 1 + 1))).map linkD), .lst ((tknL (L.take (i + 1))).map linkD)], 0, k⟩, ?_, ?_⟩
    · have hadd : addL (L.take (i + 1 + 1)) = addL (L.take (i + 1)) ++ (if p ≠ p2 ∧ d = 1 then [(p, p2)] else []) := hA
      refine pIfS_ ⟨_, _, rfl, rfl, rfl, rfl, rfl, ?_⟩
      rw [decI]
      refine blB (fun hc => iteY ?_) (fun hc => iteN ?_)
      · have hc : p ≠ p2 := by simpa using hc
        refine ⟨_, _, rfl, rfl, rfl, rfl, rfl, ?_⟩
        rw [decI]
        refine blB (fun hc2 => iteY ?_) (fun hc2 => iteN ?_)
        · rw [hadd, if_pos ⟨hc, of_decide_eq_true hc2⟩]
          refine ⟨trivial, _, rfl, leN rfl, _, rfl, _, rfl, ?_, k + 1, ?_⟩
          · rw [List.length_map]
            show (alongL stepA _).length < 10000
            omega
          · rw [List.map_append]
            rfl
        · rw [hadd, if_neg (fun z => absurd z.2 (of_decide_eq_false hc2)), List.append_nil]
          exact ⟨k, rfl⟩
      · rw [hadd, if_neg (fun z => absurd z.1 (by simpa using hc)), List.append_nil]
        exact ⟨k, rfl⟩
    · rintro s' ⟨k, rfl⟩
      have htk : tknL (L.take (i + 1 + 1)) = tknL (L.take (i + 1)) ++ (if p ≠ p2 ∧ d = 0 then [(p2, p)] else []) := hT
      refine pIfS_ ⟨_, _, rfl, rfl, rfl, rfl, rfl, ?_⟩
      rw [decI]
      refine blB (fun hc => iteY ?_) (fun hc => iteN ?_)
      · have hc : p ≠ p2 := by simpa using hc
        refine ⟨_, _, rfl, rfl, rfl, rfl, rfl, ?_⟩
        rw [decI]
        refine blB (fun hc2 => iteY ?_) (fun hc2 => iteN ?_)
        · refine ⟨trivial, _, rfl, leN rfl, _, rfl, _, rfl, ?_, .d (.int p), .d (.int d), .d (.int p2), .d (.int d2), k + 1, ?_⟩
          · rw [List.length_map]
            show (alongL stepT _).length < 10000
            omega
          · rw [htk, if_pos ⟨hc, of_decide_eq_true hc2⟩, List.map_append]
            rfl
        · rw [htk, if_neg (fun z => absurd z.2 (of_decide_eq_false hc2)), List.append_nil]
          exact ⟨_, _, _, _, k, rfl⟩
      · rw [htk, if_neg (fun z => absurd z.1 (by simpa using hc)), List.append_nil]
        exact ⟨_, _, _, _, k, rfl⟩
  · rintro s2 ⟨x4, x5, x6, x7, k, rfl⟩
    refine hX _ ?_
    clear hX X
    have eA : L.take (((L.zip (L.drop 1)).map fun q => PyData.tuple [tI q.1, tI q.2]).length + 1) = L := by
      rw [List.length_map, List.length_zip, List.length_drop]
      by_cases h1 : 1 ≤ L.length
      · rw [show min L.length (L.length - 1) + 1 = L.length by omega, List.take_length]
      · rw [List.take_of_length_le (by omega)]
    rw [eA]
    have hlA := along_len (f := stepA) (fun _ _ => stepA_len) (L := L)
    have hlT := along_len (f := stepT) (fun _ _ => stepT_len) (L := L)
    dsimp only [pRet, pOp, pVar, pgName, plainS, List.set_cons_succ, List.set_cons_zero, List.getElem?_cons_succ, List.getElem?_cons_zero]
    refine pLc_fun links linkD (fun l => !decide (l ∈ tknL L)) linkD (by omega) none (fun j e => by cases e) (fun R r => ⟨_, rfl, r⟩) (fun l hl Y G hY hG => ?_) ?_
    · refine ⟨prI l, (tknL L).map prI, rfl, ?_, by unfold prI; simp, ?_, fun x hx => ?_, ?_⟩
      · show some (true, (tknL L).map linkD) = some (true, ((tknL L).map prI).map tI)
        rw [List.map_map]
        rfl
      · rw [List.length_map]
        show (alongL stepT _).length ≤ _
        omega
      · obtain ⟨t, _, rfl⟩ := List.mem_map.mp hx
        unfold prI
        simp
      · rw [show decide (prI l ∈ (tknL L).map prI) = decide (l ∈ tknL L) from decide_eq_decide.mpr mem_prI]
        refine blB (fun hc => ?_) (fun hc => ?_)
        · dsimp only
          rw [if_pos rfl]
          exact ⟨_, rfl, hY hc⟩
        · dsimp only
          rw [if_neg (by decide)]
          exact hG hc
    · refine ⟨_, _, rfl, rfl, ?_, ?_⟩
      · rw [List.length_map, List.length_map]
        have h1 := List.length_filter_le (fun l => !decide (l ∈ tknL L)) links
        have h2 : (addL L).length ≤ L.length := hlA
        omega
      · unfold withL at q
        rw [List.map_append] at q
        exact q
theorem ok_most_links {f : Addr} {fd : FuncData} {m : Nat} (F : Fun K "_most_links" "_most_links" s_most_links f fd) (B : Bn mg) {tk1 : Tok} (B_IN : mg "IN" = some (.int 0 tk1)) (D_came_from : Own P w K mg base "_came_from" m ["web", "links", "a", "b"] (spD K FCameS)) (D_trail : Own P w K mg base "trail" m ["came", "last"] (spS K FTrail)) (D_with_way : Own P w K mg base "_with_way" m ["links", "sides"] (spD K FWithWay)) : FnOk P w K mg base CX0 (m + 1) f fd ["web", "a", "b"] (spD K FMost) := by
  refine F.ok sc_most_links (fun vs H Q E h => spD_len (n := 3) (by rintro ds Q ⟨n, T, a, b, rfl, _⟩; rfl) h) (fun cdv A outer s H vs Q E hr h => ?_)
  refine ⟨_, (pss_cons (ps_set (i := 3) sc_most_links.nd rfl (.inl rfl) (pe_lst pa_nil))
      (pss_cons (ps_set (i := 4) sc_most_links.nd rfl (.inl rfl) (pe_own D_came_from hr (by rfl) (pa_cons (pv 0) (pa_cons (pv 3) (pa_cons (pv 1) (pa_cons (pv 2) pa_nil))))))
      (pss_cons (ps_while PassesOwn.never (pt_cmpR (inDct (K := K) (P := P) (w := w) hr.units) (pe_tup (pa_cons (pv 2) (pa_cons (pe_glob (v := .int 0) (by rfl) B_IN ⟨_, rfl⟩) pa_nil))) (pv 4) (by rfl)) (pss_cons (ps_set (i := 3) sc_most_links.nd rfl (.inl rfl) (pe_own D_with_way hr (by rfl) (pa_cons (pv 3) (pa_cons (pe_own D_trail hr (by rfl) (pa_cons (pv 4) (pa_cons (pe_tup (pa_cons (pv 2) (pa_cons (pe_glob (v := .int 0) (by rfl) B_IN ⟨_, rfl⟩) pa_nil))) pa_nil))) pa_nil))))
      (pss_one (ps_set (i := 4) sc_most_links.nd rfl (.inl rfl) (pe_own D_came_from hr (by rfl) (pa_cons (pv 0) (pa_cons (pv 3) (pa_cons (pv 1) (pa_cons (pv 2) pa_nil)))))))))
      (pss_one (ps_ret (pv 3)))))), ?_⟩
  refine SS.fn (SS.seq (SS.set false _ (SE.lst SA.nil))
      (SS.seq (SS.set false _ (SE.call ClOk.d (SA.cons (SE.var _) (SA.cons (SE.var _) (SA.cons (SE.var _) (SA.cons (SE.var _) SA.nil))))))
      (SS.seq (SS.while_ (ST.test (SE.op OpOk.inDct (SE.tup (SA.cons (SE.var _) (SA.cons (SE.int _) SA.nil))) (SE.var _))) (SS.seq (SS.set false _ (SE.call ClOk.d (SA.cons (SE.var _) (SA.cons (SE.call ClOk.s (SA.cons (SE.var _) (SA.cons (SE.tup (SA.cons (SE.var _) (SA.cons (SE.int _) SA.nil))) SA.nil))) SA.nil))))
      (SS.set false _ (SE.call ClOk.d (SA.cons (SE.var _) (SA.cons (SE.var _) (SA.cons (SE.var _) (SA.cons (SE.var _) SA.nil))))))))
      (SS.ret (SE.var _))))) 5 rfl h fun ds Qf hl hf => ?_
  obtain ⟨n, T, a, b, rfl, hW, n12, ha, hb, hab, hno, q⟩ := hf
  refine pSeq_ fun X hX => ⟨_, rfl, leN rfl, hX _ ?_⟩
  clear hX X
  show pSeq _ _ _ ⟨[.d (webD n T), .d (.int a), .d (.int b), .l [], .no], [], 0, 0⟩
  refine pSeq_ fun X hX => ⟨_, rfl, n, T, [], a, b, rfl, hW, n12, ha, Lks.nil.inn hW n12 hno, fun row par dep hB => hX _ ?_⟩
  clear hX X
  show pSeq _ _ _ ⟨[.d (webD n T), .d (.int a), .d (.int b), .l [], .dd (cameL row par)], [], 0, 0⟩
  refine pSeq_ fun X hX => ⟨fun m s => ∃ links c row par dep k, m = n + 1 - c ∧ Lks n T a b links c ∧ Bfs (nextS T (befI b links)) [a, 1] row par dep row.length 0 ∧ s = ⟨[.d (webD n T), .d (.int a), .d (.int b), .l (links.map linkD), .dd (cameL row par)], [], 0, k⟩, ⟨_, [], 0, row, par, dep, 0, rfl, Lks.nil, hB, rfl⟩, ?_⟩
  clear hB row par dep
  rintro m s ⟨links, c, row, par, dep, k, rfl, hL, hB, rfl⟩
  obtain ⟨hcn, hln⟩ := hL.few hW hno
  have hin := hL.inn hW n12 hno
  obtain ⟨hok, hrl⟩ := hB.sides hW ha hin
  refine ⟨_, rfl, leN rfl, [b, 0], cameL row par, rfl, rfl, ?_⟩
  rw [valK_some]
  by_cases hm : [b, 0] ∈ row
  · refine blT (c := decide ([b, 0] ∈ row)) (decide_eq_true hm) ?_
    dsimp only
    rw [if_pos rfl]
    obtain ⟨L, g1, g2, g3, g4, g5, _⟩ := hB.trail _ hm
    have hL24 : L.length ≤ 24 := by
      have := nodup_len g5 (m := row) fun y hy => by
        obtain ⟨j, hj, e⟩ := List.getElem_of_mem hy
        exact (g2 j y (List.getElem?_eq_some_iff.mpr ⟨hj, e⟩)).1
      omega
    have hs : ∀ s ∈ L.reverse, SideOk n s := fun s hs => by
      obtain ⟨j, hj, e⟩ := List.getElem_of_mem (List.mem_reverse.mp hs)
      exact hok _ (g2 j s (List.getElem?_eq_some_iff.mpr ⟨hj, e⟩)).1
    have hR := way_rowS g3 (List.pairwise_reverse.mpr (List.Pairwise.imp (fun h => Ne.symm h) g5)) hs
    have hL2 := hL.more hW hab hR
    refine ⟨_, fun s' h => h, ?_⟩
    refine pSeq_ fun X hX => ?_
    refine ⟨_, rfl, leN rfl, fun y hy => ?_, cameL row par, [b, 0], L, rfl, g1, fun j y ej => ?_, by omega, ?_⟩
    · simp only [List.mem_cons, List.not_mem_nil, or_false] at hy
      rcases hy with rfl | rfl <;> trivial
    · obtain ⟨h1, h2⟩ := g2 j y ej
      rw [valK_came, if_pos h1, h2]
    · refine ⟨_, rfl, links, L.reverse, rfl, by omega, by rw [List.length_reverse]; omega, fun s hs' => ?_, hX _ ?_⟩
      · obtain ⟨p, d, e, _, hd⟩ := hs s hs'
        exact ⟨p, d, e, hd⟩
      clear hX X
      show pSet _ _ _ _ ⟨[.d (webD n T), .d (.int a), .d (.int b), .l ((withL links L.reverse).map linkD), .dd (cameL row par)], [], 0, k⟩
      refine ⟨_, rfl, n, T, withL links L.reverse, a, b, rfl, hW, n12, ha, hL2.inn hW n12 hno, fun row' par' dep' hB' => ?_⟩
      exact ⟨n + 1 - (c + 1), by omega, withL links L.reverse, c + 1, row', par', dep', k, rfl, hL2, hB', rfl⟩
  · refine blF (c := decide ([b, 0] ∈ row)) (decide_eq_false hm) ?_
    dsimp only
    rw [if_neg (by decide)]
    refine hX _ ?_
    refine q links c hL (fun row' par' dep' hB' h' => ?_) ⟨row, par, dep, hB, hm⟩
    obtain ⟨L, _, _, g3, _⟩ := hB'.trail _ h'
    exact hm (hB.short g3).1
end
end K14
set_option Elab.async false
set_option linter.all false
set_option maxRecDepth 100000
set_option maxHeartbeats 4000000
namespace K14
open PySem PySem.Spec PyProof.Rows L2 My
abbrev s_way_along : Stmt := topS 13
theorem sc_way_along : FnScope ["links", "a", "place", "b", "after", "way", "start", "end"] ["links", "a", "place", "b"] (defScope s_way_along) := ⟨rfl, rfl, rfl, by decide +kernel, rfl, by decide +kernel, by decide +kernel⟩
abbrev s_ways_apart : Stmt := topS 7
theorem sc_ways_apart : FnScope ["web", "a", "b", "links", "start", "place"] ["web", "a", "b"] (defScope s_ways_apart) := ⟨rfl, rfl, rfl, by decide +kernel, rfl, by decide +kernel, by decide +kernel⟩
section
variable {P : Program} {w : World} {K : PySem.W.Frag} {mg : Str → Option Value} {base : Heap}
theorem ok_way_along {f : Addr} {fd : FuncData} {m : Nat} (F : Fun K "_way_along" "_way_along" s_way_along f fd) (B : Bn mg) : FnOk P w K mg base CX0 (m + 1) f fd ["links", "a", "place", "b"] (spD K FWayAlong) := by
  refine F.ok sc_way_along (fun vs H Q E h => spD_len (n := 4) (by rintro ds Q ⟨n, T, a, b, p, links, c, rfl, _⟩; rfl) h) (fun cdv A outer s H vs Q E hr h => ?_)
  refine ⟨_, (pss_cons (ps_setDc (i := 4) (own := [("start", 6), ("end", 7)]) rfl sc_way_along.nd rfl rfl (sw_trueD rfl rfl rfl (by decide +kernel)) (pi_listK K (pv 0)) (blkOk_by (own := [("start", 6), ("end", 7)]) (N := ["links", "a", "place", "b", "after", "way", "start", "end"]) (sc := (defScope s_way_along)) (by decide +kernel)) (fun _ _ _ _ _ => (pg_tupK K 2 (by rfl) (pgs_cons (pg_name (i := 6) sc_way_along.nd rfl (.inl rfl)) (pgs_cons (pg_name (i := 7) sc_way_along.nd rfl (.inl rfl)) pgs_nil)))) (fun _ _ _ _ _ => (pts_one (pt_cmpR op_ne (pv 6) (pv 1) (nomark _)))) (fun _ _ _ _ _ => (pv 6)) (fun _ _ _ _ _ => (pv 7)))
      (pss_cons (ps_set (i := 5) sc_way_along.nd rfl (.inl rfl) (pe_lst (pa_cons (pv 1) (pa_cons (pv 2) pa_nil))))
      (pss_cons (ps_while PassesOwn.never (pt_cmpR op_ne (pe_ix (ixL K) (pv 5) (pe_un un_neg pe_int) (fun _ _ => rfl)) (pv 3) (nomark _)) (pss_one (ps_expr (pe_bmK K PySem.F.plainAttrs_list PySem.F.slot_list_append PySem.F.type_list_append mt_append (pv 5) (pa_cons (pe_dget (lt1 hr.units) (pv 4) (pe_ix (ixL K) (pv 5) (pe_un un_neg pe_int) (fun _ _ => rfl)) (fun _ _ => rfl)) pa_nil)))))
      (pss_one (ps_ret (pe_callTy (tupleOf K) (by rfl) B.tuple_ (by decide +kernel) (pa_cons (pv 5) pa_nil))))))), ?_⟩
  refine SS.fn (SS.seq (SS.set false _ (SE.dc (SI.lst (SE.var _)) (SG.tup (SGs.cons (SG.name _) (SGs.cons (SG.name _) SGs.nil))) (ST.test (SE.op OpOk.ne (SE.var _) (SE.var _))) (SE.var _) (SE.var _) (by decide)))
      (SS.seq (SS.set true _ (SE.lst (SA.cons (SE.var _) (SA.cons (SE.var _) SA.nil))))
      (SS.seq (SS.while_ (ST.test (SE.op OpOk.ne (SE.op OpOk.ixL (SE.var _) (SE.un UnOk.neg (SE.int _))) (SE.var _))) (SS.drop (SE.append _ (SE.diGet (SE.var _) (SE.op OpOk.ixL (SE.var _) (SE.un UnOk.neg (SE.int _)))))))
      (SS.ret (SE.cb CbOk.tuple (SA.cons (SE.var _) SA.nil)))))) 8 rfl h fun ds Qf hl hf => ?_
  obtain ⟨n, T, a, b, p, links, c, rfl, hA, hL, hp, q⟩ := hf
  have n12 := hA.n12
  have hin := hL.inn hA.hW n12 hA.hno
  show pSeq _ _ _ ⟨[.d (.list (links.map linkD)), .d (.int a), .d (.int p), .d (.int b), .no, .no, .no, .no], [], 0, 0⟩
  refine pSeq_ fun X hX => ?_
  array_get_dec
  refine pDcN (by rw [List.length_map]; have := hin.1; omega) (fun i acc s2 => acc = aftI a (links.take i) ∧ s2 = ⟨[.d (.list (links.map linkD)), .d (.int a), .d (.int p), .d (.int b), .no, .no, .no, .no], [], 0, 0⟩) ⟨rfl, rfl⟩ ?_ ?_
  · rintro i d acc s2 ed ⟨rfl, rfl⟩ _
    obtain ⟨l, el, rfl⟩ := map_at ed
    have en : aftI a (links.take (i + 1)) = if l.1 = a then aftI a (links.take i) else putI (aftI a (links.take i)) l.1 l.2 := by
      unfold aftI
      rw [List.take_add_one, el, List.map_append]
      exact befI_snoc
    array_get_dec
    rw [en]
    refine iteS (fun hc => ?_) fun hc => ?_
    · rw [if_neg (by simpa using hc)]
    · rw [if_pos (by simpa using hc)]
  · rintro acc s2 ⟨rfl, rfl⟩ _
    rw [List.length_map, List.take_length]
    array_get_dec
    refine hX _ ?_
    clear hX X
    refine pSeq_ fun X hX => ?_
    array_get_dec
    refine hX _ ?_
    clear hX X
    refine pSeq_ fun X hX => ?_
    obtain ⟨h2, hpb⟩ := Along.two hA.hab hA.hno hL hp
    refine pWhile_ (fun m s => ∃ w k, m = n + 1 - w.length ∧ Along a b links w ∧ w[1]? = some p ∧ 2 ≤ w.length ∧ s = ⟨[.d (.list (links.map linkD)), .d (.int a), .d (.int p), .d (.int b), .di (aftI a links), .ob 0, .no, .no], [.lst (w.map PyData.int)], 0, k⟩) ⟨_, [a, p], 0, rfl, h2, rfl, by simp, rfl⟩ ?_
    rintro m s ⟨w, k, rfl, hw, hw1, hw2, rfl⟩ B E hB hE
    have hwn := hw.len hA.hW hL hA.ha
    obtain ⟨y, ey⟩ : ∃ y, w[w.length - 1]? = some y := ⟨_, List.getElem?_eq_getElem (by omega)⟩
    have ey' : atI (w.map PyData.int) (-1) = some (.int y) := at_neg (by rw [List.length_map]; omega) (by rw [List.length_map, List.getElem?_map, ey]; rfl)
    array_get_dec
    refine ⟨.int y, ey', rfl, rfl, ?_⟩
    array_get_dec
    refine iteS (fun hc => hB _ ?_) fun hc => hE _ (hX _ ?_)
    · have hy : y ≠ b := by simpa using hc
      obtain ⟨z, ez, hz⟩ := hw.on hL hw2 ey hy
      array_get_dec
      refine ⟨_, ey', y, rfl, z, ez, by rw [List.length_map]; have := hA.n12; omega, _, ?_, w ++ [z], rfl, hz, by rw [List.getElem?_append_left (by omega)]; exact hw1, by rw [List.length_append]; omega, k + 1, by rw [List.map_append]; rfl⟩
      have := hz.len hA.hW hL hA.ha
      rw [List.length_append, List.length_singleton] at this ⊢
      omega
    · have hy : y = b := by simpa using hc
      array_get_dec
      exact q w hw hw1 hw2 (hy ▸ ey)
theorem ok_ways_apart {f : Addr} {fd : FuncData} {m : Nat} (F : Fun K "ways_apart" "ways_apart" s_ways_apart f fd) (B : Bn mg) (D_most_links : Own P w K mg base "_most_links" m ["web", "a", "b"] (spD K FMost)) (D_way_along : Own P w K mg base "_way_along" m ["links", "a", "place", "b"] (spD K FWayAlong)) : FnOk P w K mg base CX0 (m + 1) f fd ["web", "a", "b"] (spD K FWaysApart) := by
  refine F.ok sc_ways_apart (fun vs H Q E h => spD_len (n := 3) (by rintro ds Q ⟨n, T, a, b, rfl, _⟩; rfl) h) (fun cdv A outer s H vs Q E hr h => ?_)
  refine ⟨_, (pss_cons (ps_set (i := 3) sc_ways_apart.nd rfl (.inr rfl) (pe_own D_most_links hr (by rfl) (pa_cons (pv 0) (pa_cons (pv 1) (pa_cons (pv 2) pa_nil)))))
      (pss_one (ps_ret (pe_callTy (tupleOf K) (by rfl) B.tuple_ (by decide +kernel) (pa_cons (pe_lc (own := [("start", 4), ("place", 5)]) (by rfl) sc_ways_apart.nd (pi_listK K (pv 3)) (blkOk_by (own := [("start", 4), ("place", 5)]) (N := ["web", "a", "b", "links", "start", "place"]) (sc := (defScope s_ways_apart)) (by decide +kernel)) (fun _ _ _ _ _ => (pg_tupK K 2 (by rfl) (pgs_cons (pg_name (i := 4) sc_ways_apart.nd rfl (.inl rfl)) (pgs_cons (pg_name (i := 5) sc_ways_apart.nd rfl (.inl rfl)) pgs_nil)))) (fun _ _ _ _ _ => (pts_one (pt_cmpR op_eq (pv 4) (pv 1) (nomark _)))) (fun _ _ _ _ _ => (pe_own D_way_along hr (by rfl) (pa_cons (pv 3) (pa_cons (pv 1) (pa_cons (pv 5) (pa_cons (pv 2) pa_nil))))))) pa_nil))))), ?_⟩
  refine SS.fn (SS.seq (SS.set false _ (SE.call ClOk.d (SA.cons (SE.var _) (SA.cons (SE.var _) (SA.cons (SE.var _) SA.nil)))))
      (SS.ret (SE.cb CbOk.tuple (SA.cons (SE.lc (SI.lst (SE.var _)) (SG.tup (SGs.cons (SG.name _) (SGs.cons (SG.name _) SGs.nil))) (ST.test (SE.op OpOk.eq (SE.var _) (SE.var _))) (SE.call ClOk.d (SA.cons (SE.var _) (SA.cons (SE.var _) (SA.cons (SE.var _) (SA.cons (SE.var _) SA.nil))))) (by decide)) SA.nil)))) 6 rfl h fun ds Qf hl hf => ?_
  obtain ⟨n, T, a, b, rfl, hA, q⟩ := hf
  show pSeq _ _ _ ⟨[.d (webD n T), .d (.int a), .d (.int b), .no, .no, .no], [], 0, 0⟩
  refine pSeq_ fun X hX => ?_
  array_get_dec
  refine ⟨n, T, a, b, rfl, hA.hW, hA.n12, hA.ha, hA.hb, hA.hab, hA.hno, fun links c hL hnot ⟨row, par, dep, hBf, hnb⟩ => ?_⟩
  have hin := hL.inn hA.hW hA.n12 hA.hno
  array_get_dec
  refine hX _ ?_
  clear hX X
  array_get_dec
  refine pLcD_inv (by rw [List.length_map]; have := hin.1; omega) (fun i acc s2 => (∃ ws : List (List Int), acc = ws.map tI ∧ ws.length = ((links.take i).filter fun l => decide (l.1 = a)).length ∧ (∀ (j : Nat) w, ws[j]? = some w → Along a b links w ∧ w[1]? = (((links.take i).filter fun l => decide (l.1 = a)).map (·.2))[j]? ∧ 2 ≤ w.length ∧ w[w.length - 1]? = some b)) ∧ s2 = ⟨[.d (webD n T), .d (.int a), .d (.int b), .l (links.map linkD), .no, .no], [], 0, 0⟩) (fun _ _ _ _ j e => by cases e) ⟨⟨[], rfl, rfl, fun j w e => by simp at e⟩, rfl⟩ ?_ ?_
  · rintro i d acc s2 ed ⟨⟨ws, rfl, lws, hws⟩, rfl⟩ _
    obtain ⟨l, el, rfl⟩ := map_at ed
    array_get_dec
    have hlm := List.mem_of_getElem? el
    have ef : (links.take (i + 1)).filter (fun l => decide (l.1 = a)) = (links.take i).filter (fun l => decide (l.1 = a)) ++ if l.1 = a then [l] else [] := by
      rw [List.take_add_one, el, List.filter_append]
      congr 1
      by_cases e : l.1 = a <;> simp [e]
    rw [ef]
    refine iteS (fun hc => ?_) fun hc => ?_
    · have hla : l.1 = a := by simpa using hc
      rw [if_pos hla]
      refine ⟨n, T, a, b, l.2, links, c, rfl, hA, hL, by rw [← hla]; exact hlm, fun w h1 h2 h3 h4 => ?_⟩
      refine ⟨_, rfl, ws ++ [w], by rw [List.map_append]; rfl, by rw [List.length_append, List.length_append, lws]; rfl, fun j v ev => ?_⟩
      rcases Nat.lt_or_ge j ws.length with g | g
      · rw [List.getElem?_append_left g] at ev
        obtain ⟨a1, a2, a3⟩ := hws j v ev
        refine ⟨a1, ?_, a3⟩
        rw [a2, List.map_append, List.getElem?_append_left (by rw [List.length_map, ← lws]; exact g)]
      · rw [List.getElem?_append_right g] at ev
        have hj : j - ws.length = 0 := by
          have := (List.getElem?_eq_some_iff.mp ev).1
          simp at this
          omega
        rw [hj] at ev
        cases ev
        refine ⟨h1, ?_, h3, h4⟩
        rw [h2, List.map_append, List.getElem?_append_right (by rw [List.length_map, ← lws]; exact g), List.length_map, ← lws, hj]
        rfl
    · have hla : l.1 ≠ a := by simpa using hc
      rw [if_neg hla, List.append_nil]
      exact ⟨lws, hws⟩
  · rintro acc s2 ⟨⟨ws, rfl, lws, hws⟩, rfl⟩ _
    rw [List.length_map, List.take_length] at lws hws
    array_get_dec
    have hnd := hL.first hA.hno
    have key : ∀ (i j : Nat) v w, ws[i]? = some v → ws[j]? = some w → i < j → v[1]? ≠ w[1]? := fun i j v w e1 e2 hij e => by
      rw [(hws i v e1).2.1, (hws j w e2).2.1] at e
      have hj := (List.getElem?_eq_some_iff.mp e2).1
      have := (List.getElem?_inj (by rw [List.length_map, ← lws]; omega) hnd).mp e
      omega
    refine q ws _ ⟨fun w hw => ?_, ?_⟩ (plot_lot hA.hW hA.hab hBf hnb) ?_
    · obtain ⟨j, hj, e⟩ := List.getElem_of_mem hw
      obtain ⟨h1, _, h3, h4⟩ := hws j w (by rw [List.getElem?_eq_getElem hj, e])
      exact h1.way hL h3 h4
    · rw [List.pairwise_iff_getElem]
      intro i j hi hj hij
      have e1 : ws[i]? = some ws[i] := List.getElem?_eq_getElem hi
      have e2 : ws[j]? = some ws[j] := List.getElem?_eq_getElem hj
      exact (hws i _ e1).1.apart hL (hws j _ e2).1 (key i j _ _ e1 e2 hij)
    · rw [plot_len hA.hW hA.ha hA.hab hL hBf hnb, lws, hL.frA]
end
end K14
set_option Elab.async false
set_option linter.all false
set_option maxRecDepth 100000
set_option maxHeartbeats 4000000
namespace K14
open PySem PySem.Spec PyProof.Rows L2 My
abbrev s_loose_ties : Stmt := topS 2
theorem sc_loose_ties : FnScope ["web", "n", "ties", "a", "b"] ["web"] (defScope s_loose_ties) := ⟨rfl, rfl, rfl, by decide +kernel, rfl, by decide +kernel, by decide +kernel⟩
section
variable {P : Program} {w : World} {K : PySem.W.Frag} {mg : Str → Option Value} {base : Heap}
theorem ok_loose_ties {f : Addr} {fd : FuncData} {m : Nat} (F : Fun K "loose_ties" "loose_ties" s_loose_ties f fd) (B : Bn mg) : FnOk P w K mg base CX0 (m + 1) f fd ["web"] (spD K FLoose) := by
  refine F.ok sc_loose_ties (fun vs H Q E h => spD_len (n := 1) (by rintro ds Q ⟨n, T, rfl, _⟩; rfl) h) (fun cdv A outer s H vs Q E hr h => ?_)
  refine ⟨_, (pss_cons (ps_asg (pv 0) (pg_tupK K 2 (by rfl) (pgs_cons (pg_name (i := 1) sc_loose_ties.nd rfl (.inr rfl)) (pgs_cons (pg_name (i := 2) sc_loose_ties.nd rfl (.inr rfl)) pgs_nil))))
      (pss_one (ps_ret (pe_callTy (tupleOf K) (by rfl) B.tuple_ (by decide +kernel) (pa_cons (pe_lc2 (own := [("a", 3), ("b", 4)]) (vs1 := [4]) (by rfl) sc_loose_ties.nd (pi_range1 (by rfl) B.range (pa_cons (pv 1) pa_nil)) (blkOk_by (own := [("a", 3), ("b", 4)]) (N := ["web", "n", "ties", "a", "b"]) (sc := (defScope s_loose_ties)) (by decide +kernel)) (by decide) (fun _ _ _ _ _ => (pg_name (i := 3) sc_loose_ties.nd rfl (.inl rfl))) (fun _ _ _ _ _ => pts_nil) (fun _ _ _ _ _ => (pi_range2 (by rfl) B.range (pa_cons (pe_op op_add (pv 3) pe_int) (pa_cons (pv 1) pa_nil)))) (fun _ _ _ _ _ => (pg_name (i := 4) sc_loose_ties.nd rfl (.inl rfl))) (fun _ _ _ _ _ => (pts_one (pt_cmpR (notInDT K hr.units) (pe_tup (pa_cons (pv 3) (pa_cons (pv 4) pa_nil))) (pv 2) (by rfl)))) (fun _ _ _ _ _ => (pe_tup (pa_cons (pv 3) (pa_cons (pv 4) pa_nil))))) pa_nil))))), ?_⟩
  refine SS.fn (SS.seq (SS.asg (SE.var _) (SG.tup (SGs.cons (SG.name _) (SGs.cons (SG.name _) SGs.nil))))
      (SS.ret (SE.cb CbOk.tuple (SA.cons (SE.lc2 (SI.rng1 (SA.cons (SE.var _) SA.nil)) (SG.name _) ST.yes (SI.rng2 (SA.cons (SE.op OpOk.add (SE.var _) (SE.int _)) (SA.cons (SE.var _) SA.nil))) (SG.name _) (ST.test (SE.op OpOk.notInDT (SE.tup (SA.cons (SE.var _) (SA.cons (SE.var _) SA.nil))) (SE.var _))) (SE.tup (SA.cons (SE.var _) (SA.cons (SE.var _) SA.nil))) (by decide) (by decide)) SA.nil)))) 5 rfl h fun ds Qf hl hf => ?_
  obtain ⟨n, T, rfl, hW, n12, q⟩ := hf
  have hT := hW.len n12
  refine pSeq_ fun X hX => ⟨_, rfl, rfl, hX _ ?_⟩
  clear hX X
  show pRet _ _ ⟨[.d (webD n T), .d (.int n), .d (.tuple (T.map linkD)), .no, .no], [], 0, 0⟩
  dsimp only [pRet, pCB, pCons, pNil, pVar, pgName, plainS, List.set_cons_succ, List.set_cons_zero, List.getElem?_cons_succ, List.getElem?_cons_zero]
  refine pLc2_fil (List.range n) (fun i => .int ((i : Nat) : Int)) (fun i => List.range (n - (i + 1))) (fun i j => .int (((i + 1 : Nat) : Int) + ((j : Nat) : Int))) (fun i j => linkD ((i : Int), ((i + 1 : Nat) : Int) + (j : Int))) (fun i j => !decide (((i : Int), ((i + 1 : Nat) : Int) + (j : Int)) ∈ T)) (fun i s3 => s3 = ⟨[.d (webD n T), .d (.int n), .d (.tuple (T.map linkD)), .d (.int (i : Nat)), .no], [], 0, 0⟩) ?_ (fun R r => ?_) (fun i hi Z hZ => hZ _ rfl) (fun i hi s3 e => ?_) ?_
  · have key : ∀ l : List Nat, (l.flatMap fun i => (List.range (n - (i + 1))).map fun j : Nat => linkD ((i : Int), ((i + 1 : Nat) : Int) + (j : Int))).length ≤ l.length * 12 := fun l => by
      induction l with
      | nil => exact Nat.zero_le _
      | cons i l ih =>
        rw [List.flatMap_cons, List.length_append, List.length_map, List.length_cons, List.length_range]
        omega
    have := key (List.range n)
    rw [List.length_range] at this
    omega
  · refine ⟨_, rfl, ⟨by omega, by omega⟩, ?_⟩
    have e : My.intsFrom 0 ((n : Nat) : Int).toNat = (List.range n).map fun i : Nat => PyData.int (i : Int) := by
      unfold My.intsFrom
      rw [Int.toNat_natCast]
      refine List.map_congr_left fun i _ => ?_
      rw [Int.zero_add]
    rw [e]
    exact r
  · subst e
    rw [List.mem_range] at hi
    refine ⟨rfl, fun R r => ?_, fun j hj Y G hY hG => ?_⟩
    · refine ⟨_, _, rfl, ⟨by omega, by omega, by omega, by omega⟩, ?_⟩
      have e : (((n : Nat) : Int) - (((i : Nat) : Int) + 1)).toNat = n - (i + 1) := by omega
      unfold My.intsFrom
      rw [e]
      exact r
    · dsimp only [pgName, pB, pOp, pTup, pCons, pNil, pVar, plainS, wipeP, List.foldl_cons, List.foldl_nil, List.set_cons_succ, List.set_cons_zero, List.getElem?_cons_succ, List.getElem?_cons_zero]
      refine ⟨_, rfl, leN rfl, in_tIs (r := prI ((i : Int), ((i + 1 : Nat) : Int) + (j : Int))) (L := T.map prI) rfl ?_ (by unfold prI; simp) (by rw [List.length_map]; omega) (fun x hx => ?_) ?_⟩
      · rw [List.map_map]
        rfl
      · obtain ⟨t, _, rfl⟩ := List.mem_map.mp hx
        unfold prI
        simp
      · rw [show decide (prI ((i : Int), ((i + 1 : Nat) : Int) + (j : Int)) ∈ T.map prI) = decide (((i : Int), ((i + 1 : Nat) : Int) + (j : Int)) ∈ T) from decide_eq_decide.mpr mem_prI]
        refine blB (fun hc => ?_) (fun hc => ?_)
        · rw [if_pos rfl]
          exact ⟨_, rfl, leN rfl, _, rfl, hY hc⟩
        · rw [if_neg (by decide)]
          exact hG hc
  · refine ⟨_, true, _, rfl, rfl, ?_⟩
    unfold looseL at q
    rw [List.map_flatMap] at q
    simp only [List.map_map] at q
    exact q
end
end K14
set_option Elab.async false
set_option linter.all false
set_option maxRecDepth 100000
set_option maxHeartbeats 4000000
namespace K14
open PySem PySem.Spec PyProof.Rows L2 My
abbrev s_find_paper : Stmt := topS 14
theorem sc_find_paper : FnScope ["web", "k", "paper", "a", "b", "ways"] ["web", "k"] (defScope s_find_paper) := ⟨rfl, rfl, rfl, by decide +kernel, rfl, by decide +kernel, by decide +kernel⟩
section
variable {P : Program} {w : World} {K : PySem.W.Frag} {mg : Str → Option Value} {base : Heap}
theorem ok_find_paper {f : Addr} {fd : FuncData} {m : Nat} (F : Fun K "find_paper" "find_paper" s_find_paper f fd) (B : Bn mg) (D_loose_ties : Own P w K mg base "loose_ties" m ["web"] (spD K FLoose)) (D_ways_apart : Own P w K mg base "ways_apart" m ["web", "a", "b"] (spD K FWaysApart)) : FnOk P w K mg base CX0 (m + 1) f fd ["web", "k"] (spD K FFindPaper) := by
  refine F.ok sc_find_paper (fun vs H Q E h => spD_len (n := 2) (by rintro ds Q ⟨n, T, k, rfl, _⟩; rfl) h) (fun cdv A outer s H vs Q E hr h => ?_)
  refine ⟨_, (pss_cons (ps_set (i := 2) sc_find_paper.nd rfl (.inl rfl) (pe_dct0 (P := P) (w := w)))
      (pss_cons (ps_for PassesOwn.never rfl (pi_tupK K (pe_own D_loose_ties hr (by rfl) (pa_cons (pv 0) pa_nil))) (pg_tupK K 2 (by rfl) (pgs_cons (pg_name (i := 3) sc_find_paper.nd rfl (.inl rfl)) (pgs_cons (pg_name (i := 4) sc_find_paper.nd rfl (.inl rfl)) pgs_nil))) (pss_cons (ps_set (i := 5) sc_find_paper.nd rfl (.inl rfl) (pe_own D_ways_apart hr (by rfl) (pa_cons (pv 0) (pa_cons (pv 3) (pa_cons (pv 4) pa_nil)))))
      (pss_cons (ps_if (pt_cmpR op_lt (pe_callB (lenQ K) (by rfl) B.len (by decide +kernel) (pa_cons (pv 5) pa_nil)) (pv 1) (nomark _)) (pss_one (ps_ret pe_non)) pss_nil)
      (pss_one (ps_asg (pe_slice (slT K) (pv 5) po_none (po_some (pv 1))) (pg_sub (pv 2) (pe_tup (pa_cons (pv 3) (pa_cons (pv 4) pa_nil))) (setDct (K := K) (P := P) (w := w) hr.units)))))))
      (pss_one (ps_ret (pv 2))))), ?_⟩
  refine SS.fn (SS.seq (SS.set true _ SE.dct0)
      (SS.seq (SS.for_ (SI.tup (SE.call ClOk.d (SA.cons (SE.var _) SA.nil))) (SG.tup (SGs.cons (SG.name _) (SGs.cons (SG.name _) SGs.nil))) (SS.seq (SS.set false _ (SE.call ClOk.d (SA.cons (SE.var _) (SA.cons (SE.var _) (SA.cons (SE.var _) SA.nil)))))
      (SS.seq (SS.ite (ST.test (SE.op OpOk.lt (SE.cb CbOk.len (SA.cons (SE.var _) SA.nil)) (SE.var _))) (SS.ret SE.non) SS.next)
      (SS.setKey _ (SE.slT (SE.var _) SO.no (SO.part (SE.var _))) (SE.tup (SA.cons (SE.var _) (SA.cons (SE.var _) SA.nil)))))))
      (SS.ret (SE.var _)))) 6 rfl h fun ds Qf hl hf => ?_
  obtain ⟨n, T, k, rfl, hW, n12, q1, q2⟩ := hf
  have hll := looseL_len (n := n) (T := T)
  have hll144 : n * n ≤ 144 := Nat.mul_le_mul n12 n12
  show pSeq _ _ _ ⟨[.d (webD n T), .d (.int k), .no, .no, .no, .no], [], 0, 0⟩
  refine pSeq_ fun X hX => ?_
  array_get_dec
  refine hX _ ?_
  clear hX X
  refine pSeq_ fun X hX => ?_
  array_get_dec
  refine ⟨n, T, rfl, hW, n12, ?_⟩
  array_get_dec
  refine pForN (fun i s => ∃ x3 x4 x5 mm kvs, s = ⟨[.d (webD n T), .d (.int k), .ob 0, x3, x4, x5], [.dct kvs], 0, mm⟩ ∧ kvs.map (·.1) = ((looseL n T).take i).map prI ∧ (∀ p ∈ kvs, ∃ a b ws, p.1 = prI (a, b) ∧ (a, b) ∈ looseL n T ∧ WaysP n T a b ws ∧ ws.length = k ∧ p.2 = .tuple (ws.map tI)) ∧ ∀ i' < i, ∀ a b lot, (looseL n T)[i']? = some (a, b) → LotP n T a b lot → k ≤ lot.length) ⟨_, _, _, _, [], rfl, rfl, fun p hp => (by cases hp), fun i' h => by omega⟩ ?_ ?_
  · rintro i d s2 ed ⟨x3, x4, x5, mm, kvs, rfl, hk, hv, hI⟩
    obtain ⟨⟨a, b⟩, el, rfl⟩ := map_at ed
    have hin := List.mem_of_getElem? el
    have hA := looseL_apart hW n12 hin
    array_get_dec
    refine pSeq_ fun X hX => ?_
    array_get_dec
    refine ⟨n, T, a, b, rfl, hA, fun ws lot hws hlot e => ?_⟩
    array_get_dec
    refine hX _ ?_
    clear hX X
    refine pSeq_ fun X hX => pIf_ fun Y N hY hN => ?_
    array_get_dec
    rw [List.length_map]
    refine iteS (fun hc => hY _ ?_) fun hc => hN _ ?_
    · have hc := of_decide_eq_true hc
      array_get_dec
      exact q1 ⟨lot, hlot.cut hA, by omega⟩
    · have hc := of_decide_eq_false hc
      array_get_dec
      refine hX _ ?_
      clear hX hY hN X Y N
      array_get_dec
      have hpre : prI (a, b) ∉ kvs.map (·.1) := fun hmem => by
        rw [hk] at hmem
        obtain ⟨t, ht, e'⟩ := List.mem_map.mp hmem
        have : t = (a, b) := prI_inj e'
        subst this
        obtain ⟨j, hj, ej⟩ := List.getElem_of_mem ht
        have e2 : ((looseL n T).take i)[j]? = some (a, b) := by rw [List.getElem?_eq_getElem hj, ej]
        rw [List.getElem?_take] at e2
        split at e2
        · have := nodup_at looseL_nd e2 el
          omega
        · cases e2
      have hkl : kvs.length ≤ 144 := by
        have := congrArg List.length hk
        rw [List.length_map, List.length_map, List.length_take] at this
        omega
      have ekw : (ws.take k).length = k := by rw [List.length_take]; omega
      refine ⟨prI (a, b), rfl, by omega, ?_⟩
      rw [putK_new hpre, cutD_take, ← List.map_take]
      refine ⟨_, _, _, _, kvs ++ [(prI (a, b), .tuple ((ws.take k).map tI))], rfl, ?_, fun p hp => ?_, fun i' hi' a' b' lot' e' h' => ?_⟩
      · rw [List.map_append, hk, List.take_add_one, el, List.map_append]
        rfl
      · rcases List.mem_append.mp hp with hp | hp
        · obtain ⟨a', b', ws', g1, g2, g3, g4, g5⟩ := hv p hp
          exact ⟨a', b', g1, g2, ws', g3, g4, g5⟩
        · rw [List.mem_singleton.mp hp]
          exact ⟨a, b, rfl, hin, ws.take k, ⟨fun w hw => hws.1 w (List.mem_of_mem_take hw), hws.2.sublist (List.take_sublist _ _)⟩, ekw, rfl⟩
      · rcases Nat.lt_or_ge i' i with g | g
        · exact hI i' g a' b' lot' e' h'
        · have : i' = i := by omega
          subst this
          rw [el] at e'
          cases e'
          have h1 := ways_le hW hws h'.2.2.1 h'.2.2.2.1 h'.2.2.2.2
          omega
  · rintro s2 ⟨x3, x4, x5, mm, kvs, rfl, hk, hv, hI⟩
    rw [List.length_map] at hI hk
    rw [List.take_length] at hk
    refine hX _ ?_
    array_get_dec
    refine q2 kvs ⟨hk, hv⟩ fun lot hc => ?_
    obtain ⟨a, b, hm, hl⟩ := hc.pair hW
    obtain ⟨j, hj, e⟩ := List.getElem_of_mem hm
    exact hI j hj a b lot (by rw [List.getElem?_eq_getElem hj, e]) hl
end
end K14
set_option Elab.async false
set_option linter.all false
set_option maxRecDepth 100000
set_option maxHeartbeats 4000000
namespace K14
open PySem PySem.Spec PyProof.Rows L2 My
abbrev s_parting_lot : Stmt := topS 8
theorem sc_parting_lot : FnScope ["web", "a", "b", "came", "place"] ["web", "a", "b"] (defScope s_parting_lot) := ⟨rfl, rfl, rfl, by decide +kernel, rfl, by decide +kernel, by decide +kernel⟩
section
variable {P : Program} {w : World} {K : PySem.W.Frag} {mg : Str → Option Value} {base : Heap}
theorem ok_parting_lot {f : Addr} {fd : FuncData} {m : Nat} (F : Fun K "parting_lot" "parting_lot" s_parting_lot f fd) (B : Bn mg) {tk1 tk2 : Tok} (B_IN : mg "IN" = some (.int 0 tk1)) (B_OUT : mg "OUT" = some (.int 1 tk2)) (D_came_from : Own P w K mg base "_came_from" m ["web", "links", "a", "b"] (spD K FCameS)) (D_most_links : Own P w K mg base "_most_links" m ["web", "a", "b"] (spD K FMost)) : FnOk P w K mg base CX0 (m + 1) f fd ["web", "a", "b"] (spD K FParting) := by
  refine F.ok sc_parting_lot (fun vs H Q E h => spD_len (n := 3) (by rintro ds Q ⟨n, T, a, b, rfl, _⟩; rfl) h) (fun cdv A outer s H vs Q E hr h => ?_)
  refine ⟨_, (pss_cons (ps_set (i := 3) sc_parting_lot.nd rfl (.inr rfl) (pe_own D_came_from hr (by rfl) (pa_cons (pv 0) (pa_cons (pe_own D_most_links hr (by rfl) (pa_cons (pv 0) (pa_cons (pv 1) (pa_cons (pv 2) pa_nil)))) (pa_cons (pv 1) (pa_cons (pv 2) pa_nil))))))
      (pss_one (ps_ret (pe_callTy (tupleOf K) (by rfl) B.tuple_ (by decide +kernel) (pa_cons (pe_lc (own := [("place", 4)]) (by rfl) sc_parting_lot.nd (pi_range1 (by rfl) B.range (pa_cons (pe_ix (ixT K) (pv 0) pe_int (fun _ _ => rfl)) pa_nil)) (blkOk_by (own := [("place", 4)]) (N := ["web", "a", "b", "came", "place"]) (sc := (defScope s_parting_lot)) (by decide +kernel)) (fun _ _ _ _ _ => (pg_name (i := 4) sc_parting_lot.nd rfl (.inl rfl))) (fun _ _ _ _ _ => (pts_one ((pw_and (pt_cmpR (inDct (K := K) (P := P) (w := w) hr.units) (pe_tup (pa_cons (pv 4) (pa_cons (pe_glob (v := .int 0) (by rfl) B_IN ⟨_, rfl⟩) pa_nil))) (pv 3) (by rfl)) (pw_and1 (pt_cmpR (notInDct (K := K) (P := P) (w := w) hr.units) (pe_tup (pa_cons (pv 4) (pa_cons (pe_glob (v := .int 1) (by rfl) B_OUT ⟨_, rfl⟩) pa_nil))) (pv 3) (by rfl))))).pt)) (fun _ _ _ _ _ => (pv 4))) pa_nil))))), ?_⟩
  refine SS.fn (SS.seq (SS.set false _ (SE.call ClOk.d (SA.cons (SE.var _) (SA.cons (SE.call ClOk.d (SA.cons (SE.var _) (SA.cons (SE.var _) (SA.cons (SE.var _) SA.nil)))) (SA.cons (SE.var _) (SA.cons (SE.var _) SA.nil))))))
      (SS.ret (SE.cb CbOk.tuple (SA.cons (SE.lc (SI.rng1 (SA.cons (SE.op OpOk.ixT (SE.var _) (SE.int _)) SA.nil)) (SG.name _) (ST.and (ST.test (SE.op OpOk.inDct (SE.tup (SA.cons (SE.var _) (SA.cons (SE.int _) SA.nil))) (SE.var _))) (ST.test (SE.op OpOk.inDct (SE.tup (SA.cons (SE.var _) (SA.cons (SE.int _) SA.nil))) (SE.var _)))) (SE.var _) (by decide)) SA.nil)))) 5 rfl h fun ds Qf hl hf => ?_
  obtain ⟨n, T, a, b, rfl, hW, n12, ha, hb, hab, hno, q⟩ := hf
  refine pSeq_ fun X hX => ⟨_, rfl, n, T, a, b, rfl, hW, n12, ha, hb, hab, hno, fun links c hL hnot _ => ?_⟩
  have hin := hL.inn hW n12 hno
  refine ⟨_, rfl, n, T, links, a, b, rfl, hW, n12, ha, hin, fun row par dep hB => hX _ ?_⟩
  clear hX X
  show pRet _ _ ⟨[.d (webD n T), .d (.int a), .d (.int b), .dd (cameL row par), .no], [], 0, 0⟩
  dsimp only [pRet, pCB, pCons, pNil, pVar, pgName, plainS, List.set_cons_succ, List.set_cons_zero, List.getElem?_cons_succ, List.getElem?_cons_zero]
  have q := q links c row par dep hL hB (hnot row par dep hB)
  refine pLc_fun (ups n) PyData.int (fun p => decide ([p, 0] ∈ row) && !decide ([p, 1] ∈ row)) PyData.int (by rw [ups_len]; omega) none (fun j e => by cases e) (fun R r => ?_) (fun p hp Y G hY hG => ?_) ?_
  · refine ⟨_, _, _, rfl, rfl, rfl, _, rfl, ⟨by omega, by omega⟩, ?_⟩
    have e : My.intsFrom 0 ((n : Nat) : Int).toNat = (ups n).map PyData.int := by
      unfold My.intsFrom ups
      rw [Int.toNat_natCast, List.map_map]
      refine List.map_congr_left fun i _ => ?_
      show PyData.int (0 + (i : Int)) = PyData.int (i : Int)
      rw [Int.zero_add]
    rw [e]
    exact r
  · dsimp only [pgName, pAnd, pB, pOp, pTup, pCons, pNil, pVar, plainS, wipeP, List.map_cons, List.map_nil, List.foldl_cons, List.foldl_nil, List.set_cons_succ, List.set_cons_zero, List.getElem?_cons_succ, List.getElem?_cons_zero]
    refine ⟨_, rfl, leN rfl, [p, 0], cameL row par, rfl, rfl, ?_⟩
    rw [valK_some]
    by_cases h0 : [p, 0] ∈ row
    · refine blT (c := decide ([p, 0] ∈ row)) (decide_eq_true h0) ?_
      dsimp only
      rw [if_pos rfl]
      refine ⟨_, rfl, leN rfl, [p, 1], cameL row par, rfl, rfl, ?_⟩
      rw [valK_some]
      by_cases h1 : [p, 1] ∈ row
      · refine blF (c := !decide ([p, 1] ∈ row)) (by rw [decide_eq_true h1]; rfl) ?_
        dsimp only
        rw [if_neg (by decide)]
        exact hG (by rw [decide_eq_true h1]; simp)
      · refine blT (c := !decide ([p, 1] ∈ row)) (by rw [decide_eq_false h1]; rfl) ?_
        dsimp only
        rw [if_pos rfl]
        exact ⟨_, rfl, hY (by rw [decide_eq_true h0, decide_eq_false h1]; rfl)⟩
    · refine blF (c := decide ([p, 0] ∈ row)) (decide_eq_false h0) ?_
      dsimp only
      rw [if_neg (by decide), if_neg (by decide)]
      exact hG (by rw [decide_eq_false h0]; rfl)
  · refine ⟨_, true, _, rfl, rfl, ?_⟩
    exact q
end
end K14
set_option Elab.async false
set_option linter.all false
set_option maxRecDepth 100000
set_option maxHeartbeats 4000000
namespace K14
open PySem PySem.Spec PyProof.Rows L2 My
abbrev s_find_cut : Stmt := topS 15
theorem sc_find_cut : FnScope ["web", "k", "a", "b", "lot"] ["web", "k"] (defScope s_find_cut) := ⟨rfl, rfl, rfl, by decide +kernel, rfl, by decide +kernel, by decide +kernel⟩
section
variable {P : Program} {w : World} {K : PySem.W.Frag} {mg : Str → Option Value} {base : Heap}
theorem ok_find_cut {f : Addr} {fd : FuncData} {m : Nat} (F : Fun K "find_cut" "find_cut" s_find_cut f fd) (B : Bn mg) (D_loose_ties : Own P w K mg base "loose_ties" m ["web"] (spD K FLoose)) (D_parting_lot : Own P w K mg base "parting_lot" m ["web", "a", "b"] (spD K FParting)) : FnOk P w K mg base CX0 (m + 1) f fd ["web", "k"] (spD K FFindCutX) := by
  refine F.ok sc_find_cut (fun vs H Q E h => spD_len (n := 2) (by rintro ds Q ⟨n, T, k, rfl, _⟩; rfl) h) (fun cdv A outer s H vs Q E hr h => ?_)
  refine ⟨_, (pss_cons (ps_for PassesOwn.never rfl (pi_tupK K (pe_own D_loose_ties hr (by rfl) (pa_cons (pv 0) pa_nil))) (pg_tupK K 2 (by rfl) (pgs_cons (pg_name (i := 2) sc_find_cut.nd rfl (.inl rfl)) (pgs_cons (pg_name (i := 3) sc_find_cut.nd rfl (.inl rfl)) pgs_nil))) (pss_cons (ps_set (i := 4) sc_find_cut.nd rfl (.inl rfl) (pe_own D_parting_lot hr (by rfl) (pa_cons (pv 0) (pa_cons (pv 2) (pa_cons (pv 3) pa_nil)))))
      (pss_one (ps_if (pt_cmpR op_lt (pe_callB (lenQ K) (by rfl) B.len (by decide +kernel) (pa_cons (pv 4) pa_nil)) (pv 1) (nomark _)) (pss_one (ps_ret (pv 4))) pss_nil))))
      (pss_one (ps_ret pe_non))), ?_⟩
  refine SS.fn (SS.seq (SS.for_ (SI.tup (SE.call ClOk.d (SA.cons (SE.var _) SA.nil))) (SG.tup (SGs.cons (SG.name _) (SGs.cons (SG.name _) SGs.nil))) (SS.seq (SS.set false _ (SE.call ClOk.d (SA.cons (SE.var _) (SA.cons (SE.var _) (SA.cons (SE.var _) SA.nil)))))
      (SS.ite (ST.test (SE.op OpOk.lt (SE.cb CbOk.len (SA.cons (SE.var _) SA.nil)) (SE.var _))) (SS.ret (SE.var _)) SS.next)))
      (SS.ret SE.non)) 5 rfl h fun ds Qf hl hf => ?_
  obtain ⟨n, T, k, rfl, hW, n12, q1, q2⟩ := hf
  show pSeq _ _ _ ⟨[.d (webD n T), .d (.int k), .no, .no, .no], [], 0, 0⟩
  refine pSeq_ fun X hX => ?_
  array_get_dec
  refine ⟨n, T, rfl, hW, n12, ?_⟩
  array_get_dec
  refine pForN (fun i s => (∃ x2 x3 x4, s = ⟨[.d (webD n T), .d (.int k), x2, x3, x4], [], 0, 0⟩) ∧ ∀ i' < i, ∀ a b lot, (looseL n T)[i']? = some (a, b) → LotP n T a b lot → k ≤ (lot.length : Int)) ⟨⟨_, _, _, rfl⟩, fun i' h => by omega⟩ ?_ ?_
  · rintro i d s2 ed ⟨⟨x2, x3, x4, rfl⟩, hI⟩
    obtain ⟨⟨a, b⟩, el, rfl⟩ := map_at ed
    have hA := looseL_apart hW n12 (List.mem_of_getElem? el)
    array_get_dec
    refine pSeq_ fun X hX => ?_
    array_get_dec
    refine FParting.of hA fun lot ws hlot hws e => ?_
    array_get_dec
    refine hX _ ?_
    clear hX X
    refine pIf_ fun Y N hY hN => ?_
    array_get_dec
    rw [List.length_map]
    refine iteS (fun hc => hY _ ?_) fun hc => hN _ ?_
    · array_get_dec
      exact q2 lot (hlot.cut hA) (of_decide_eq_true hc)
    · array_get_dec
      refine ⟨⟨_, _, _, rfl⟩, fun i' hi' a' b' lot' e' h' => ?_⟩
      rcases Nat.lt_or_ge i' i with g | g
      · exact hI i' g a' b' lot' e' h'
      · have : i' = i := by omega
        subst this
        rw [el] at e'
        cases e'
        have h1 := ways_le hW hws h'.2.2.1 h'.2.2.2.1 h'.2.2.2.2
        have h2 := of_decide_eq_false hc
        omega
  · rintro s2 ⟨⟨x2, x3, x4, rfl⟩, hI⟩
    rw [List.length_map] at hI
    refine hX _ ?_
    array_get_dec
    refine q1 fun lot hc => ?_
    obtain ⟨a, b, hm, hl⟩ := hc.pair hW
    obtain ⟨j, hj, e⟩ := List.getElem_of_mem hm
    exact hI j hj a b lot (by rw [List.getElem?_eq_getElem hj, e]) hl
end
end K14
set_option Elab.async false
set_option linter.all false
set_option maxRecDepth 100000
set_option maxHeartbeats 4000000
namespace K14
open PySem PySem.Spec PyProof.Rows L2 My
abbrev s_law_lots : Stmt := topS 29
theorem sc_law_lots : FnScope ["n", "most", "found", "turn", "later", "lot", "place"] ["n", "most"] (defScope s_law_lots) := ⟨rfl, rfl, rfl, by decide +kernel, rfl, by decide +kernel, by decide +kernel⟩
section
variable {P : Program} {w : World} {K : PySem.W.Frag} {mg : Str → Option Value} {base : Heap}
theorem ok_law_lots {f : Addr} {fd : FuncData} {m : Nat} (F : Fun K "_law_lots" "_law_lots" s_law_lots f fd) (B : Bn mg) : FnOk P w K mg base CX0 (m + 1) f fd ["n", "most"] (spD K FLots) := by
  refine F.ok sc_law_lots (fun vs H Q E h => spD_len (n := 2) (by rintro ds Q ⟨n, most, rfl, _⟩; rfl) h) (fun cdv A outer s H vs Q E hr h => ?_)
  refine ⟨_, (pss_cons (ps_set (i := 2) sc_law_lots.nd rfl (.inl rfl) (pe_lst (pa_cons (pe_lst (pa_cons (pe_tup pa_nil) pa_nil)) pa_nil)))
      (pss_cons (ps_for PassesOwn.never rfl (pi_range1 (by rfl) B.range (pa_cons (pv 1) pa_nil)) (pg_name (i := 3) sc_law_lots.nd rfl (.inl rfl)) (pss_cons (ps_set (i := 4) sc_law_lots.nd rfl (.inl rfl) (pe_lst pa_nil))
      (pss_cons (ps_for PassesOwn.never rfl (pi_listK K (pe_ix (ixL K) (pv 2) (pv 3) (fun _ _ => rfl))) (pg_name (i := 5) sc_law_lots.nd rfl (.inr rfl)) (pss_one (ps_set (i := 4) sc_law_lots.nd rfl (.inl rfl) (pe_op op_cat (pv 4) (pe_lc (own := [("place", 6)]) (by rfl) sc_law_lots.nd (pi_range2 (by rfl) B.range (pa_cons (pe_ifExp (pt_cmpR (neD K hr.units) (pv 5) (pe_tup pa_nil) (nomark _)) (pe_op op_add (pe_ix (ixT K) (pv 5) (pe_op op_sub (pe_callB (lenQ K) (by rfl) B.len (by decide +kernel) (pa_cons (pv 5) pa_nil)) pe_int) (fun _ _ => rfl)) pe_int) pe_int) (pa_cons (pv 0) pa_nil))) (blkOk_by (own := [("place", 6)]) (N := ["n", "most", "found", "turn", "later", "lot", "place"]) (sc := (defScope s_law_lots)) (by decide +kernel)) (fun _ _ _ _ _ => (pg_name (i := 6) sc_law_lots.nd rfl (.inl rfl))) (fun _ _ _ _ _ => pts_nil) (fun _ _ _ _ _ => (pe_op (catA K) (pv 5) (pe_tup (pa_cons (pv 6) pa_nil)))))))))
      (pss_one (ps_expr (pe_bmK K PySem.F.plainAttrs_list PySem.F.slot_list_append PySem.F.type_list_append mt_append (pv 2) (pa_cons (pv 4) pa_nil)))))))
      (pss_one (ps_ret (pe_callB (sumLL K rfl) (by rfl) B.sum (by decide +kernel) (pa_cons (pv 2) (pa_cons (pe_lst pa_nil) pa_nil))))))), ?_⟩
  refine SS.fn (SS.seq (SS.set true _ (SE.lst (SA.cons (SE.lst (SA.cons (SE.tup SA.nil) SA.nil)) SA.nil)))
      (SS.seq (SS.for_ (SI.rng1 (SA.cons (SE.var _) SA.nil)) (SG.name _) (SS.seq (SS.set false _ (SE.lst SA.nil))
      (SS.seq (SS.for_ (SI.lst (SE.op OpOk.ixL (SE.var _) (SE.var _))) (SG.name _) (SS.set false _ (SE.op OpOk.catL (SE.var _) (SE.lc (SI.rng2 (SA.cons (SE.ifE (ST.test (SE.op OpOk.neD (SE.var _) (SE.tup SA.nil))) (SE.op OpOk.add (SE.op OpOk.ixT (SE.var _) (SE.op OpOk.sub (SE.cb CbOk.len (SA.cons (SE.var _) SA.nil)) (SE.int _))) (SE.int _)) (SE.int _)) (SA.cons (SE.var _) SA.nil))) (SG.name _) ST.yes (SE.op OpOk.catT (SE.var _) (SE.tup (SA.cons (SE.var _) SA.nil))) (by decide)))))
      (SS.drop (SE.append _ (SE.var _))))))
      (SS.ret (SE.cb CbOk.sumLL (SA.cons (SE.var _) (SA.cons (SE.lst SA.nil) SA.nil)))))) 7 rfl h fun ds Qf hl hf => ?_
  obtain ⟨n, most, rfl, n7, m7, q⟩ := hf
  show pSeq _ _ _ ⟨[.d (.int n), .d (.int most), .no, .no, .no, .no, .no], [], 0, 0⟩
  refine pSeq_ fun X hX => ?_
  array_get_dec
  refine hX _ ?_
  clear hX X
  have hlot : ∀ t lot, lot ∈ levL n t → AscIn n lot ∧ lot.length = t := fun t lot h => ⟨(mem_levL.mp h).2, (mem_levL.mp h).1⟩
  have hll : ∀ t lot, lot ∈ levL n t → lot.length ≤ n := fun t lot h => by
    have hA := (hlot t lot h).1
    have := nodup_len (hA.1.imp fun {a b} h => by omega : lot.Nodup) (m := ups n) fun x hx => mem_ups.mpr (hA.2 x hx)
    rwa [ups_len] at this
  refine pSeq_ fun X hX => ?_
  array_get_dec
  refine ⟨by omega, by omega, ?_⟩
  rw [Int.toNat_natCast]
  refine pForN (fun i s => ∃ x3 x4 x5 x6 mm, s = ⟨[.d (.int n), .d (.int most), .ob 0, x3, x4, x5, x6], [.lst ((List.range (i + 1)).map fun t => .list ((levL n t).map tI))], 0, mm⟩) ⟨_, _, _, _, _, rfl⟩ ?_ ?_
  · rintro i d s2 ed ⟨x3, x4, x5, x6, mm, rfl⟩
    obtain ⟨hi, rfl⟩ := intsFrom_get ed
    rw [Int.zero_add]
    have hli := levL_len (t := i) n7 (by omega)
    have hls := levL_len (t := i + 1) n7 (by omega)
    array_get_dec
    refine pSeq_ fun X hX => ?_
    array_get_dec
    refine hX _ ?_
    clear hX X
    refine pSeq_ fun X hX => ?_
    array_get_dec
    refine ⟨.list ((levL n i).map tI), atI_nat (j := i) (by rw [List.getElem?_map, List.getElem?_range (by omega)]; rfl), (levL n i).map tI, rfl, ?_⟩
    refine pForN (fun j s => ∃ x5 x6, s = ⟨[.d (.int n), .d (.int most), .ob 0, .d (.int i), .l ((((levL n i).take j).flatMap (moreL n)).map tI), x5, x6], [.lst ((List.range (i + 1)).map fun t => .list ((levL n t).map tI))], 0, mm⟩) ⟨_, _, rfl⟩ ?_ ?_
    · rintro j d s2 ed2 ⟨x5, x6, rfl⟩
      obtain ⟨lot, el, rfl⟩ := map_at ed2
      have hm := List.mem_of_getElem? el
      obtain ⟨hA, lt⟩ := hlot i lot hm
      have hlen := hll i lot hm
      have hml := moreL_len hA
      have hnx := nxtP_le hA
      have htk : ((levL n i).take (j + 1)).flatMap (moreL n) = ((levL n i).take j).flatMap (moreL n) ++ moreL n lot := by
        rw [List.take_add_one, el, List.flatMap_append]
        simp
      have hfl : ∀ k, (((levL n i).take k).flatMap (moreL n)).length ≤ 35 := fun k => by
        refine Nat.le_trans ?_ hls
        show _ ≤ ((levL n i).flatMap (moreL n)).length
        conv => rhs; rw [← List.take_append_drop k (levL n i), List.flatMap_append, List.length_append]
        omega
      have nx_n : nxtP lot ≤ n := by
        rcases List.eq_nil_or_concat lot with rfl | ⟨l, x, rfl⟩
        · exact Int.natCast_nonneg n
        · rw [List.concat_eq_append, nxtP_snoc]
          have := hA.2 x (by simp)
          omega
      array_get_dec
      refine ⟨⟨2, fit_tI (by omega)⟩, ⟨2, fit_tI (r := []) (Nat.zero_le _)⟩, shaped_tI, shaped_tI (ns := []), ?_⟩
      rw [show PyData.eqv (tI lot) (.tuple []) = decide (lot = []) from eqv_tIs lot []]
      refine iteS (fun hc => ?_) fun hc => ?_
      · have hne : lot ≠ [] := by simpa using hc
        obtain ⟨x, ex⟩ : ∃ x, lot[lot.length - 1]? = some x := ⟨_, List.getElem?_eq_getElem (by have := List.length_pos_iff.mpr hne; omega)⟩
        have enx : x + 1 = nxtP lot := by
          unfold nxtP
          rw [List.getLast?_eq_getElem?, ex]
        refine ⟨.int x, atI_last (by rw [List.length_map, List.getElem?_map, ex]; rfl), ?_⟩
        dsimp only
        rw [enx]
        refine ⟨by omega, by omega, by omega, by omega, ?_⟩
        refine pLcD_all (List.range ((n : Int) - nxtP lot).toNat) (fun j : Nat => .int (nxtP lot + (j : Int))) (fun j : Nat => tI (lot ++ [nxtP lot + (j : Int)])) (by rw [List.length_range]; omega) rfl (fun j hj Y hY => ?_) ?_
        · array_get_dec
          refine ⟨by rw [List.length_map]; omega, ?_⟩
          have e : PyData.tuple (lot.map PyData.int ++ [.int (nxtP lot + (j : Int))]) = tI (lot ++ [nxtP lot + (j : Int)]) := by
            unfold tI
            rw [List.map_append]
            rfl
          rw [e]
          exact hY
        · array_get_dec
          have h1 := hfl j
          have e : (List.range ((n : Int) - nxtP lot).toNat).map (fun j : Nat => tI (lot ++ [nxtP lot + (j : Int)])) = (moreL n lot).map tI := by
            unfold moreL
            rw [List.map_map]
            rfl
          rw [e, htk, List.map_append]
          exact ⟨by rw [List.length_map, List.length_map]; omega, _, _, rfl⟩
      · have hne : lot = [] := by simpa using hc
        refine ⟨by omega, by omega, by omega, by omega, ?_⟩
        rw [show ((n : Int) - 0) = (n : Int) - nxtP lot by rw [hne]; rfl, show My.intsFrom 0 = My.intsFrom (nxtP lot) by rw [hne]; rfl]
        refine pLcD_all (List.range ((n : Int) - nxtP lot).toNat) (fun j : Nat => .int (nxtP lot + (j : Int))) (fun j : Nat => tI (lot ++ [nxtP lot + (j : Int)])) (by rw [List.length_range]; omega) rfl (fun j hj Y hY => ?_) ?_
        · array_get_dec
          refine ⟨by rw [List.length_map]; omega, ?_⟩
          have e : PyData.tuple (lot.map PyData.int ++ [.int (nxtP lot + (j : Int))]) = tI (lot ++ [nxtP lot + (j : Int)]) := by
            unfold tI
            rw [List.map_append]
            rfl
          rw [e]
          exact hY
        · array_get_dec
          have h1 := hfl j
          have e : (List.range ((n : Int) - nxtP lot).toNat).map (fun j : Nat => tI (lot ++ [nxtP lot + (j : Int)])) = (moreL n lot).map tI := by
            unfold moreL
            rw [List.map_map]
            rfl
          rw [e, htk, List.map_append]
          exact ⟨by rw [List.length_map, List.length_map]; omega, _, _, rfl⟩
    · rintro s2 ⟨x5, x6, rfl⟩
      rw [List.length_map, List.take_length]
      refine hX _ ?_
      clear hX X
      array_get_dec
      have e : ((List.range (i + 1 + 1)).map fun t => PyData.list ((levL n t).map tI)) = ((List.range (i + 1)).map fun t => PyData.list ((levL n t).map tI)) ++ [PyData.list (((levL n i).flatMap (moreL n)).map tI)] := by
        rw [List.range_succ (n := i + 1), List.map_append]
        rfl
      rw [e]
      exact ⟨by rw [List.length_map, List.length_range]; omega, _, _, _, _, _, rfl⟩
  · rintro s2 ⟨x3, x4, x5, x6, mm, rfl⟩
    rw [intsFrom_len]
    refine hX _ ?_
    clear hX X
    array_get_dec
    have efl : ((List.range (most + 1)).map fun t => (levL n t).map tI).flatten = (lotsL n most).map tI := by
      unfold lotsL
      rw [List.map_flatMap, List.flatMap_def]
    refine ⟨(List.range (most + 1)).map fun t => (levL n t).map tI, by rw [List.map_map]; rfl, by simp, ?_, ?_⟩
    · rw [efl, List.length_map]
      have := lotsL_len n7 m7
      omega
    · rw [efl]
      exact q
end
end K14
set_option Elab.async false
set_option linter.all false
set_option maxRecDepth 100000
set_option maxHeartbeats 4000000
namespace K14
open PySem PySem.Spec PyProof.Rows L2 My
abbrev s_law_near : Stmt := topS 24
theorem sc_law_near : FnScope ["web", "place", "found", "a", "b"] ["web", "place"] (defScope s_law_near) := ⟨rfl, rfl, rfl, by decide +kernel, rfl, by decide +kernel, by decide +kernel⟩
section
variable {P : Program} {w : World} {K : PySem.W.Frag} {mg : Str → Option Value} {base : Heap}
/-- x, or nothing, in a new list -/
theorem one_or {c : Prop} [Decidable c] {σ : L2.St} {i : Nat} {z : Int} {H : Hp} {Q : VK} (h : σ[i]? = some (some (.int z))) (q : ∀ l H', Same H H' → H' l = some (.lst ((if c then [z] else []).map V.int)) → Q (.ref l) H') :
    if decide c = true then tLst (tCons (tVar i) tNil) σ H Q else tLst tNil σ H Q := by
  by_cases hc : c
  · rw [decide_eq_true hc]
    rw [if_pos hc] at q
    exact iteT ⟨_, h, by show 1 ≤ sizeLine; decide, fun l hl => q l _ (My.Same.new hl) upd_same⟩
  · rw [decide_eq_false hc]
    rw [if_neg hc] at q
    exact iteF ⟨by show 0 ≤ sizeLine; decide, fun l hl => q l _ (My.Same.new hl) upd_same⟩
theorem ok_law_near {f : Addr} {fd : FuncData} {m : Nat} (F : Fun K "_law_near" "_law_near" s_law_near f fd) (B : Bn mg) : FnOk P w K mg base CX0 (m + 1) f fd ["web", "place"] (spNbr K) := by
  refine F.ok sc_law_near (fun vs H Q E h => ?_) (fun cdv A outer s H vs Q E hr h => ?_)
  · obtain ⟨v, n, T, x, rfl, _⟩ := h
    rfl
  · obtain ⟨v, n, T, x, rfl, hv, hT1, q⟩ := h
    obtain ⟨wa, ta, ts, rfl, hW, hTs, lts, get⟩ := hv.web
    refine ⟨_, (pss_cons (ps_set (i := 2) sc_law_near.nd rfl (.inl rfl) (pe_lst pa_nil))
      (pss_cons (ps_for PassesOwn.never rfl (pi_tupK K (pe_ix (ixT K) (pv 0) pe_int (fun _ _ => rfl))) (pg_tupK K 2 (by rfl) (pgs_cons (pg_name (i := 3) sc_law_near.nd rfl (.inl rfl)) (pgs_cons (pg_name (i := 4) sc_law_near.nd rfl (.inl rfl)) pgs_nil))) (pss_one (ps_set (i := 2) sc_law_near.nd rfl (.inl rfl) (pe_op op_cat (pe_op op_cat (pv 2) (pe_ifExp (pt_cmpR op_eq (pv 3) (pv 1) (nomark _)) (pe_lst (pa_cons (pv 4) pa_nil)) (pe_lst pa_nil))) (pe_ifExp (pt_cmpR op_eq (pv 4) (pv 1) (nomark _)) (pe_lst (pa_cons (pv 3) pa_nil)) (pe_lst pa_nil))))))
      (pss_one (ps_ret (pe_callTy (tupleOf K) (by rfl) B.tuple_ (by decide +kernel) (pa_cons (pe_callB cr_sortedI (by rfl) B.sorted (by decide +kernel) (pa_cons (pv 2) pa_nil)) pa_nil)))))), ?_⟩
    refine ⟨by show 0 ≤ sizeLine; decide, fun f0 hf0 => ?_⟩
    have s0 := My.Same.new (o := HO.lst []) hf0
    refine ⟨_, rfl, wa, _, 1, _, rfl, rfl, My.Same.sqt s0 hW, rfl, ta, rfl, ⟨_, My.Same.sqt s0 hTs⟩, ?_⟩
    refine for_tup (xs := ts) (fun j σ H3 => ∃ (fa : Addr) (x3 x4 : Option V), σ = [some (.ref wa), some (.int x), some (.ref fa), x3, x4] ∧ Same H H3 ∧ H3 fa = some (.lst ((nearF (T.take j) x).map V.int))) ?_ ?_ ?_ ?_
    · exact ⟨f0, none, none, rfl, s0, upd_same⟩
    · rintro j σ H3 _ ⟨_, _, _, _, s3, _⟩
      exact My.Same.sqt s3 hTs
    · rintro j y σ H3 ex ⟨fa, x3, x4, rfl, s3, e3⟩
      obtain ⟨a, b, t, e1, rfl, ht⟩ := get j y ex
      have hjT : j < T.length := (List.getElem?_eq_some_iff.mp e1).1
      have hl : (nearF (T.take j) x).length ≤ 2000 := by
        have := nearF_len x (T.take j)
        rw [List.length_take] at this
        omega
      refine ⟨t, _, rfl, My.Same.sqt s3 ht, rfl, _, _, rfl, _, _, rfl, rfl, ?_⟩
      refine (show tAsg _ _ _ _ _ from tAsg_e (tOp_e (tOp_e ?_)))
      refine ⟨_, rfl, ?_⟩
      refine ⟨_, rfl, _, rfl, rfl, _, rfl, ?_⟩
      rw [dInt_iff (p := a = x) Iff.rfl]
      refine one_or rfl (fun l1 H4 s4 e4 => ?_)
      refine ⟨fa, l1, _, _, rfl, rfl, s4 _ _ e3, e4, ?_, fun c1 hc1 => ?_⟩
      · rw [List.length_map, List.length_map]
        have : (if a = x then [b] else []).length ≤ 1 := by split <;> simp
        exact small (by omega)
      have s5 := s4.trans (My.Same.new (o := HO.lst ((nearF (T.take j) x).map V.int ++ (if a = x then [b] else []).map V.int)) hc1)
      refine ⟨_, rfl, _, rfl, rfl, _, rfl, ?_⟩
      rw [dInt_iff (p := b = x) Iff.rfl]
      refine one_or rfl (fun l2 H6 s6 e6 => ?_)
      refine ⟨c1, l2, _, _, rfl, rfl, s6 _ _ upd_same, e6, ?_, fun c2 hc2 => ?_⟩
      · rw [List.length_append, List.length_map, List.length_map, List.length_map]
        have : (if a = x then [b] else []).length ≤ 1 := by split <;> simp
        have : (if b = x then [a] else []).length ≤ 1 := by split <;> simp
        exact small (by omega)
      refine ⟨c2, _, _, rfl, s3.trans (s5.trans (s6.trans (My.Same.new hc2))), ?_⟩
      rw [upd_same, List.take_add_one, e1]
      unfold nearF
      rw [List.flatMap_append, List.map_append]
      show some (HO.lst _) = some (HO.lst (_ ++ List.map V.int (List.flatMap _ [(a, b)])))
      rw [List.flatMap_cons, List.flatMap_nil, List.append_nil, List.map_append, List.append_assoc]
    · rintro σ H3 ⟨fa, x3, x4, rfl, s3, e3⟩
      rw [lts, List.take_length] at e3
      refine ⟨_, rfl, fa, nearF T x, rfl, SqL.of e3, fun r sa hr hle hsa => ?_⟩
      have er := sortI_eq (hr.trans (nearF_perm x T)) hle
      subst er
      refine ⟨sa, _, rfl, .inl ⟨SqL.of upd_same, fun ra hra => ?_⟩⟩
      exact q ra _ (s3.trans ((My.Same.new hsa).trans (My.Same.new hra))) (SqT.of upd_same)
end
end K14
set_option Elab.async false
set_option linter.all false
set_option maxRecDepth 100000
set_option maxHeartbeats 4000000
namespace K14
open PySem PySem.Spec PyProof.Rows L2 My
abbrev s_law_piece : Stmt := topS 25
theorem sc_law_piece : FnScope ["web", "lot", "place", "found", "turn", "more", "one", "other"] ["web", "lot", "place"] (defScope s_law_piece) := ⟨rfl, rfl, rfl, by decide +kernel, rfl, by decide +kernel, by decide +kernel⟩
section
variable {P : Program} {w : World} {K : PySem.W.Frag} {mg : Str → Option Value} {base : Heap}
theorem ok_law_piece {f : Addr} {fd : FuncData} {m : Nat} (F : Fun K "_law_piece" "_law_piece" s_law_piece f fd) (B : Bn mg) (D_law_near : Own P w K mg base "_law_near" m ["web", "place"] (spNbr K)) : FnOk P w K mg base CX0 (m + 1) f fd ["web", "lot", "place"] (spPiece K) := by
  refine F.ok sc_law_piece (fun vs H Q E h => ?_) (fun cdv A outer s H vs Q E hr h => ?_)
  · obtain ⟨v, n, T, lq, lot, s, rfl, _⟩ := h
    rfl
  · obtain ⟨v, n, T, lq, lot, s, rfl, hv, hWeb, n1, n12, hL, lL, bL, s0, s1, q⟩ := h
    have hT144 := hWeb.len n12
    refine ⟨_, (pss_cons (ps_set (i := 3) sc_law_piece.nd rfl (.inl rfl) (pe_lst (pa_cons (pv 2) pa_nil)))
      (pss_cons (ps_for PassesOwn.never rfl (pi_range1 (by rfl) B.range (pa_cons (pe_callB (lenQ K) (by rfl) B.len (by decide +kernel) (pa_cons (pv 1) pa_nil)) pa_nil)) (pg_name (i := 4) sc_law_piece.nd rfl (.inl rfl)) (pss_cons (ps_set (i := 5) sc_law_piece.nd rfl (.inl rfl) (pe_callTy (listOf K) (by rfl) B.list_ (by decide +kernel) (pa_cons (pv 3) pa_nil)))
      (pss_cons (ps_for PassesOwn.never rfl (pi_listK K (pv 3)) (pg_name (i := 6) sc_law_piece.nd rfl (.inl rfl)) (pss_one (ps_set (i := 5) sc_law_piece.nd rfl (.inl rfl) (pe_op op_cat (pv 5) (pe_lc (own := [("other", 7)]) (by rfl) sc_law_piece.nd (pi_tupK K (pe_own D_law_near hr (by rfl) (pa_cons (pv 0) (pa_cons (pv 6) pa_nil)))) (blkOk_by (own := [("other", 7)]) (N := ["web", "lot", "place", "found", "turn", "more", "one", "other"]) (sc := (defScope s_law_piece)) (by decide +kernel)) (fun _ _ _ _ _ => (pg_name (i := 7) sc_law_piece.nd rfl (.inl rfl))) (fun _ _ _ _ _ => (pts_one (pt_cmpR (inQ K) (pv 7) (pv 1) (by rfl)))) (fun _ _ _ _ _ => (pv 7)))))))
      (pss_one (ps_set (i := 3) sc_law_piece.nd rfl (.inl rfl) (pe_callB (sortedSet w rfl) (by rfl) B.sorted (by decide +kernel) (pa_cons (pe_callTy (setOfL K w rfl) (by rfl) B.set (by decide +kernel) (pa_cons (pv 5) pa_nil)) pa_nil)))))))
      (pss_one (ps_ret (pe_callTy (tupleOf K) (by rfl) B.tuple_ (by decide +kernel) (pa_cons (pv 3) pa_nil)))))), ?_⟩
    refine ⟨_, rfl, by show 1 ≤ sizeLine; decide, fun f0 hf0 => ?_⟩
    have sf := My.Same.new (o := HO.lst [V.int s]) hf0
    dsimp only
    refine (show tSeq _ _ _ _ _ from tSeq_e ?_)
    refine ⟨_, rfl, lq, _, rfl, .inr (My.Same.sqt sf hL), _, rfl, by rw [List.length_map]; omega, by rw [List.length_map]; omega, ?_⟩
    rw [Int.toNat_natCast, List.length_map]
    refine for_range (fun i σ H1 => ∃ (fa : Addr) (x4 x5 x6 : Option V) (fs : List Int), σ = [some v, some (.ref lq), some (.int s), some (.ref fa), x4, x5, x6, none] ∧ Same H H1 ∧ H1 fa = some (.lst (fs.map V.int)) ∧ fs.Pairwise (· < ·) ∧ (∀ x ∈ fs, Reach T lot s x) ∧ s ∈ fs ∧ (∀ x ∈ fs, 0 ≤ x ∧ x < n) ∧ (Closed T lot fs ∨ i + 1 ≤ fs.length)) ?_ ?_ ?_
    · exact ⟨f0, none, none, none, [s], rfl, sf, upd_same, by simp, fun x hx => by rw [List.mem_singleton.mp hx]; exact .base, by simp, fun x hx => by rw [List.mem_singleton.mp hx]; exact ⟨s0, s1⟩, .inr (by simp)⟩
    · rintro i σ H1 hi ⟨fa, x4, x5, x6, fs, rfl, sm, ef, hp, hR, hs, hbd, hcl⟩
      have l12 : fs.length ≤ n := len_bd (lt_nodup hp) hbd
      -- more = list(found)
      refine (show tSeq _ _ _ _ _ from tSeq_e (tAsg_e ?_))
      refine ⟨_, rfl, fa, _, rfl, .inl (SqL.of ef), fun ma hma => ?_⟩
      have t1 := My.Same.new (o := HO.lst (fs.map V.int)) hma
      have em : upd H1 ma (.lst (fs.map V.int)) ma = some (.lst (fs.map V.int)) := upd_same
      have ef1 := t1 _ _ ef
      have sm1 := sm.trans t1
      generalize upd H1 ma (HO.lst (fs.map V.int)) = H2 at em ef1 sm1 ⊢
      -- for one in found
      dsimp only
      refine (show tSeq _ _ _ _ _ from tSeq_e ?_)
      refine ⟨_, rfl, fa, rfl, ⟨_, SqL.of ef1⟩, ?_⟩
      refine for_list (xs := fs.map V.int) (fun j σ H3 => ∃ (mb : Addr) (x6 : Option V) (ms : List Int), σ = [some v, some (.ref lq), some (.int s), some (.ref fa), some (.int (0 + (i : Int))), some (.ref mb), x6, none] ∧ Same H2 H3 ∧ H3 mb = some (.lst (ms.map V.int)) ∧ (∀ x ∈ fs, x ∈ ms) ∧ (∀ x ∈ fs.take j, ∀ y ∈ nearS T x, y ∈ lot → y ∈ ms) ∧ (∀ y ∈ ms, y ∈ fs ∨ ∃ x ∈ fs, y ∈ nearS T x ∧ y ∈ lot) ∧ ms.length ≤ 12 + 288 * j) ?_ ?_ ?_ ?_
      · exact ⟨ma, x6, fs, rfl, Same.refl _, em, fun x h => h, fun x h => by simp at h, fun y h => .inl h, by omega⟩
      · rintro j σ H3 _ ⟨_, _, _, _, s3, _⟩
        exact SqL.of (s3 _ _ ef1)
      · rintro j x σ H3 ej ⟨mb, x6, ms, rfl, s3, e3, m1, m2, m3, m4⟩
        obtain ⟨z, ez, rfl⟩ : ∃ z, fs[j]? = some z ∧ x = .int z := by
          rw [List.getElem?_map] at ej
          cases e : fs[j]? with
          | none => rw [e] at ej; cases ej
          | some y => rw [e] at ej; exact ⟨y, rfl, (Option.some.inj ej).symm⟩
        have hj : j < fs.length := (List.getElem?_eq_some_iff.mp ez).1
        have hzm := List.mem_of_getElem? ez
        have sm3 := sm1.trans s3
        refine (show tAsg _ _ _ _ _ from tAsg_e (tOp_e ?_))
        refine ⟨_, rfl, ?_⟩
        refine ⟨_, rfl, _, rfl, v, (n : Int), T, z, rfl, Dq.same sm3 hv, by omega, fun t H4 s4 ht => ?_⟩
        have nl : (nearS T z).length ≤ 288 := by
          have := nearS_len (T := T) (x := z)
          omega
        refine ⟨t, rfl, ⟨_, ht⟩, fun D hD => ?_⟩
        refine lc_tup (xs := (nearS T z).map V.int) (fun k H5 => Same H4 H5 ∧ H5 D = some (.lst ((((nearS T z).take k).filter fun y => decide (y ∈ lot)).map V.int))) ⟨My.Same.new hD, upd_same⟩ (fun k H5 _ hP => My.Same.sqt hP.1 ht) ?_ ?_
        · rintro k x H5 ek ⟨s5, eD⟩
          obtain ⟨y, ey, rfl⟩ : ∃ y, (nearS T z)[k]? = some y ∧ x = .int y := by
            rw [List.getElem?_map] at ek
            cases e : (nearS T z)[k]? with
            | none => rw [e] at ek; cases ek
            | some y => rw [e] at ek; exact ⟨y, rfl, (Option.some.inj ek).symm⟩
          refine ⟨rfl, ?_⟩
          refine ⟨_, rfl, _, rfl, lq, _, rfl, .inr (My.Same.sqt (sm3.trans (s4.trans s5)) hL), rfl, flat_ints, _, rfl, ?_⟩
          show if inV (.int y) (lot.map V.int) = true then _ else _
          rw [inV_ints]
          have hl : (((nearS T z).take k).filter fun y => decide (y ∈ lot)).length ≤ 288 := by
            have h1 := List.length_filter_le (fun y : Int => decide (y ∈ lot)) ((nearS T z).take k)
            rw [List.length_take] at h1
            omega
          by_cases hy : y ∈ lot
          · rw [decide_eq_true hy]
            refine iteT ⟨_, rfl, _, eD, by rw [List.length_map]; exact smallT (by omega), My.Same.updD s5 hD, ?_⟩
            rw [upd_same, List.take_add_one, ey, List.filter_append]
            show some (HO.lst (_ ++ [V.int y])) = some (HO.lst (List.map V.int (_ ++ List.filter _ [y])))
            rw [List.filter_cons_of_pos (by simpa using hy), map_snoc]
            rfl
          · rw [decide_eq_false hy]
            refine iteF ⟨s5, ?_⟩
            rw [eD, List.take_add_one, ey, List.filter_append]
            show some (HO.lst _) = some (HO.lst (List.map V.int (_ ++ List.filter _ [y])))
            rw [List.filter_cons_of_neg (by simpa using hy), List.filter_nil, List.append_nil]
        · rintro H5 ⟨s5, eD⟩
          rw [List.length_map, List.take_length] at eD
          have fl : ((nearS T z).filter fun y => decide (y ∈ lot)).length ≤ 288 := by
            have h1 := List.length_filter_le (fun y : Int => decide (y ∈ lot)) (nearS T z)
            omega
          refine ⟨mb, D, _, _, rfl, rfl, s5 _ _ (s4 _ _ e3), eD, ?_, fun c hc => ?_⟩
          · rw [List.length_map, List.length_map]
            exact small (by omega)
          rw [← List.map_append]
          refine ⟨c, _, ms ++ (nearS T z).filter (fun y => decide (y ∈ lot)), rfl, s3.trans (s4.trans (s5.trans (My.Same.new hc))), upd_same, fun x hx => List.mem_append_left _ (m1 x hx), fun x hx y hy hl => ?_, fun y hy => ?_, ?_⟩
          · rw [List.take_add_one, ez] at hx
            rcases List.mem_append.mp hx with hx | hx
            · exact List.mem_append_left _ (m2 x hx y hy hl)
            · have e : x = z := by simpa using hx
              subst e
              exact List.mem_append_right _ (List.mem_filter.mpr ⟨hy, decide_eq_true hl⟩)
          · rcases List.mem_append.mp hy with hy | hy
            · exact m3 y hy
            · obtain ⟨h1, h2⟩ := List.mem_filter.mp hy
              exact .inr ⟨z, hzm, h1, of_decide_eq_true h2⟩
          · rw [List.length_append]
            omega
      · rintro σ H3 ⟨mb, x6, ms, rfl, s3, e3, m1, m2, m3, m4⟩
        rw [List.length_map, List.take_length] at m2
        rw [List.length_map] at m4
        have mR : ∀ y ∈ ms, Reach T lot s y := fun y hy => by
          rcases m3 y hy with h | ⟨x, hx, h1, h2⟩
          · exact hR y h
          · exact .step (hR x hx) h1 h2
        -- found = sorted(set(more))
        dsimp only
        refine (show tAsg _ _ _ _ _ from tAsg_e ?_)
        refine ⟨_, rfl, mb, ms, rfl, SqL.of e3, by omega, fun sa c hsa _ hcL => ⟨sa, _, c, rfl, upd_same, ?_, fun gs ga hgs hgm hgl hga => ?_⟩⟩
        · have := hcL (s :: lot) (fun k hk => by
            rcases reach_sub (mR k hk) with rfl | h
            · exact List.mem_cons_self
            · exact List.mem_cons_of_mem _ h)
          rw [List.length_cons] at this
          omega
        have gm : ∀ y, y ∈ gs ↔ y ∈ ms := fun y => by rw [hgm y, decide_eq_true_eq]
        refine ⟨ga, _, _, _, gs, rfl, sm1.trans (s3.trans ((My.Same.new hsa).trans (My.Same.new hga))), upd_same, hgs, fun x hx => mR x ((gm x).mp hx), (gm s).mpr (m1 s hs), fun x hx => ?_, ?_⟩
        · rcases m3 x ((gm x).mp hx) with h | ⟨x', hx', h1, h2⟩
          · exact hbd x h
          · exact nearS_bd hWeb h1
        · exact round_next (s := s) (lt_nodup hp) hcl hR (lt_nodup hgs) (fun x hx => (gm x).mpr (m1 x hx)) (fun x hx y hy hl => (gm y).mpr (m2 x hx y hy hl)) (fun y hy => m3 y ((gm y).mp hy))
    · rintro σ H1 ⟨fa, x4, x5, x6, fs, rfl, sm, ef, hp, hR, hs, hbd, hcl⟩
      have hc := round_end (lt_nodup hp) hcl (fun x hx => reach_sub (hR x hx))
      refine ⟨_, rfl, fa, _, rfl, .inl ⟨SqL.of ef, fun ra hra => ?_⟩⟩
      exact q ra fs _ ⟨hp, fun x => ⟨hR x, reach_closed hs hc⟩⟩ (sm.trans (My.Same.new hra)) (SqT.of upd_same)
end
end K14
set_option Elab.async false
set_option linter.all false
set_option maxRecDepth 100000
set_option maxHeartbeats 4000000
namespace K14
open PySem PySem.Spec PyProof.Rows L2 My
abbrev s_law_pieces : Stmt := topS 26
theorem sc_law_pieces : FnScope ["web", "lot", "place"] ["web", "lot"] (defScope s_law_pieces) := ⟨rfl, rfl, rfl, by decide +kernel, rfl, by decide +kernel, by decide +kernel⟩
section
variable {P : Program} {w : World} {K : PySem.W.Frag} {mg : Str → Option Value} {base : Heap}
theorem ok_law_pieces {f : Addr} {fd : FuncData} {m : Nat} (F : Fun K "_law_pieces" "_law_pieces" s_law_pieces f fd) (B : Bn mg) (D_law_piece : Own P w K mg base "_law_piece" m ["web", "lot", "place"] (spPiece K)) : FnOk P w K mg base CX0 (m + 1) f fd ["web", "lot"] (spPieces K) := by
  refine F.ok sc_law_pieces (fun vs H Q E h => ?_) (fun cdv A outer s H vs Q E hr h => ?_)
  · obtain ⟨v, n, T, lq, lot, rfl, _⟩ := h
    rfl
  · obtain ⟨v, n, T, lq, lot, rfl, hv, hWeb, n1, n12, hL, lL, bL, uL, q⟩ := h
    refine ⟨_, (pss_one (ps_ret (pe_callTy (tupleOf K) (by rfl) B.tuple_ (by decide +kernel) (pa_cons (pe_callB (sortedTL K P w rfl) (by rfl) B.sorted (by decide +kernel) (pa_cons (pe_callTy (setOfT K P w rfl hr.units) (by rfl) B.set (by decide +kernel) (pa_cons (pe_lc (own := [("place", 2)]) (by rfl) sc_law_pieces.nd (pi_tupK K (pv 1)) (blkOk_by (own := [("place", 2)]) (N := ["web", "lot", "place"]) (sc := (defScope s_law_pieces)) (by decide +kernel)) (fun _ _ _ _ _ => (pg_name (i := 2) sc_law_pieces.nd rfl (.inl rfl))) (fun _ _ _ _ _ => pts_nil) (fun _ _ _ _ _ => (pe_own D_law_piece hr (by rfl) (pa_cons (pv 0) (pa_cons (pv 1) (pa_cons (pv 2) pa_nil)))))) pa_nil)) pa_nil)) pa_nil)))), ?_⟩
    refine (show tRet _ _ _ _ from tCB1_e (tCB1_e (tCB1_e ?_)))
    refine lc_tuplesT (K := K) (lq := lq) (lot := lot) (Pr := PieceIs T lot) (fun Q h => ⟨_, rfl, h⟩) hL (by omega) (fun x hx H1 t1 R r => ?_) (fun x => rfl) (fun a us rms H1 lr hr s1 ea hus => ?_)
    · have hb := bL x hx
      exact ⟨_, rfl, _, rfl, _, rfl, v, n, T, lq, lot, x, rfl, Dq.same t1 hv, hWeb, n1, n12, My.Same.sqt t1 hL, lL, bL, hb.1, hb.2, fun aa rr H2 hp t2 hrr => r aa rr H2 hp t2 hrr⟩
    obtain ⟨ks, rfl, hks, hkt⟩ := ks_of (DpAll.same wo_le hus)
    have lks : ks.length = lot.length := by
      have := congrArg List.length hks
      rw [List.length_map] at this
      omega
    have kp : ∀ p ∈ ks, ∃ x ∈ lot, PieceIs T lot x p.2 := fun p hp => by
      obtain ⟨j, hj, e⟩ := List.getElem_of_mem hp
      have e1 : rms[j]? = some p.2 := by
        rw [← hks, List.getElem?_map, List.getElem?_eq_getElem hj, e]
        rfl
      have e2 : lot[j]? = some lot[j] := List.getElem?_eq_getElem (by omega)
      exact ⟨_, List.getElem_mem _, hr j _ _ e1 e2⟩
    refine ⟨a, ks, rfl, SqL.of ea, hkt, by omega, fun sa L hsa h1 h2 => ?_⟩
    have sS := My.Same.new (o := SetTO P w sa L) hsa
    refine ⟨sa, L, rfl, upd_same, fun p hp => ⟨My.Same.sqt sS (hkt p (h1 p hp)), ?_⟩, fun L' ra pm nd l64 lx hra => ?_⟩
    · obtain ⟨x, _, hp2⟩ := kp p (h1 p hp)
      exact hp2.ne
    refine ⟨ra, _, rfl, .inl ⟨SqL.of upd_same, fun ta hta => ?_⟩⟩
    have sA := sS.trans ((My.Same.new (o := HO.lst (L'.map fun q => V.ref q.1)) hra).trans (My.Same.new (o := HO.tup (L'.map fun q => V.ref q.1)) hta))
    have pI : PiecesIs T lot (L'.map (·.2)) := by
      refine ⟨lx, nd, fun r => ?_⟩
      constructor
      · intro hr2
        obtain ⟨p, hp, rfl⟩ := List.mem_map.mp hr2
        exact kp p (h1 p (pm.mem_iff.mp hp))
      · rintro ⟨x, hx, hp⟩
        obtain ⟨j, hj, e⟩ := List.getElem_of_mem hx
        have e2 : lot[j]? = some x := List.getElem?_eq_some_iff.mpr ⟨hj, e⟩
        have hjk : j < ks.length := by omega
        have e1 : rms[j]? = some ks[j].2 := by
          rw [← hks, List.getElem?_map, List.getElem?_eq_getElem hjk]
          rfl
        have := (hr j _ _ e1 e2).eq hp
        obtain ⟨p, hp3, e3⟩ := List.mem_map.mp (h2 ks[j] (List.getElem_mem _))
        refine List.mem_map.mpr ⟨p, pm.mem_iff.mpr hp3, ?_⟩
        rw [e3, this]
    have lp : L'.length ≤ 12 := by
      have hsub : ∀ r ∈ L'.map (·.2), r ∈ ks.map (·.2) := fun r hr2 => by
        obtain ⟨p, hp, rfl⟩ := List.mem_map.mp hr2
        exact List.mem_map.mpr ⟨p, h1 p (pm.mem_iff.mp hp), rfl⟩
      have := len_subG nd hsub
      rw [List.length_map, List.length_map] at this
      omega
    refine q ta _ _ pI (by rw [List.length_map]; exact lp) (s1.trans sA) (.tup (SqT.of upd_same) ?_)
    exact ks_to fun p hp => My.Same.sqt sA (hkt p (h1 p (pm.mem_iff.mp hp)))
end
end K14
set_option Elab.async false
set_option linter.all false
set_option maxRecDepth 100000
set_option maxHeartbeats 4000000
namespace K14
open PySem PySem.Spec PyProof.Rows L2 My
abbrev s_law_others : Stmt := topS 27
theorem sc_law_others : FnScope ["web", "lot", "place"] ["web", "lot"] (defScope s_law_others) := ⟨rfl, rfl, rfl, by decide +kernel, rfl, by decide +kernel, by decide +kernel⟩
section
variable {P : Program} {w : World} {K : PySem.W.Frag} {mg : Str → Option Value} {base : Heap}
theorem ok_law_others {f : Addr} {fd : FuncData} {m : Nat} (F : Fun K "_law_others" "_law_others" s_law_others f fd) (B : Bn mg) : FnOk P w K mg base CX0 (m + 1) f fd ["web", "lot"] (spOthers K) := by
  refine F.ok sc_law_others (fun vs H Q E h => ?_) (fun cdv A outer s H vs Q E hr h => ?_)
  · obtain ⟨v, n, e, lq, lot, rfl, _⟩ := h
    rfl
  · obtain ⟨v, n, e, lq, lot, rfl, hv, hn, hS, q⟩ := h
    obtain ⟨wa, wx, rfl, hW, _⟩ := hv.first
    refine ⟨_, (pss_one (ps_ret (pe_callTy (tupleOf K) (by rfl) B.tuple_ (by decide +kernel) (pa_cons (pe_lc (own := [("place", 2)]) (by rfl) sc_law_others.nd (pi_range1 (by rfl) B.range (pa_cons (pe_ix (ixT K) (pv 0) pe_int (fun _ _ => rfl)) pa_nil)) (blkOk_by (own := [("place", 2)]) (N := ["web", "lot", "place"]) (sc := (defScope s_law_others)) (by decide +kernel)) (fun _ _ _ _ _ => (pg_name (i := 2) sc_law_others.nd rfl (.inl rfl))) (fun _ _ _ _ _ => (pts_one (pt_cmpR (notInQ K) (pv 2) (pv 1) (by rfl)))) (fun _ _ _ _ _ => (pv 2))) pa_nil)))), ?_⟩
    refine ⟨_, rfl, wa, _, 0, _, rfl, rfl, hW, rfl, _, rfl, by omega, by omega, fun D hD => ?_⟩
    rw [Int.toNat_natCast]
    refine lc_range (fun j H3 => Same H H3 ∧ H3 D = some (.lst (((ups j).filter fun x => !decide (x ∈ lot)).map V.int))) ⟨My.Same.new hD, upd_same⟩ ?_ ?_
    · rintro j H3 hj ⟨s3, eD⟩
      rw [Int.zero_add]
      refine ⟨rfl, ?_⟩
      refine ⟨_, rfl, _, rfl, lq, _, rfl, .inr (My.Same.sqt s3 hS), rfl, flat_ints, _, rfl, ?_⟩
      show if (!inV (.int (j : Int)) (lot.map V.int)) = true then _ else _
      rw [inV_ints, ups_succ, List.filter_append]
      have lf := List.length_filter_le (fun x => !decide (x ∈ lot)) (ups j)
      rw [ups_len] at lf
      by_cases hm : (j : Int) ∈ lot
      · rw [decide_eq_true hm]
        refine iteF ⟨s3, ?_⟩
        rw [List.filter_cons_of_neg (by rw [decide_eq_true hm]; decide), List.filter_nil, List.append_nil]
        exact eD
      · rw [decide_eq_false hm]
        refine iteT ⟨_, rfl, _, eD, by rw [List.length_map]; exact smallT (by omega), My.Same.updD s3 hD, ?_⟩
        rw [upd_same, map_snoc, List.filter_cons_of_pos (by rw [decide_eq_false hm]; rfl), List.filter_nil]
    · rintro H3 ⟨s3, eD⟩
      exact ⟨D, _, rfl, .inl ⟨SqL.of eD, fun a ha => q a _ (s3.trans (My.Same.new ha)) (SqT.of upd_same)⟩⟩
end
end K14
set_option Elab.async false
set_option linter.all false
set_option maxRecDepth 100000
set_option maxHeartbeats 4000000
namespace K14
open PySem PySem.Spec PyProof.Rows L2 My
abbrev s_law_least_cut : Stmt := topS 30
theorem sc_law_least_cut : FnScope ["web", "most", "lot"] ["web", "most"] (defScope s_law_least_cut) := ⟨rfl, rfl, rfl, by decide +kernel, rfl, by decide +kernel, by decide +kernel⟩
section
variable {P : Program} {w : World} {K : PySem.W.Frag} {mg : Str → Option Value} {base : Heap}
theorem ok_law_least_cut {f : Addr} {fd : FuncData} {m : Nat} (F : Fun K "_law_least_cut" "_law_least_cut" s_law_least_cut f fd) (B : Bn mg) (D_law_lots : Own P w K mg base "_law_lots" m ["n", "most"] (spD K FLots)) (D_law_pieces : Own P w K mg base "_law_pieces" m ["web", "lot"] (spPieces K)) (D_law_others : Own P w K mg base "_law_others" m ["web", "lot"] (spOthers K)) : FnOk P w K mg base CX0 (m + 1) f fd ["web", "most"] (spD K FLeast) := by
  refine F.ok sc_law_least_cut (fun vs H Q E h => spD_len (n := 2) (by rintro ds Q ⟨n, T, rfl, _⟩; rfl) h) (fun cdv A outer s H vs Q E hr h => ?_)
  refine ⟨_, (pss_cons (ps_for PassesOwn.never rfl (pi_listK K (pe_own D_law_lots hr (by rfl) (pa_cons (pe_ix (ixT K) (pv 0) pe_int (fun _ _ => rfl)) (pa_cons (pv 1) pa_nil)))) (pg_name (i := 2) sc_law_least_cut.nd rfl (.inl rfl)) (pss_one (ps_if (pt_cmpR op_gt (pe_callB (lenQ K) (by rfl) B.len (by decide +kernel) (pa_cons (pe_own D_law_pieces hr (by rfl) (pa_cons (pv 0) (pa_cons (pe_own D_law_others hr (by rfl) (pa_cons (pv 0) (pa_cons (pv 2) pa_nil))) pa_nil))) pa_nil)) pe_int (nomark _)) (pss_one (ps_ret (pe_callB (lenQ K) (by rfl) B.len (by decide +kernel) (pa_cons (pv 2) pa_nil)))) pss_nil)))
      (pss_one (ps_ret pe_non))), ?_⟩
  refine SS.fn (SS.seq (SS.for_ (SI.lst (SE.call ClOk.d (SA.cons (SE.op OpOk.ixT (SE.var _) (SE.int _)) (SA.cons (SE.var _) SA.nil)))) (SG.name _) (SS.ite (ST.test (SE.op OpOk.gt (SE.cb CbOk.len (SA.cons (SE.call ClOk.pieces (SA.cons (SE.var _) (SA.cons (SE.call ClOk.others (SA.cons (SE.var _) (SA.cons (SE.var _) SA.nil))) SA.nil))) SA.nil)) (SE.int _))) (SS.ret (SE.cb CbOk.len (SA.cons (SE.var _) SA.nil))) SS.next))
      (SS.ret SE.non)) 3 rfl h fun ds Qf hl hf => ?_
  obtain ⟨n, T, rfl, hW, n2, n7, q1, q2⟩ := hf
  show pSeq _ _ _ ⟨[.d (webD n T), .d (.int ((n : Int) - 2)), .no], [], 0, 0⟩
  refine pSeq_ fun X hX => ?_
  array_get_dec
  refine ⟨n, n - 2, by rw [show ((n : Int) - 2) = ((n - 2 : Nat) : Int) by omega], n7, by omega, ?_⟩
  array_get_dec
  refine pForN (fun i s => (∃ x2, s = ⟨[.d (webD n T), .d (.int ((n : Int) - 2)), x2], [], 0, 0⟩) ∧ ∀ i' < i, ∀ l, (lotsL n (n - 2))[i']? = some l → ¬ CutIs n T l) ⟨⟨_, rfl⟩, fun i' h => by omega⟩ ?_ ?_
  · rintro i d s2 ed ⟨⟨x2, rfl⟩, hI⟩
    obtain ⟨lot, el, rfl⟩ := map_at ed
    obtain ⟨hlen, hA⟩ := mem_lotsL.mp (List.mem_of_getElem? el)
    array_get_dec
    refine pIf_ fun Y N hY hN => ?_
    array_get_dec
    refine ⟨n, .tuple (T.map fun t => tI (prI t)), lot, rfl, by omega, noLD_tI _, ?_⟩
    have lo := othersL_len (n := n) (lot := lot)
    refine ⟨n, T, othersL n lot, rfl, hW, by omega, by omega, by omega, fun y hy => mem_ups.mp (List.mem_filter.mp hy).1, List.Pairwise.filter _ (ups_up n), fun ps hps hl12 => ?_⟩
    array_get_dec
    refine ⟨noLDs_tIs _, ?_⟩
    rw [List.length_map]
    refine iteS (fun hc => hY _ ?_) fun hc => hN _ ?_
    · have h2 : 2 ≤ ps.length := by rw [decide_eq_true_eq] at hc; omega
      have hcut := pieces_cut hA hps h2
      array_get_dec
      rw [List.length_map]
      exact q1 _ (lots_first el hcut hI)
    · have h2 : ps.length < 2 := by rw [decide_eq_false_iff_not] at hc; omega
      array_get_dec
      refine ⟨⟨_, rfl⟩, fun i' hi' l e => ?_⟩
      rcases Nat.lt_or_ge i' i with g | g
      · exact hI i' g l e
      · have : i' = i := by omega
        subst this
        rw [el] at e
        cases e
        exact fun hcut => by have := cut_twoP hcut hps; omega
  · rintro s2 ⟨⟨x2, rfl⟩, hI⟩
    rw [List.length_map] at hI
    refine hX _ ?_
    array_get_dec
    refine q2 fun lot hc => ?_
    have hs := hc.small
    obtain ⟨j, hj, e⟩ := List.getElem_of_mem (mem_lotsL.mpr ⟨(by omega : lot.length ≤ n - 2), hc.1, hc.2.1⟩)
    exact hI j hj lot (by rw [List.getElem?_eq_getElem hj, e]) hc
end
end K14
set_option Elab.async false
set_option linter.all false
set_option maxRecDepth 100000
set_option maxHeartbeats 4000000
namespace K14
open PySem PySem.Spec PyProof.Rows L2 My
abbrev s_law_loose : Stmt := topS 28
theorem sc_law_loose : FnScope ["web", "found", "a", "b"] ["web"] (defScope s_law_loose) := ⟨rfl, rfl, rfl, by decide +kernel, rfl, by decide +kernel, by decide +kernel⟩
section
variable {P : Program} {w : World} {K : PySem.W.Frag} {mg : Str → Option Value} {base : Heap}
theorem ok_law_loose {f : Addr} {fd : FuncData} {m : Nat} (F : Fun K "_law_loose" "_law_loose" s_law_loose f fd) (B : Bn mg) : FnOk P w K mg base CX0 (m + 1) f fd ["web"] (spD K FLooseL) := by
  refine F.ok sc_law_loose (fun vs H Q E h => spD_len (n := 1) (by rintro ds Q ⟨n, T, rfl, _⟩; rfl) h) (fun cdv A outer s H vs Q E hr h => ?_)
  refine ⟨_, (pss_cons (ps_set (i := 1) sc_law_loose.nd rfl (.inl rfl) (pe_lst pa_nil))
      (pss_cons (ps_for PassesOwn.never rfl (pi_range1 (by rfl) B.range (pa_cons (pe_ix (ixT K) (pv 0) pe_int (fun _ _ => rfl)) pa_nil)) (pg_name (i := 2) sc_law_loose.nd rfl (.inr rfl)) (pss_one (ps_set (i := 1) sc_law_loose.nd rfl (.inl rfl) (pe_op op_cat (pv 1) (pe_lc (own := [("b", 3)]) (by rfl) sc_law_loose.nd (pi_range2 (by rfl) B.range (pa_cons (pe_op op_add (pv 2) pe_int) (pa_cons (pe_ix (ixT K) (pv 0) pe_int (fun _ _ => rfl)) pa_nil))) (blkOk_by (own := [("b", 3)]) (N := ["web", "found", "a", "b"]) (sc := (defScope s_law_loose)) (by decide +kernel)) (fun _ _ _ _ _ => (pg_name (i := 3) sc_law_loose.nd rfl (.inl rfl))) (fun _ _ _ _ _ => (pts_one (pt_cmpR (notInDT K hr.units) (pe_tup (pa_cons (pv 2) (pa_cons (pv 3) pa_nil))) (pe_ix (ixT K) (pv 0) pe_int (fun _ _ => rfl)) (by rfl)))) (fun _ _ _ _ _ => (pe_tup (pa_cons (pv 2) (pa_cons (pv 3) pa_nil)))))))))
      (pss_one (ps_ret (pv 1))))), ?_⟩
  refine SS.fn (SS.seq (SS.set false _ (SE.lst SA.nil))
      (SS.seq (SS.for_ (SI.rng1 (SA.cons (SE.op OpOk.ixT (SE.var _) (SE.int _)) SA.nil)) (SG.name _) (SS.set false _ (SE.op OpOk.catL (SE.var _) (SE.lc (SI.rng2 (SA.cons (SE.op OpOk.add (SE.var _) (SE.int _)) (SA.cons (SE.op OpOk.ixT (SE.var _) (SE.int _)) SA.nil))) (SG.name _) (ST.test (SE.op OpOk.notInDT (SE.tup (SA.cons (SE.var _) (SA.cons (SE.var _) SA.nil))) (SE.op OpOk.ixT (SE.var _) (SE.int _)))) (SE.tup (SA.cons (SE.var _) (SA.cons (SE.var _) SA.nil))) (by decide)))))
      (SS.ret (SE.var _)))) 4 rfl h fun ds Qf hl hf => ?_
  obtain ⟨n, T, rfl, hW, n12, q⟩ := hf
  have hT := hW.len n12
  show pSeq _ _ _ ⟨[.d (webD n T), .no, .no, .no], [], 0, 0⟩
  refine pSeq_ fun X hX => ?_
  array_get_dec
  refine hX _ ?_
  clear hX X
  refine pSeq_ fun X hX => ?_
  array_get_dec
  refine ⟨by omega, by omega, ?_⟩
  rw [Int.toNat_natCast]
  have step : ∀ i, (List.range (i + 1)).flatMap (fun i => ((List.range (n - (i + 1))).filter fun j : Nat => !decide (((i : Int), ((i + 1 : Nat) : Int) + (j : Int)) ∈ T)).map fun j : Nat => ((i : Int), ((i + 1 : Nat) : Int) + (j : Int))) = (List.range i).flatMap (fun i => ((List.range (n - (i + 1))).filter fun j : Nat => !decide (((i : Int), ((i + 1 : Nat) : Int) + (j : Int)) ∈ T)).map fun j : Nat => ((i : Int), ((i + 1 : Nat) : Int) + (j : Int))) ++ ((List.range (n - (i + 1))).filter fun j : Nat => !decide (((i : Int), ((i + 1 : Nat) : Int) + (j : Int)) ∈ T)).map fun j : Nat => ((i : Int), ((i + 1 : Nat) : Int) + (j : Int)) := fun i => by
    rw [List.range_succ, List.flatMap_append, List.flatMap_singleton]
  have short : ∀ i, ((List.range i).flatMap (fun i => ((List.range (n - (i + 1))).filter fun j : Nat => !decide (((i : Int), ((i + 1 : Nat) : Int) + (j : Int)) ∈ T)).map fun j : Nat => ((i : Int), ((i + 1 : Nat) : Int) + (j : Int)))).length ≤ 12 * i := fun i => by
    induction i with
    | zero => simp
    | succ i ih =>
      rw [step, List.length_append, List.length_map]
      have := List.length_filter_le (fun j : Nat => !decide (((i : Int), ((i + 1 : Nat) : Int) + (j : Int)) ∈ T)) (List.range (n - (i + 1)))
      rw [List.length_range] at this
      omega
  generalize hg : (fun i : Nat => (List.range i).flatMap (fun i => ((List.range (n - (i + 1))).filter fun j : Nat => !decide (((i : Int), ((i + 1 : Nat) : Int) + (j : Int)) ∈ T)).map fun j : Nat => ((i : Int), ((i + 1 : Nat) : Int) + (j : Int)))) = g
  have hg0 : g 0 = [] := by rw [← hg]; rfl
  have hgs : ∀ i, g (i + 1) = g i ++ ((List.range (n - (i + 1))).filter fun j : Nat => !decide (((i : Int), ((i + 1 : Nat) : Int) + (j : Int)) ∈ T)).map fun j : Nat => ((i : Int), ((i + 1 : Nat) : Int) + (j : Int)) := fun i => by rw [← hg]; exact step i
  have hgl : ∀ i, (g i).length ≤ 12 * i := fun i => by rw [← hg]; exact short i
  have hgn : g n = looseL n T := by rw [← hg]; rfl
  clear hg step short
  refine pForN (fun i s => ∃ x2 x3, s = ⟨[.d (webD n T), .l ((g i).map linkD), x2, x3], [], 0, 0⟩) ⟨_, _, by rw [hg0]; rfl⟩ ?_ ?_
  · rintro i d s2 ed ⟨x2, x3, rfl⟩
    obtain ⟨hi, rfl⟩ := intsFrom_get ed
    rw [Int.zero_add]
    have hgi := hgl i
    array_get_dec
    refine ⟨by omega, by omega, by omega, by omega, ?_⟩
    rw [show ((n : Int) - ((i : Int) + 1)).toNat = n - (i + 1) by omega]
    refine pLcD_fun (List.range (n - (i + 1))) (fun j : Nat => .int (((i : Int) + 1) + (j : Int))) (fun j : Nat => !decide (((i : Int), ((i + 1 : Nat) : Int) + (j : Int)) ∈ T)) (fun j : Nat => linkD ((i : Int), ((i + 1 : Nat) : Int) + (j : Int))) (by rw [List.length_range]; omega) rfl (fun j hj Y G hY hG => ?_) ?_
    · array_get_dec
      refine in_tIs (r := prI ((i : Int), ((i + 1 : Nat) : Int) + (j : Int))) (L := T.map prI) rfl (by rw [List.map_map]; rfl) (by unfold prI; simp) (by rw [List.length_map]; omega) (fun x hx => ?_) ?_
      · obtain ⟨t, _, rfl⟩ := List.mem_map.mp hx
        unfold prI
        simp
      rw [show decide (prI ((i : Int), ((i + 1 : Nat) : Int) + (j : Int)) ∈ T.map prI) = decide (((i : Int), ((i + 1 : Nat) : Int) + (j : Int)) ∈ T) from decide_eq_decide.mpr mem_prI]
      refine blB (fun hc => iteY (hY hc)) (fun hc => iteN (hG hc))
    · array_get_dec
      have e1 := List.length_filter_le (fun j : Nat => !decide (((i : Int), ((i + 1 : Nat) : Int) + (j : Int)) ∈ T)) (List.range (n - (i + 1)))
      rw [List.length_range] at e1
      refine ⟨by rw [List.length_map, List.length_map]; omega, .d (.int i), x3, ?_⟩
      rw [hgs, List.map_append, List.map_map]
      rfl
  · rintro s2 ⟨x2, x3, rfl⟩
    refine hX _ ?_
    rw [intsFrom_len, hgn]
    array_get_dec
    exact q
end
end K14
set_option Elab.async false
set_option linter.all false
set_option maxRecDepth 100000
set_option maxHeartbeats 4000000
namespace K14
open PySem PySem.Spec PyProof.Rows L2 My
abbrev s_law_one_of : Stmt := topS 20
theorem sc_law_one_of : FnScope ["pen", "some"] ["pen", "some"] (defScope s_law_one_of) := ⟨rfl, rfl, rfl, by decide +kernel, rfl, by decide +kernel, by decide +kernel⟩
section
variable {P : Program} {w : World} {K : PySem.W.Frag} {mg : Str → Option Value} {base : Heap}
theorem ok_one_of {f : Addr} {fd : FuncData} {m : Nat} (F : Fun K "_law_one_of" "_law_one_of" s_law_one_of f fd) (B : Bn mg) (D_law_take : Own P w K mg base "_law_take" m ["pen", "amount"] spTake) : FnOk P w K mg base CX0 (m + 1) f fd ["pen", "some"] (spOneOf K) := by
  refine F.ok sc_law_one_of (fun vs H Q E h => ?_) (fun cdv A outer s H vs Q E hr h => ?_)
  · obtain ⟨p, c, n, l, xs, rfl, _⟩ := h
    rfl
  · obtain ⟨p, c, n, l, xs, rfl, pen, hn, hl, h1, h2, q⟩ := h
    refine ⟨_, (pss_one (ps_ret (pe_ix (ixL K) (pv 1) (pe_own D_law_take hr (by rfl) (pa_cons (pv 0) (pa_cons (pe_callB (lenQ K) (by rfl) B.len (by decide +kernel) (pa_cons (pv 1) pa_nil)) pa_nil))) (fun _ _ => rfl)))), ?_⟩
    refine ⟨_, rfl, _, rfl, _, rfl, l, xs, rfl, .inl (wo_le.seq hl), p, c, _, n, rfl, pen, hn, by omega, by omega, fun r H' r0 r1 pen' sm => ?_⟩
    obtain ⟨x, e, hx⟩ := at_get (xs := xs) r0 r1
    exact ⟨l, xs, r, x, rfl, rfl, wo_le.seq (sm.seq hl), hx, q _ x H' e pen' sm⟩
end
end K14
set_option Elab.async false
set_option linter.all false
set_option maxRecDepth 100000
set_option maxHeartbeats 4000000
namespace K14
open PySem PySem.Spec PyProof.Rows L2 My
abbrev s_law_draw_order : Stmt := topS 21
theorem sc_law_draw_order : FnScope ["pen", "n", "left", "found", "turn"] ["pen", "n"] (defScope s_law_draw_order) := ⟨rfl, rfl, rfl, by decide +kernel, rfl, by decide +kernel, by decide +kernel⟩
section
variable {P : Program} {w : World} {K : PySem.W.Frag} {mg : Str → Option Value} {base : Heap}
theorem ok_draw_order {f : Addr} {fd : FuncData} {m : Nat} (F : Fun K "_law_draw_order" "_law_draw_order" s_law_draw_order f fd) (B : Bn mg) (D_law_take : Own P w K mg base "_law_take" m ["pen", "amount"] spTake) : FnOk P w K mg base CX0 (m + 1) f fd ["pen", "n"] spOrderF := by
  refine F.ok sc_law_draw_order (fun vs H Q E h => ?_) (fun cdv A outer s H vs Q E hr h => ?_)
  · obtain ⟨p, c, n, k, rfl, _⟩ := h
    rfl
  · obtain ⟨p, c, n, k, rfl, pen, hn, hk, q⟩ := h
    refine ⟨_, (pss_cons (ps_par (i := 2) (j := 3) (by rfl) sc_law_draw_order.nd rfl rfl (by decide) rfl rfl (pa_cons (pe_listRg (by rfl) (by rfl) B.list_ (prg_1 (by rfl) B.range (pv 1))) (pa_cons (pe_lst pa_nil) pa_nil)) (by rfl))
      (pss_cons (ps_for PassesOwn.never rfl (pi_range1 (by rfl) B.range (pa_cons (pv 1) pa_nil)) (pg_name (i := 4) sc_law_draw_order.nd rfl (.inl rfl)) (pss_one (ps_expr (pe_bmK K PySem.F.plainAttrs_list PySem.F.slot_list_append PySem.F.type_list_append mt_append (pv 3) (pa_cons (pe_bmK K PySem.F.plainAttrs_list PySem.F.slot_list_pop PySem.F.type_list_pop mt_popAt (pv 2) (pa_cons (pe_own D_law_take hr (by rfl) (pa_cons (pv 0) (pa_cons (pe_callB (lenQ K) (by rfl) B.len (by decide +kernel) (pa_cons (pv 2) pa_nil)) pa_nil))) pa_nil)) pa_nil)))))
      (pss_one (ps_ret (pe_callTy (tupleOfF K) (by rfl) B.tuple_ (by decide +kernel) (pa_cons (pv 3) pa_nil)))))), ?_⟩
    -- left, found = list(range(n)), []
    refine ⟨_, rfl, k, rfl, RgOk.of_le (Int.le_refl 0) (by omega) (by decide) (by omega), fun la hla => ?_⟩
    refine ⟨by show 0 ≤ sizeLine; decide, fun fa hfa => ⟨_, _, rfl, ?_⟩⟩
    have hrg : rgV 0 (k : Int) = (ups k).map V.int := by
      unfold rgV ups
      rw [List.map_map, show ((k : Int) - 0).toNat = k by omega]
      refine List.map_congr_left fun i _ => ?_
      show V.int (0 + (i : Int)) = V.int (i : Int)
      rw [Int.zero_add]
    rw [hrg] at hfa ⊢
    have s1 := (My.Same.new (o := HO.lst ((ups k).map V.int)) hla).trans (My.Same.new (o := HO.lst []) hfa)
    have hfla : fa ≠ la := fun z => by
      rw [z, upd_same] at hfa
      cases hfa
    have pen1 := Pen.same s1 pen
    have ela : upd (upd H la (.lst ((ups k).map V.int))) fa (.lst []) la = some (.lst ((ups k).map V.int)) := (upd_ne hfla.symm).trans upd_same
    have efa : upd (upd H la (.lst ((ups k).map V.int))) fa (.lst []) fa = some (.lst []) := upd_same
    have nla := Pen.ne pen hla
    have nfa := Pen.ne (Pen.same (My.Same.new (o := HO.lst ((ups k).map V.int)) hla) pen) hfa
    have hfa0 := (My.Same.new (o := HO.lst ((ups k).map V.int)) hla).free hfa
    generalize upd (upd H la (.lst ((ups k).map V.int))) fa (.lst []) = H1 at s1 pen1 ela efa ⊢
    -- for turn in range(n)
    refine ⟨_, rfl, _, rfl, by omega, by omega, ?_⟩
    refine for_range (fun i σ H2 => ∃ (x4 : Option V) (ls fs : List Int), σ = [some (.ref p), some (.int k), some (.ref la), some (.ref fa), x4] ∧ Pen H2 p c (n + i) ∧ Same (wo p H) (wo p H2) ∧ H2 la = some (.lst (ls.map V.int)) ∧ H2 fa = some (.lst (fs.map V.int)) ∧ ls.length + i = k ∧ (fs ++ ls).Perm (ups k)) ?_ ?_ ?_
    · exact ⟨none, ups k, [], rfl, pen1, My.Same.wo s1, ela, efa, by rw [ups_len]; rfl, .refl _⟩
    · rintro i σ H2 hi ⟨x4, ls, fs, rfl, pen2, s2, el, ef, hlen, hperm⟩
      have hik : i < k := by omega
      have el' : wo p H2 la = some (.lst (ls.map V.int)) := (wo_ne nla.1).trans el
      have ef' : wo p H2 fa = some (.lst (fs.map V.int)) := (wo_ne nfa.1).trans ef
      -- found.append(left.pop(_law_take(pen, len(left))))
      refine ⟨_, rfl, .inl ⟨rfl, _, SqL.of ef⟩, ?_⟩
      refine ⟨_, rfl, .inl ⟨rfl, _, SqL.of el⟩, ?_⟩
      refine ⟨_, rfl, _, rfl, la, _, rfl, .inl (SqL.of el), p, c, _, n + i, rfl, pen2, by omega, by rw [List.length_map]; omega, by rw [List.length_map]; omega, fun r H3 r0 r1 pen3 s3 => ?_⟩
      rw [List.length_map] at r1
      have el3 : H3 la = some (.lst (ls.map V.int)) := (wo_some (s3 _ _ el')).2
      have ef3 : H3 fa = some (.lst (fs.map V.int)) := (wo_some (s3 _ _ ef')).2
      obtain ⟨z, hz⟩ : ∃ z, ls[r.toNat]? = some z := ⟨_, List.getElem?_eq_getElem (by omega)⟩
      refine ⟨la, _, r, r.toNat, .int z, rfl, rfl, el3, by omega, by omega, ?_, by rw [List.getElem?_map, hz]; rfl, ?_⟩
      · rw [List.length_map]
        have h1 := (ixN_seq (n := ls.length) (i := r) (j := r.toNat) (by unfold ixN; rw [if_pos r0, if_pos r1])).1
        exact h1
      have hge : ∀ i, (ls.map V.int).eraseIdx i = (ls.eraseIdx i).map V.int := fun i => map_erase _ _ _
      rw [hge]
      have ef4 : upd H3 la (.lst ((ls.eraseIdx r.toNat).map V.int)) fa = some (.lst (fs.map V.int)) := (upd_ne hfla).trans ef3
      refine ⟨fa, _, _, rfl, rfl, ef4, ?_, ?_⟩
      · rw [List.length_map]
        have := hperm.length_eq
        rw [List.length_append, ups_len] at this
        exact smallT (by omega)
      · refine ⟨_, ls.eraseIdx r.toNat, fs ++ [z], rfl, ?_, ?_, ?_, ?_, ?_, ?_⟩
        · exact Pen.upd (Pen.upd pen3 nla) nfa
        · rw [wo_upd nfa.1, wo_upd nla.1]
          exact My.Same.updD (My.Same.updD (s2.trans s3) (wo_none hla)) (wo_none hfa0)
        · exact (upd_ne hfla.symm).trans upd_same
        · rw [upd_same, List.map_append]
          rfl
        · rw [List.length_eraseIdx_of_lt (by omega)]
          omega
        · rw [List.append_assoc]
          exact (List.Perm.append_left fs (erase_perm hz)).trans hperm
    · rintro σ H2 ⟨x4, ls, fs, rfl, pen2, s2, el, ef, hlen, hperm⟩
      have hls : ls = [] := List.length_eq_zero_iff.mp (by omega)
      subst hls
      rw [List.append_nil] at hperm
      refine ⟨_, rfl, fa, _, rfl, SqL.of ef, fun l ob hl oc od => ?_⟩
      have nl := Pen.ne pen2 hl
      exact q l fs _ hperm (Pen.upd (by rw [Int.toNat_natCast] at pen2; exact pen2) nl) (s2.trans (My.Same.wo (Same.new hl))) (s2.free (wo_none hl)) ⟨ob, upd_same, oc, od⟩
end
end K14
set_option Elab.async false
set_option linter.all false
set_option maxRecDepth 100000
set_option maxHeartbeats 4000000
namespace K14
open PySem PySem.Spec PyProof.Rows L2 My
abbrev s_law_web : Stmt := topS 22
theorem sc_law_web : FnScope ["n", "pairs", "a", "b"] ["n", "pairs"] (defScope s_law_web) := ⟨rfl, rfl, rfl, by decide +kernel, rfl, by decide +kernel, by decide +kernel⟩
section
variable {P : Program} {w : World} {K : PySem.W.Frag} {mg : Str → Option Value} {base : Heap}
theorem ok_web {f : Addr} {fd : FuncData} {m : Nat} (F : Fun K "_law_web" "_law_web" s_law_web f fd) (B : Bn mg) : FnOk P w K mg base CX0 (m + 1) f fd ["n", "pairs"] (spWeb K) := by
  refine F.ok sc_law_web (fun vs H Q E h => ?_) (fun cdv A outer s H vs Q E hr h => ?_)
  · obtain ⟨n, l, us, ps, rfl, _⟩ := h
    rfl
  · obtain ⟨n, l, us, ps, rfl, hl, hus, h64, hb, q⟩ := h
    refine ⟨_, (pss_one (ps_ret (pe_tup (pa_cons (pv 0) (pa_cons (pe_callTy (tupleOf K) (by rfl) B.tuple_ (by decide +kernel) (pa_cons (pe_callB (sortedT K P w rfl) (by rfl) B.sorted (by decide +kernel) (pa_cons (pe_callTy (setOfT K P w rfl hr.units) (by rfl) B.set (by decide +kernel) (pa_cons (pe_lc (own := [("a", 2), ("b", 3)]) (by rfl) sc_law_web.nd (pi_seqK K (pv 1)) (blkOk_by (own := [("a", 2), ("b", 3)]) (N := ["n", "pairs", "a", "b"]) (sc := (defScope s_law_web)) (by decide +kernel)) (fun _ _ _ _ _ => (pg_tupK K 2 (by rfl) (pgs_cons (pg_name (i := 2) sc_law_web.nd rfl (.inl rfl)) (pgs_cons (pg_name (i := 3) sc_law_web.nd rfl (.inl rfl)) pgs_nil)))) (fun _ _ _ _ _ => (pts_one (pt_cmpR op_ne (pv 2) (pv 3) (nomark _)))) (fun _ _ _ _ _ => (pe_tup (pa_cons (pe_callB (call_min2 rfl) (by rfl) B.min (by decide +kernel) (pa_cons (pv 2) (pa_cons (pv 3) pa_nil))) (pa_cons (pe_callB (call_max2 rfl) (by rfl) B.max (by decide +kernel) (pa_cons (pv 2) (pa_cons (pv 3) pa_nil))) pa_nil))))) pa_nil)) pa_nil)) pa_nil)) pa_nil))))), ?_⟩
    refine ⟨_, rfl, ?_⟩
    have lus : us.length = ps.length := by rw [My.DpAll.len hus, List.length_map, List.length_map]
    -- [(min(a, b), max(a, b)) for a, b in pairs if a != b]
    let ft : List (Int × Int) → List (List Int) := fun l => ((l.filter fun s => !decide (s.1 = s.2)).map lowP).map prI
    refine in_seq (l := l) (us := us) (fun R h => ⟨_, rfl, h⟩) hl (fun D i H3 => Same H H3 ∧ ∃ ws, H3 D = some (.lst ws) ∧ DpAll K (wo D H3) ws ((ft (ps.take i)).map tI)) (fun D i H' _ h => h.1) (fun D hD => ⟨My.Same.new hD, [], upd_same, .nil⟩) ?_ ?_
    · rintro D i x H3 hD ex ⟨s3, ws, eD, hws⟩
      obtain ⟨ab, t, es, rfl, qt⟩ := tI_get (DpAll.same s3 hus) ex
      rw [List.getElem?_map] at es
      obtain ⟨s, e1, rfl⟩ : ∃ s, ps[i]? = some s ∧ ab = prI s := by
        cases e : ps[i]? with
        | none => rw [e] at es; cases es
        | some s => rw [e] at es; exact ⟨s, rfl, (Option.some.inj es).symm⟩
      have hnext : ft (ps.take (i + 1)) = ft (ps.take i) ++ if s.1 = s.2 then [] else [prI (lowP s)] := by
        show List.map prI (List.map lowP (List.filter _ (ps.take (i + 1)))) = _
        rw [List.take_add_one, e1, List.filter_append, List.map_append, List.map_append]
        congr 1
        show List.map prI (List.map lowP (List.filter _ [s])) = _
        rw [List.filter_cons]
        by_cases e : s.1 = s.2
        · rw [decide_eq_true e, if_pos e]
          rfl
        · rw [decide_eq_false e, if_neg e]
          rfl
      refine ⟨t, _, rfl, qt, rfl, _, _, rfl, _, _, rfl, rfl, rfl, ?_⟩
      refine ⟨_, rfl, _, rfl, rfl, _, rfl, ite2 (fun e => ?_) (fun e => ?_)⟩
      · have hne : ¬ s.1 = s.2 := fun z => by
          rw [z, decide_eq_true rfl] at e
          cases e
        refine ⟨_, rfl, _, rfl, s.1, s.2, rfl, _, rfl, _, rfl, s.1, s.2, rfl, by show 2 ≤ sizeLine; decide, fun t2 ht2 => ?_⟩
        have ht2D : t2 ≠ D := (ne_of_none eD ht2).symm
        have sT := My.Same.new (o := HO.tup [V.int (if s.2 < s.1 then s.2 else s.1), V.int (if s.2 > s.1 then s.2 else s.1)]) ht2
        obtain ⟨g1, g2⟩ := push (DpAll.same (My.Same.wo sT) hws) (Dp.ofTI (K := K) (a := t2) (ns := prI (lowP s)) (SqT.of ((wo_ne ht2D).trans upd_same)))
        refine ⟨ws, sT _ _ eD, ?_, My.Same.updD (s3.trans sT) hD, _, g1, ?_⟩
        · rw [My.DpAll.len hws, List.length_map, List.length_map, List.length_map]
          have h1 := List.length_filter_le (fun s : Int × Int => !decide (s.1 = s.2)) (ps.take i)
          have h2 : (ps.take i).length ≤ ps.length := by
            rw [List.length_take]
            exact Nat.min_le_right _ _
          exact smallT (by omega)
        · rw [hnext, if_neg hne, List.map_append]
          exact g2
      · have heq : s.1 = s.2 := by
          by_cases z : s.1 = s.2
          · exact z
          · rw [show decide (V.int s.1 = V.int s.2) = false from decide_eq_false (fun y => z (V.int.inj y))] at e
            exact absurd rfl e
        refine ⟨s3, ws, eD, ?_⟩
        rw [hnext, if_pos heq, List.append_nil]
        exact hws
    · rintro D H3 hD ⟨s3, ws, eD, hws⟩
      rw [lus, List.take_length] at hws
      obtain ⟨ks, rfl, hks, hkt⟩ := ks_of (DpAll.same wo_le hws)
      have lks : ks.length < 64 := by
        have h1 := congrArg List.length hks
        rw [List.length_map, List.length_map, List.length_map] at h1
        have h2 := List.length_filter_le (fun s : Int × Int => !decide (s.1 = s.2)) ps
        omega
      -- set(..)
      refine ⟨D, ks, rfl, SqL.of eD, hkt, lks, fun sa L hsa h1 h2 => ?_⟩
      have sS := My.Same.new (o := SetTO P w sa L) hsa
      have hb2 : ∀ p ∈ ks, p.2.length = 2 ∧ TS.Bd 64 p.2 := fun p hp => by
        have hm : p.2 ∈ ks.map (·.2) := List.mem_map.mpr ⟨p, hp, rfl⟩
        rw [hks] at hm
        obtain ⟨t, ht, e⟩ := List.mem_map.mp hm
        obtain ⟨s, hs, rfl⟩ := List.mem_map.mp ht
        have b := hb s (List.mem_filter.mp hs).1
        rw [← e]
        refine ⟨rfl, fun z hz => ?_⟩
        have hz2 : z = (lowP s).1 ∨ z = (lowP s).2 := by
          simpa [prI] using hz
        unfold lowP at hz2
        dsimp only at hz2
        rcases hz2 with e | e <;> subst e <;> split <;> omega
      -- sorted(..)
      refine ⟨sa, L, 2, 64, rfl, upd_same, fun p hp => My.Same.sqt sS (hkt p (h1 p hp)), by decide, fun p hp => hb2 p (h1 p hp), fun L' ra pm nd l64 pw hra => ?_⟩
      obtain ⟨T, hT, hcan⟩ := canon_of hks hb h1 h2 pm nd pw
      -- tuple(..)
      refine ⟨ra, _, rfl, .inl ⟨SqL.of upd_same, fun ta hta => ?_⟩⟩
      refine ⟨by show 2 ≤ sizeLine; decide, fun wa hwa => ?_⟩
      have sA := sS.trans ((My.Same.new (o := HO.lst (L'.map fun q => V.ref q.1)) hra).trans (My.Same.new (o := HO.tup (L'.map fun q => V.ref q.1)) hta))
      have dT : DpAll K (upd (upd (upd H3 sa (SetTO P w sa L)) ra (.lst (L'.map fun q => V.ref q.1))) ta (.tup (L'.map fun q => V.ref q.1))) (L'.map fun q => V.ref q.1) ((T.map prI).map tI) := by
        rw [← hT]
        exact ks_to fun p hp => My.Same.sqt sA (hkt p (h1 p (pm.mem_iff.mp hp)))
      refine q wa T _ hcan (s3.trans (sA.trans (Same.new hwa))) ((s3.trans sA).free hwa) ?_
      refine tup_new hwa (.cons (.int n) (.cons (.tup (SqT.of upd_same) ?_) .nil))
      rw [List.map_map] at dT
      exact dT
end
end K14
set_option Elab.async false
set_option Elab.async false
set_option linter.all false
set_option maxRecDepth 100000
set_option maxHeartbeats 4000000
namespace K14
open PySem PySem.Spec PyProof.Rows L2 My
abbrev s_law_draw_web : Stmt := topS 23
theorem sc_law_draw_web : FnScope ["pen", "low", "high", "n", "way", "order", "pairs", "half", "rings", "ring", "k", "more", "other"] ["pen", "low", "high"] (defScope s_law_draw_web) := ⟨rfl, rfl, rfl, by decide +kernel, rfl, by decide +kernel, by decide +kernel⟩
section
variable {P : Program} {w : World} {K : PySem.W.Frag} {mg : Str → Option Value} {base : Heap}
theorem ok_draw_web {f : Addr} {fd : FuncData} {m : Nat} (F : Fun K "_law_draw_web" "_law_draw_web" s_law_draw_web f fd) (B : Bn mg) (D_law_take : Own P w K mg base "_law_take" m ["pen", "amount"] spTake)
    (D_law_draw_order : Own P w K mg base "_law_draw_order" m ["pen", "n"] (spOrder K)) (D_law_web : Own P w K mg base "_law_web" m ["n", "pairs"] (spWeb K)) : FnOk P w K mg base CX0 (m + 1) f fd ["pen", "low", "high"] (spDrawWeb K) := by
  refine F.ok sc_law_draw_web (fun vs H Q E h => ?_) (fun cdv A outer s H vs Q E hr h => ?_)
  · obtain ⟨p, c, n, lo, hi, rfl, _⟩ := h
    rfl
  · obtain ⟨p, c, n0, lo, hi, rfl, pen, hn, lo1, lohi, hi12, q⟩ := h
    refine ⟨_, (pss_cons (ps_asg (pe_tup (pa_cons (pe_op op_add (pv 1) (pe_own D_law_take hr (by rfl) (pa_cons (pv 0) (pa_cons (pe_op op_add (pe_op op_sub (pv 2) (pv 1)) pe_int) pa_nil)))) (pa_cons (pe_own D_law_take hr (by rfl) (pa_cons (pv 0) (pa_cons pe_int pa_nil))) pa_nil))) (pg_tupK K 2 (by rfl) (pgs_cons (pg_name (i := 3) sc_law_draw_web.nd rfl (.inr rfl)) (pgs_cons (pg_name (i := 4) sc_law_draw_web.nd rfl (.inl rfl)) pgs_nil))))
      (pss_cons (ps_asg (pe_tup (pa_cons (pe_own D_law_draw_order hr (by rfl) (pa_cons (pv 0) (pa_cons (pv 3) pa_nil))) (pa_cons (pe_lst pa_nil) pa_nil))) (pg_tupK K 2 (by rfl) (pgs_cons (pg_name (i := 5) sc_law_draw_web.nd rfl (.inr rfl)) (pgs_cons (pg_name (i := 6) sc_law_draw_web.nd rfl (.inl rfl)) pgs_nil))))
      (pss_cons (ps_if (pt_cmpR op_eq (pv 4) pe_int (nomark _)) (pss_cons (ps_setLc (i := 6) (own := [("k", 10)]) rfl sc_law_draw_web.nd rfl rfl (sw_true rfl rfl rfl (by decide +kernel)) (pi_range1 (by rfl) B.range (pa_cons (pe_own D_law_take hr (by rfl) (pa_cons (pv 0) (pa_cons (pe_op op_add (pv 3) pe_int) pa_nil))) pa_nil)) (blkOk_by (own := [("k", 10)]) (N := ["pen", "low", "high", "n", "way", "order", "pairs", "half", "rings", "ring", "k", "more", "other"]) (sc := (defScope s_law_draw_web)) (by decide +kernel)) (fun _ _ _ _ _ => (pg_name (i := 10) sc_law_draw_web.nd rfl (.inl rfl))) (fun _ _ _ _ _ => pts_nil) (fun _ _ _ _ _ => (pe_tup (pa_cons (pe_own D_law_take hr (by rfl) (pa_cons (pv 0) (pa_cons (pv 3) pa_nil))) (pa_cons (pe_own D_law_take hr (by rfl) (pa_cons (pv 0) (pa_cons (pv 3) pa_nil))) pa_nil)))))
      (pss_one (ps_ret (pe_own D_law_web hr (by rfl) (pa_cons (pv 3) (pa_cons (pv 6) pa_nil)))))) pss_nil)
      (pss_cons (ps_if (pt_cmpR (inQ K) (pv 4) (pe_lst (pa_cons pe_int (pa_cons pe_int pa_nil))) (by rfl)) (pss_cons (ps_set (i := 6) sc_law_draw_web.nd rfl (.inl rfl) (pe_op op_cat (pe_lc (own := [("k", 10)]) (by rfl) sc_law_draw_web.nd (pi_range2 (by rfl) B.range (pa_cons (pe_op op_sub pe_int (pv 4)) (pa_cons (pv 3) pa_nil))) (blkOk_by (own := [("k", 10)]) (N := ["pen", "low", "high", "n", "way", "order", "pairs", "half", "rings", "ring", "k", "more", "other"]) (sc := (defScope s_law_draw_web)) (by decide +kernel)) (fun _ _ _ _ _ => (pg_name (i := 10) sc_law_draw_web.nd rfl (.inl rfl))) (fun _ _ _ _ _ => pts_nil) (fun _ _ _ _ _ => (pe_tup (pa_cons (pe_ix (ixT K) (pv 5) (pe_op op_sub (pv 10) pe_int) (fun _ _ => rfl)) (pa_cons (pe_ix (ixT K) (pv 5) (pv 10) (fun _ _ => rfl)) pa_nil))))) (pe_lst (pa_cons (pe_tup (pa_cons (pe_ix (ixT K) (pv 5) pe_int (fun _ _ => rfl)) (pa_cons (pe_ix (ixT K) (pv 5) (pe_op op_mul pe_int (pe_callTy call_int1 (by rfl) B.int_ (by decide +kernel) (pa_cons (pe_cmpR op_gt (pv 3) pe_int (nomark _)) pa_nil))) (fun _ _ => rfl)) pa_nil))) pa_nil))))
      (pss_one (ps_ret (pe_own D_law_web hr (by rfl) (pa_cons (pv 3) (pa_cons (pe_op op_cat (pv 6) (pe_op op_rep (pe_lst (pa_cons (pe_tup (pa_cons (pe_ix (ixT K) (pv 5) pe_int (fun _ _ => rfl)) (pa_cons (pe_ix (ixT K) (pv 5) (pe_op op_sub (pv 3) pe_int) (fun _ _ => rfl)) pa_nil))) pa_nil)) (pe_op op_sub (pv 4) pe_int))) pa_nil)))))) pss_nil)
      (pss_cons (ps_if (pt_cmpR op_eq (pv 4) pe_int (nomark _)) (pss_one (ps_ret (pe_own D_law_web hr (by rfl) (pa_cons (pv 3) (pa_cons (pe_lc (own := [("other", 12)]) (by rfl) sc_law_draw_web.nd (pi_tupK K (pv 5)) (blkOk_by (own := [("other", 12)]) (N := ["pen", "low", "high", "n", "way", "order", "pairs", "half", "rings", "ring", "k", "more", "other"]) (sc := (defScope s_law_draw_web)) (by decide +kernel)) (fun _ _ _ _ _ => (pg_name (i := 12) sc_law_draw_web.nd rfl (.inl rfl))) (fun _ _ _ _ _ => pts_nil) (fun _ _ _ _ _ => (pe_tup (pa_cons (pe_ix (ixT K) (pv 5) pe_int (fun _ _ => rfl)) (pa_cons (pv 12) pa_nil))))) pa_nil))))) pss_nil)
      (C8.pss_cut (ps_if ((pw_and (pt_cmpR op_eq (pv 4) pe_int (nomark _)) (pw_and1 (pt_cmpR op_gt (pv 3) pe_int (nomark _))))).pt (pss_cons (ps_set (i := 7) sc_law_draw_web.nd rfl (.inl rfl) (pe_op op_add pe_int (pe_own D_law_take hr (by rfl) (pa_cons (pv 0) (pa_cons (pe_op op_sub (pv 3) pe_int) pa_nil)))))
      (pss_cons (ps_set (i := 8) sc_law_draw_web.nd rfl (.inl rfl) (pe_lst (pa_cons (pe_slice (slT K) (pv 5) po_none (po_some (pe_op op_add (pv 7) pe_int))) (pa_cons (pe_slice (slT K) (pv 5) (po_some (pv 7)) po_none) pa_nil))))
      (pss_cons (ps_for PassesOwn.never rfl (pi_listK K (pv 8)) (pg_name (i := 9) sc_law_draw_web.nd rfl (.inr rfl)) (pss_one (ps_set (i := 6) sc_law_draw_web.nd rfl (.inl rfl) (pe_op op_cat (pv 6) (pe_lc (own := [("k", 10)]) (by rfl) sc_law_draw_web.nd (pi_range1 (by rfl) B.range (pa_cons (pe_callB (lenQ K) (by rfl) B.len (by decide +kernel) (pa_cons (pv 9) pa_nil)) pa_nil)) (blkOk_by (own := [("k", 10)]) (N := ["pen", "low", "high", "n", "way", "order", "pairs", "half", "rings", "ring", "k", "more", "other"]) (sc := (defScope s_law_draw_web)) (by decide +kernel)) (fun _ _ _ _ _ => (pg_name (i := 10) sc_law_draw_web.nd rfl (.inl rfl))) (fun _ _ _ _ _ => pts_nil) (fun _ _ _ _ _ => (pe_tup (pa_cons (pe_ix (ixT K) (pv 9) (pe_op op_sub (pv 10) pe_int) (fun _ _ => rfl)) (pa_cons (pe_ix (ixT K) (pv 9) (pv 10) (fun _ _ => rfl)) pa_nil)))))))))
      (pss_one (ps_ret (pe_own D_law_web hr (by rfl) (pa_cons (pv 3) (pa_cons (pv 6) pa_nil)))))))) pss_nil)
      (pss_cons (ps_for PassesOwn.never rfl (pi_range2 (by rfl) B.range (pa_cons pe_int (pa_cons (pv 3) pa_nil))) (pg_name (i := 10) sc_law_draw_web.nd rfl (.inl rfl)) (pss_one (ps_expr (pe_bmK K PySem.F.plainAttrs_list PySem.F.slot_list_append PySem.F.type_list_append mt_append (pv 6) (pa_cons (pe_tup (pa_cons (pe_ix (ixT K) (pv 5) (pe_own D_law_take hr (by rfl) (pa_cons (pv 0) (pa_cons (pv 10) pa_nil))) (fun _ _ => rfl)) (pa_cons (pe_ix (ixT K) (pv 5) (pv 10) (fun _ _ => rfl)) pa_nil))) pa_nil)))))
      (pss_cons (ps_set (i := 11) sc_law_draw_web.nd rfl (.inl rfl) (pe_ix (ixL K) (pe_lst (pa_cons pe_int (pa_cons pe_int (pa_cons pe_int (pa_cons pe_int (pa_cons pe_int (pa_cons pe_int (pa_cons pe_int (pa_cons (pv 3) (pa_cons (pe_op op_mul pe_int (pv 3)) pa_nil)))))))))) (pv 4) (fun _ _ => rfl)))
      (pss_one (ps_ret (pe_own D_law_web hr (by rfl) (pa_cons (pv 3) (pa_cons (pe_op op_cat (pv 6) (pe_lc (own := [("k", 10)]) (by rfl) sc_law_draw_web.nd (pi_range1 (by rfl) B.range (pa_cons (pv 11) pa_nil)) (blkOk_by (own := [("k", 10)]) (N := ["pen", "low", "high", "n", "way", "order", "pairs", "half", "rings", "ring", "k", "more", "other"]) (sc := (defScope s_law_draw_web)) (by decide +kernel)) (fun _ _ _ _ _ => (pg_name (i := 10) sc_law_draw_web.nd rfl (.inl rfl))) (fun _ _ _ _ _ => pts_nil) (fun _ _ _ _ _ => (pe_tup (pa_cons (pe_own D_law_take hr (by rfl) (pa_cons (pv 0) (pa_cons (pv 3) pa_nil))) (pa_cons (pe_own D_law_take hr (by rfl) (pa_cons (pv 0) (pa_cons (pv 3) pa_nil))) pa_nil)))))) pa_nil))))))))))))), ?_⟩
    -- n, way
    refine ⟨_, rfl, _, rfl, _, rfl, _, rfl, (hi : Int), (lo : Int), rfl, rfl, _, 1, rfl, rfl, p, c, _, n0, rfl, pen, by omega, by omega, by omega, fun r1 H1 r10 r11 pen1 s1 => ⟨_, r1, rfl, rfl, ?_⟩⟩
    refine ⟨_, rfl, p, c, 9, n0 + 1, rfl, pen1, by omega, by decide, by decide, fun way H2 w0 w1 pen2 s2 => ?_⟩
    refine ⟨by show 2 ≤ sizeLine; decide, fun t1 ht1 => ?_⟩
    refine ⟨t1, _, rfl, SqT.of upd_same, rfl, _, _, rfl, _, _, rfl, rfl, ?_⟩
    obtain ⟨k, hk⟩ : ∃ k : Nat, (lo : Int) + r1 = k := ⟨((lo : Int) + r1).toNat, by omega⟩
    have nt1 := Pen.ne pen2 ht1
    have pen3 := Pen.upd (o := HO.tup [V.int ((lo : Int) + r1), V.int way]) pen2 nt1
    have s3 : Same (wo p H) (wo p (upd H2 t1 (.tup [V.int ((lo : Int) + r1), V.int way]))) := s1.trans (s2.trans (My.Same.wo (My.Same.new ht1)))
    generalize upd H2 t1 (.tup [V.int ((lo : Int) + r1), V.int way]) = H3 at pen3 s3 ⊢
    dsimp only
    rw [hk]
    have hklo : lo ≤ k := by omega
    have hkhi : k ≤ hi := by omega
    clear hk r10 r11 r1
    -- order, pairs
    refine ⟨_, rfl, _, rfl, p, c, n0 + 2, k, rfl, pen3, by omega, by omega, fun oa o H4 hperm pen4 s4 noa qo => ?_⟩
    have s4 := s3.trans s4
    refine ⟨by show 0 ≤ sizeLine; decide, fun pa hpa => ?_⟩
    have npa := Pen.ne pen4 hpa
    have pen5 := Pen.upd (o := HO.lst []) pen4 npa
    have sA := My.Same.new (o := HO.lst []) hpa
    refine ⟨by show 2 ≤ sizeLine; decide, fun t2 ht2 => ?_⟩
    refine ⟨t2, _, rfl, SqT.of upd_same, rfl, _, _, rfl, _, _, rfl, rfl, ?_⟩
    have nt2 := Pen.ne pen5 ht2
    have pen6 := Pen.upd (o := HO.tup [V.ref oa, V.ref pa]) pen5 nt2
    have sB := My.Same.new (o := HO.tup [V.ref oa, V.ref pa]) ht2
    have qo := My.Same.sqt (My.Same.wo (sA.trans sB)) qo
    have s6 := s4.trans (My.Same.wo (sA.trans sB))
    have epa : upd (upd H4 pa (.lst [])) t2 (.tup [V.ref oa, V.ref pa]) pa = some (.lst []) := sB _ _ upd_same
    have fpa : wo p H pa = none := s4.free (wo_none hpa)
    generalize upd (upd H4 pa (.lst [])) t2 (.tup [V.ref oa, V.ref pa]) = H6 at pen6 qo s6 epa ⊢
    clear pen1 pen2 pen3 pen4 pen5 s1 s2 s3 s4 sA sB hpa ht2 ht1
    -- what the order is
    have olen : o.length = k := by rw [hperm.length_eq, ups_len]
    have oat : ∀ (i : Int), 0 ≤ i → i < k → ∃ x : Int, 0 ≤ x ∧ x < k ∧ atI (o.map V.int) i = some (.int x) := fun i i0 i1 => by
      obtain ⟨x, e, h⟩ := at_int (cs := o) i0 (by omega)
      have hx := mem_ups.mp (hperm.mem_iff.mp (List.mem_of_getElem? e))
      exact ⟨x, hx.1, hx.2, h⟩
    -- what every way ends with: the pairs, then _law_web
    have fin : ∀ (la : Addr) (H7 : Hp) (j i : Nat), Pen H7 p c j → j ≤ n0 + 200 → Same (wo p H) (wo p H7) → PL K k H7 la i → i < 64 → spWeb K [.int k, .ref la] H7 Q E0 := by
      intro la H7 j i pj hj s7 hpl h64
      obtain ⟨us, ps, el, lps, hb, hus⟩ := hpl
      refine ⟨k, la, us, ps, rfl, .inl (SqL.of el), hus, by omega, fun s hs => ?_, fun qa T H8 hcan s8 nq hd => ?_⟩
      · have := hb s hs
        omega
      · obtain ⟨ul, epl⟩ := Pen.lst (Pen.same s8 pj)
        exact q qa k T H8 hklo hkhi (hcan.web hb) (Pen.mono (Pen.same s8 pj) hj) (s7.trans (My.Same.wo s8)) (s7.free (wo_none nq)) (web_wo hd epl)
    -- if way == 0
    refine ⟨_, rfl, rfl, _, rfl, ite2 (fun e => ?_) (fun e => ?_)⟩
    · refine ⟨_, rfl, _, rfl, (k : Int), 1, rfl, rfl, p, c, _, n0 + 2 + k, rfl, pen6, by omega, by omega, by omega, fun r H7 r0 r1 pen7 s7 => ?_⟩
      refine ⟨_, rfl, by omega, by omega, fun D hD => ?_⟩
      refine draw_pairs (K := K) (k := k) hD (fun _ => rfl) (fun _ => rfl) (fun _ => rfl) pen7 (by omega) (by omega) (by omega) (by omega) ?_
      generalize hm0 : r.toNat = m0
      intro H8 us ps pen8 s8 eD lps hps hus
      refine ⟨_, rfl, _, rfl, ?_⟩
      exact fin D H8 _ m0 pen8 (by omega) (s6.trans (s7.trans s8)) ⟨us, ps, eD, lps, hps, DpAll.same (wo_le.trans wo_le) hus⟩ (by omega)
    -- if way in [2, 3]
    refine ⟨_, rfl, by show 2 ≤ sizeLine; decide, fun l1 hl1 => ?_⟩
    refine ⟨l1, _, rfl, .inl (SqL.of upd_same), rfl, rfl, _, rfl, ite2 (fun e2 => ?_) (fun e2 => ?_)⟩
    · have hw := in_two e2
      have sL := My.Same.new (o := HO.lst [V.int 2, V.int 3]) hl1
      have pen7 := Pen.same sL pen6
      have s7 := s6.trans (My.Same.wo sL)
      have qo7 := My.Same.sqt wo_le (My.Same.sqt (My.Same.wo sL) qo)
      generalize upd H6 l1 (.lst [V.int 2, V.int 3]) = H7 at pen7 s7 qo7 ⊢
      refine ⟨_, rfl, 4, way, rfl, rfl, _, rfl, _, _, rfl, ⟨by omega, by omega, by omega, by omega⟩, fun D hD => ?_⟩
      refine lc_range (fun j H3 => PairsAt K k H7 D j H3) (PairsAt.start hD) ?_ ?_
      · rintro j H8 hj hP
        have qo8 := My.Same.sqt hP.1 qo7
        obtain ⟨x, x0, x1, hx⟩ := oat (4 - way + (j : Int) - 1) (by omega) (by omega)
        obtain ⟨y, y0, y1, hy⟩ := oat (4 - way + (j : Int)) (by omega) (by omega)
        refine ⟨rfl, _, rfl, _, rfl, _, 1, rfl, rfl, oa, _, _, _, rfl, rfl, qo8, hx, _, rfl, _, rfl, oa, _, _, _, rfl, rfl, qo8, hy, by show 2 ≤ sizeLine; decide, fun t ht => ?_⟩
        exact hP.push hD ht ⟨x0, x1⟩ ⟨y0, y1⟩ (by omega)
      · intro H8 hP
        have qo8 := My.Same.sqt hP.1 qo7
        obtain ⟨x, x0, x1, hx⟩ := oat 0 (by omega) (by omega)
        -- order[1 * int(n > 1)]
        have hb : ∃ b : Int, (if decide ((1 : Int) < k) = true then (1 : Int) else 0) = b ∧ 0 ≤ b ∧ b < k := by
          by_cases z : (1 : Int) < k
          · rw [decide_eq_true z]
            exact ⟨1, rfl, by decide, z⟩
          · rw [decide_eq_false z]
            exact ⟨0, rfl, by decide, by omega⟩
        obtain ⟨b, eb, b0, b1⟩ := hb
        obtain ⟨y, y0, y1, hy⟩ := oat (1 * b) (by omega) (by omega)
        refine ⟨_, rfl, oa, _, 0, _, rfl, rfl, qo8, hx, _, rfl, _, rfl, _, 1, rfl, rfl, .inr ⟨_, rfl, ?_⟩⟩
        rw [eb]
        refine ⟨1, b, rfl, rfl, .inl ⟨by decide, by decide⟩, oa, _, _, _, rfl, rfl, qo8, hy, by show 2 ≤ sizeLine; decide, fun t ht => ?_⟩
        refine ⟨by show 1 ≤ sizeLine; decide, fun l2 hl2 => ?_⟩
        have hone := PL.one (K := K) (k := k) ht hl2 ⟨x0, x1⟩ ⟨y0, y1⟩
        have sT := (My.Same.new (o := HO.tup [V.int x, V.int y]) ht).trans (My.Same.new (o := HO.lst [V.ref t]) hl2)
        obtain ⟨us, vs, e1, e3, hsz, hcat⟩ := PL.cat (hP.pl.same sT) hone (by omega)
        refine ⟨D, l2, us, vs, rfl, rfl, e1, e3, hsz, fun pl hpl => ?_⟩
        have hp9 := hcat pl hpl
        have s9 := hP.1.trans (sT.trans (My.Same.new (o := HO.lst (us ++ vs)) hpl))
        have pen9 := Pen.same s9 pen7
        have sw9 := s7.trans (My.Same.wo s9)
        have qo9 := My.Same.sqt s9 qo7
        generalize upd _ pl (.lst (us ++ vs)) = H9 at hp9 s9 pen9 sw9 qo9 ⊢
        -- return _law_web(n, pairs + [(order[0], order[n - 1])] * (way - 2))
        obtain ⟨z, z0, z1, hz⟩ := oat ((k : Int) - 1) (by omega) (by omega)
        refine ⟨_, rfl, _, rfl, _, rfl, oa, _, 0, _, rfl, rfl, qo9, hx, _, rfl, _, rfl, (k : Int), 1, rfl, rfl, oa, _, _, _, rfl, rfl, qo9, hz, by show 2 ≤ sizeLine; decide, fun t3 ht3 => ?_⟩
        refine ⟨by show 1 ≤ sizeLine; decide, fun l3 hl3 => ?_⟩
        have hone3 := PL.one (K := K) (k := k) ht3 hl3 ⟨x0, x1⟩ ⟨z0, z1⟩
        have s10 := (My.Same.new (o := HO.tup [V.int x, V.int z]) ht3).trans (My.Same.new (o := HO.lst [V.ref t3]) hl3)
        refine ⟨_, rfl, way, 2, rfl, rfl, l3, _, _, rfl, rfl, upd_same, by omega, by omega, ?_, fun l4 hl4 => ?_⟩
        · show 1 * (way - 2).toNat ≤ sizeLine
          exact small (by omega)
        have hl4L : ∃ i, i ≤ 1 ∧ PL K k (upd (upd (upd H9 t3 (.tup [V.int x, V.int z])) l3 (.lst [V.ref t3])) l4 (.lst (List.replicate (way - 2).toNat [V.ref t3]).flatten)) l4 i := by
          rcases hw with rfl | rfl
          · exact ⟨0, by decide, [], [], upd_same, rfl, (fun _ h => nomatch h), .nil⟩
          · obtain ⟨us3, ps3, f1, f2, f3, f4⟩ := hone3
            refine ⟨1, by decide, [V.ref t3], ps3, upd_same, f2, f3, ?_⟩
            rw [upd_same] at f1
            cases f1
            exact DpAll.same (My.Same.new hl4) f4
        obtain ⟨i, hi1, hl4P⟩ := hl4L
        have s11 := s10.trans (My.Same.new (o := HO.lst (List.replicate (way - 2).toNat [V.ref t3]).flatten) hl4)
        obtain ⟨us2, vs2, g1, g3, hsz2, hcat2⟩ := PL.cat (hp9.same s11) hl4P (by omega)
        refine ⟨pl, l4, us2, vs2, rfl, rfl, g1, g3, hsz2, fun p5 hp5 => ?_⟩
        have s12 := s11.trans (My.Same.new (o := HO.lst (us2 ++ vs2)) hp5)
        exact fin p5 _ _ _ (Pen.same s12 pen9) (by omega) (sw9.trans (My.Same.wo s12)) (hcat2 p5 hp5) (by omega)
    -- if way == 4
    refine ⟨_, rfl, rfl, _, rfl, ite2 (fun e4 => ?_) (fun e4 => ?_)⟩
    · have sL := My.Same.new (o := HO.lst [V.int 2, V.int 3]) hl1
      have pen7 := Pen.same sL pen6
      have s7 := s6.trans (My.Same.wo sL)
      have qo7 := My.Same.sqt wo_le (My.Same.sqt (My.Same.wo sL) qo)
      generalize upd H6 l1 (.lst [V.int 2, V.int 3]) = H7 at pen7 s7 qo7 ⊢
      refine ⟨_, rfl, _, rfl, oa, rfl, ⟨_, qo7⟩, fun D hD => ?_⟩
      refine lc_tup (xs := o.map V.int) (fun j H3 => PairsAt K k H7 D j H3) (PairsAt.start hD) (fun j H3 _ hP => My.Same.sqt hP.1 qo7) ?_ ?_
      · rintro j x H8 ex hP
        have qo8 := My.Same.sqt hP.1 qo7
        obtain ⟨x0, x00, x01, hx0⟩ := oat 0 (by omega) (by omega)
        obtain ⟨y, rfl, y0, y1⟩ : ∃ y, x = .int y ∧ 0 ≤ y ∧ y < k := by
          rw [List.getElem?_map] at ex
          cases e : o[j]? with
          | none => rw [e] at ex; cases ex
          | some y =>
            rw [e] at ex
            have := mem_ups.mp (hperm.mem_iff.mp (List.mem_of_getElem? e))
            exact ⟨y, (Option.some.inj ex).symm, this.1, this.2⟩
        have hj : j < o.length := by
          have := (List.getElem?_eq_some_iff.mp ex).1
          rwa [List.length_map] at this
        refine ⟨rfl, _, rfl, oa, _, 0, _, rfl, rfl, qo8, hx0, _, rfl, by show 2 ≤ sizeLine; decide, fun t ht => ?_⟩
        exact hP.push hD ht ⟨x00, x01⟩ ⟨y0, y1⟩ (by omega)
      · intro H8 hP
        rw [List.length_map] at hP
        exact fin D H8 _ _ (Pen.same hP.1 pen7) (by omega) (s7.trans (My.Same.wo hP.1)) hP.pl (by omega)
    -- if way == 5 and n > 4: else the rest, from the state as it is
    have sL := My.Same.new (o := HO.lst [V.int 2, V.int 3]) hl1
    have pen7 := Pen.same sL pen6
    have s7 := s6.trans (My.Same.wo sL)
    have qo7 := My.Same.sqt (My.Same.wo sL) qo
    have epa7 := sL _ _ epa
    generalize upd H6 l1 (.lst [V.int 2, V.int 3]) = H7 at pen7 s7 qo7 epa7 ⊢
    refine ⟨fun σ H' => σ = [some (.ref p), some (.int lo), some (.int hi), some (.int k), some (.int way), some (.ref oa), some (.ref pa), none, none, none, none, none, none] ∧ H' = H7, ?_, ?_⟩
    · refine ⟨_, rfl, rfl, _, rfl, ite2 (fun e5 => ?_) (fun e5 => iteF ⟨rfl, rfl⟩)⟩
      refine ⟨_, rfl, (k : Int), 4, rfl, rfl, _, rfl, ite2 (fun e6 => ?_) (fun e6 => ⟨rfl, rfl⟩)⟩
      have hk4 : (4 : Int) < k := dT e6
      -- half
      refine ⟨_, rfl, _, rfl, (k : Int), 4, rfl, rfl, p, c, _, n0 + 2 + k, rfl, pen7, by omega, by omega, by omega, fun r H8 r0 r1 pen8 s8 => ⟨2, r, rfl, rfl, ?_⟩⟩
      have qo8 := My.Same.sqt wo_le (My.Same.sqt s8 qo7)
      have epa8 := (wo_some (s8 _ _ ((wo_ne npa.1).trans epa7))).2
      have s8 := s7.trans s8
      -- rings
      refine ⟨_, rfl, _, rfl, _, 1, rfl, rfl, _, rfl, slT_any qo8 fun b1 H9 s9 q1 => ?_⟩
      refine ⟨_, rfl, _, rfl, _, rfl, ?_⟩
      unfold tNoPart
      refine slT_any (My.Same.sqt s9 qo8) fun b2 H10 s10 q2 => ?_
      refine ⟨by show 2 ≤ sizeLine; decide, fun ra hra => ?_⟩
      obtain ⟨r1, er1, hr1, lr1⟩ := cutV_ints (o := o) (lo := none) (hi := some (2 + r + 1))
      obtain ⟨r2, er2, hr2, lr2⟩ := cutV_ints (o := o) (lo := some (2 + r)) (hi := none)
      rw [er1] at q1
      rw [er2] at q2
      have sR := My.Same.new (o := HO.lst [V.ref b1, V.ref b2]) hra
      have q1 := My.Same.sqt (s10.trans sR) q1
      have q2 := My.Same.sqt sR q2
      have pen11 := Pen.same (s9.trans (s10.trans sR)) pen8
      have s11 := s8.trans (My.Same.wo (s9.trans (s10.trans sR)))
      have epa11 := sR _ _ (s10 _ _ (s9 _ _ epa8))
      have era : upd H10 ra (.lst [V.ref b1, V.ref b2]) ra = some (.lst [V.ref b1, V.ref b2]) := upd_same
      generalize upd H10 ra (.lst [V.ref b1, V.ref b2]) = H11 at q1 q2 pen11 s11 epa11 era ⊢
      refine ⟨_, rfl, ra, rfl, ⟨_, SqL.of era⟩, ?_⟩
      refine for_list (xs := [V.ref b1, V.ref b2]) (fun j σ H' => ∃ (pl : Addr) (x9 : Option V) (i : Nat), σ = [some (.ref p), some (.int lo), some (.int hi), some (.int k), some (.int way), some (.ref oa), some (.ref pl), some (.int (2 + r)), some (.ref ra), x9, none, none, none] ∧ Same H11 H' ∧ PL K k H' pl i ∧ i ≤ 12 * j) ?_ ?_ ?_ ?_
      · exact ⟨pa, none, 0, rfl, Same.refl _, ⟨[], [], epa11, rfl, (fun _ h => nomatch h), .nil⟩, by omega⟩
      · rintro j σ H' _ ⟨_, _, _, _, sm, _⟩
        exact SqL.of (sm _ _ era)
      · rintro j x σ H12 ex ⟨pl, x9, i, rfl, sm, hpl, hi⟩
        obtain ⟨b, rr, rfl, qb, hrr, lrr⟩ : ∃ (b : Addr) (rr : List Int), x = .ref b ∧ SqT K H12 b (rr.map V.int) ∧ (∀ x ∈ rr, x ∈ o) ∧ rr.length ≤ 12 := by
          match j, ex with
          | 0, ex => exact ⟨b1, r1, (Option.some.inj ex).symm, My.Same.sqt sm q1, hr1, by omega⟩
          | 1, ex => exact ⟨b2, r2, (Option.some.inj ex).symm, My.Same.sqt sm q2, hr2, by omega⟩
        have hin : ∀ x ∈ rr, 0 ≤ x ∧ x < k := fun x hx => mem_ups.mp (hperm.mem_iff.mp (hrr x hx))
        refine ⟨_, rfl, _, rfl, b, _, rfl, .inr qb, _, rfl, by omega, by rw [List.length_map]; omega, fun D hD => ?_⟩
        rw [Int.toNat_natCast, List.length_map]
        refine lc_range (fun j H3 => PairsAt K k H12 D j H3) (PairsAt.start hD) ?_ ?_
        · rintro t H13 ht hP
          have qb3 := My.Same.sqt hP.1 qb
          obtain ⟨x, mx, hx⟩ := at_back (r := rr) (i := 0 + (t : Int) - 1) (by omega) (by omega) (by omega)
          obtain ⟨y, my, hy⟩ := at_back (r := rr) (i := 0 + (t : Int)) (by omega) (by omega) (by omega)
          refine ⟨rfl, _, rfl, _, rfl, _, 1, rfl, rfl, b, _, _, _, rfl, rfl, qb3, hx, _, rfl, _, rfl, b, _, _, _, rfl, rfl, qb3, hy, by show 2 ≤ sizeLine; decide, fun t3 ht3 => ?_⟩
          exact hP.push hD ht3 (hin x mx) (hin y my) (by omega)
        · intro H13 hP
          obtain ⟨us, vs, e1, e3, hsz, hcat⟩ := PL.cat (hpl.same hP.1) hP.pl (by
            have : j < 2 := (List.getElem?_eq_some_iff.mp ex).1
            omega)
          refine ⟨pl, D, us, vs, rfl, rfl, e1, e3, hsz, fun p5 hp5 => ?_⟩
          exact ⟨p5, _, _, rfl, sm.trans (hP.1.trans (My.Same.new hp5)), hcat p5 hp5, by omega⟩
      · rintro σ H12 ⟨pl, x9, i, rfl, sm, hpl, hi⟩
        refine ⟨_, rfl, _, rfl, ?_⟩
        have hi2 : i ≤ 24 := hi
        exact fin pl H12 _ i (Pen.same sm pen11) (by omega) (s11.trans (My.Same.wo sm)) hpl (by omega)
    · rintro σ H' ⟨rfl, rfl⟩
      -- for k in range(1, n): pairs.append(..)
      refine ⟨_, rfl, 1, _, rfl, ⟨by decide, by decide, by omega, by omega⟩, ?_⟩
      refine for_range (fun j σ H2 => ∃ (x10 : Option V), σ = [some (.ref p), some (.int lo), some (.int hi), some (.int k), some (.int way), some (.ref oa), some (.ref pa), none, none, none, x10, none, none] ∧ Pen H2 p c (n0 + 2 + k + j) ∧ Same (wo p H) (wo p H2) ∧ SqT K (wo p H2) oa (o.map V.int) ∧
        ∃ (us : List V) (ps : List (Int × Int)), H2 pa = some (.lst us) ∧ ps.length = j ∧ (∀ s ∈ ps, (0 ≤ s.1 ∧ s.1 < k) ∧ 0 ≤ s.2 ∧ s.2 < k) ∧ DpAll K (wo pa (wo p H2)) us ((ps.map prI).map tI)) ?_ ?_ ?_
      · exact ⟨none, rfl, pen7, s7, qo7, [], [], epa7, rfl, (fun _ h => nomatch h), .nil⟩
      · rintro j σ H8 hj ⟨x10, rfl, pen8, s8, qo8, us, ps, ep8, lps, hps, hus⟩
        refine ⟨_, rfl, .inl ⟨rfl, _, SqL.of ep8⟩, ?_⟩
        refine ⟨_, rfl, _, rfl, _, rfl, p, c, _, _, rfl, pen8, by omega, by omega, by omega, fun r H9 r0 r1 pen9 s9 => ?_⟩
        have qo9 := My.Same.sqt s9 qo8
        have ep8' : wo p H8 pa = some (.lst us) := (wo_ne npa.1).trans ep8
        have ep9' := s9 _ _ ep8'
        have ep9 := (wo_some ep9').2
        obtain ⟨x, x0, x1, hx⟩ := oat r r0 (by omega)
        obtain ⟨y, y0, y1, hy⟩ := oat (1 + (j : Int)) (by omega) (by omega)
        refine ⟨oa, _, _, _, rfl, rfl, My.Same.sqt wo_le qo9, hx, _, rfl, _, rfl, oa, _, _, _, rfl, rfl, My.Same.sqt wo_le qo9, hy, by show 2 ≤ sizeLine; decide, fun t ht => ?_⟩
        have nt := Pen.ne pen9 ht
        have htp : t ≠ pa := (ne_of_none ep9 ht).symm
        have sT := My.Same.new (o := HO.tup [V.int x, V.int y]) ht
        refine ⟨pa, us, .ref t, rfl, rfl, sT _ _ ep9, ?_, ?_⟩
        · rw [My.DpAll.len hus, List.length_map, List.length_map]
          exact smallT (by omega)
        · have pen10 := Pen.upd (o := HO.lst (us ++ [V.ref t])) (Pen.upd (o := HO.tup [V.int x, V.int y]) pen9 nt) npa
          obtain ⟨g1, g2⟩ := push (DpAll.same (My.Same.wo (s9.trans (My.Same.wo sT))) hus) (Dp.ofTI (K := K) (a := t) (ns := prI (x, y)) (SqT.of ((wo_ne htp).trans ((wo_ne nt.1).trans upd_same))))
          refine ⟨_, rfl, pen10, ?_, ?_, us ++ [.ref t], ps ++ [(x, y)], upd_same, ?_, ?_, ?_⟩
          · rw [wo_upd npa.1]
            exact My.Same.updD (s8.trans (s9.trans (My.Same.wo sT))) fpa
          · rw [wo_upd npa.1]
            exact My.Same.sqt wo_le (My.Same.sqt My.Same.put (sqt_wo (My.Same.sqt (My.Same.wo sT) qo9) ((wo_ne npa.1).trans (sT _ _ ep9))))
          · rw [List.length_append, lps]
            rfl
          · intro z hz
            rcases List.mem_append.mp hz with hz | hz
            · exact hps z hz
            · rw [List.mem_singleton.mp hz]
              exact ⟨⟨x0, x1⟩, y0, y1⟩
          · rw [wo_upd npa.1, List.map_append, List.map_append]
            exact g2
      · rintro σ H8 ⟨x10, rfl, pen8, s8, qo8, us, ps, ep8, lps, hps, hus⟩
        have lk : ps.length + 1 = k := by omega
        -- more
        refine ⟨_, rfl, _, rfl, 3, (k : Int), rfl, rfl, .inl ⟨by decide, by decide⟩, by show 9 ≤ sizeLine; decide, fun ml hml => ?_⟩
        obtain ⟨mo, mo1, hmo⟩ : ∃ mo : Nat, mo ≤ 36 ∧ atI [V.int 0, V.int 1, V.int 0, V.int 0, V.int 0, V.int 2, V.int 3, V.int k, V.int (3 * (k : Int))] way = some (.int mo) := by
          have hc : way = 0 ∨ way = 1 ∨ way = 2 ∨ way = 3 ∨ way = 4 ∨ way = 5 ∨ way = 6 ∨ way = 7 ∨ way = 8 := by omega
          rcases hc with e | e | e | e | e | e | e | e | e <;> subst e
          · exact ⟨0, by decide, rfl⟩
          · exact ⟨1, by decide, rfl⟩
          · exact ⟨0, by decide, rfl⟩
          · exact ⟨0, by decide, rfl⟩
          · exact ⟨0, by decide, rfl⟩
          · exact ⟨2, by decide, rfl⟩
          · exact ⟨3, by decide, rfl⟩
          · exact ⟨k, by omega, rfl⟩
          · refine ⟨3 * k, by omega, ?_⟩
            show some (V.int (3 * (k : Int))) = _
            rw [Int.natCast_mul]
            rfl
        refine ⟨_, rfl, ml, _, way, _, rfl, rfl, SqL.of upd_same, hmo, ?_⟩
        have sM := My.Same.new (o := HO.lst [V.int 0, V.int 1, V.int 0, V.int 0, V.int 0, V.int 2, V.int 3, V.int k, V.int (3 * (k : Int))]) hml
        have pen9 := Pen.same sM pen8
        have s9 := s8.trans (My.Same.wo sM)
        have hpl : PL K k (wo p (upd H8 ml (.lst [V.int 0, V.int 1, V.int 0, V.int 0, V.int 0, V.int 2, V.int 3, V.int k, V.int (3 * (k : Int))]))) pa ps.length :=
          ⟨us, ps, (My.Same.wo sM) _ _ ((wo_ne npa.1).trans ep8), rfl, hps, DpAll.same (wo_le.trans (My.Same.wo sM)) hus⟩
        generalize upd H8 ml _ = H9 at pen9 s9 hpl ⊢
        -- return _law_web(n, pairs + [..])
        refine ⟨_, rfl, _, rfl, _, rfl, _, rfl, by omega, by omega, fun D hD => ?_⟩
        rw [Int.toNat_natCast]
        refine draw_pairs (K := K) (k := k) hD (fun _ => rfl) (fun _ => rfl) (fun _ => rfl) pen9 (by omega) (by omega) (by omega) (by omega) ?_
        intro H10 us2 ps2 pen10 s10 eD lps2 hps2 hus2
        have hp1 : PL K k H10 pa ps.length := (hpl.same s10).same wo_le
        have hp2 : PL K k H10 D mo := ⟨us2, ps2, eD, lps2, hps2, DpAll.same (wo_le.trans wo_le) hus2⟩
        obtain ⟨ua, ub, f1, f2, fz, fcat⟩ := PL.cat hp1 hp2 (by omega)
        refine ⟨pa, D, ua, ub, rfl, rfl, f1, f2, fz, fun p5 hp5 => ?_⟩
        have s11 := My.Same.new (o := HO.lst (ua ++ ub)) hp5
        exact fin p5 _ _ _ (Pen.same s11 pen10) (by omega) (s9.trans (s10.trans (My.Same.wo s11))) (fcat p5 hp5) (by omega)
end
end K14
set_option Elab.async false
set_option linter.all false
set_option maxRecDepth 100000
set_option maxHeartbeats 4000000
namespace K14
open PySem PySem.Spec PyProof.Rows L2 My
def spLaw (K : PySem.W.Frag) : Sp := fun vs H Q _ => ∃ (a : Addr) (ns : List Int), vs = [.ref a] ∧ SqL K H a (ns.map V.int) ∧ ns.length ≤ 63 ∧ ∀ H', Q (.bl true) H'
abbrev s_law : Stmt := topS 31
theorem sc_law : FnScope ["script", "pen", "web", "n", "least", "k", "due", "loose", "again", "lots", "parting", "a", "b", "lot"] ["script"] (defScope s_law) := ⟨rfl, rfl, rfl, by decide +kernel, rfl, by decide +kernel, by decide +kernel⟩
section
variable {P : Program} {w : World} {K : PySem.W.Frag} {mg : Str → Option Value} {base : Heap}
theorem ok_law {f : Addr} {fd : FuncData} {m : Nat} (F : Fun K "law" "law" s_law f fd) (B : Bn mg) (D_law_open : Own P w K mg base "_law_open" m ["script"] (spOpen K)) (D_law_one_of : Own P w K mg base "_law_one_of" m ["pen", "some"] (spOneOf K)) (D_law_draw_web : Own P w K mg base "_law_draw_web" m ["pen", "low", "high"] (spDrawWeb K)) (D_law_least_cut : Own P w K mg base "_law_least_cut" m ["web", "most"] (spD K FLeast)) (D_find_cut : Own P w K mg base "find_cut" m ["web", "k"] (spD K FFindCutX)) (D_find_paper : Own P w K mg base "find_paper" m ["web", "k"] (spD K FFindPaper)) (D_law_loose : Own P w K mg base "_law_loose" m ["web"] (spD K FLooseL)) (D_law_lots : Own P w K mg base "_law_lots" m ["n", "most"] (spD K FLots)) (D_law_piece : Own P w K mg base "_law_piece" m ["web", "lot", "place"] (spPiece K)) (D_law_others : Own P w K mg base "_law_others" m ["web", "lot"] (spOthers K)) (D_parting_lot : Own P w K mg base "parting_lot" m ["web", "a", "b"] (spD K FParting)) : FnG P w K mg base (m + 1) f fd ["script"] (spLaw K) := by
  refine okG F sc_law (fun vs H Q E h => ?_) (fun cdv A outer s H vs Q E gA hr h => ?_)
  · obtain ⟨a, ns, rfl, _⟩ := h
    rfl
  refine ⟨_, (pss_cons (ps_set (i := 1) sc_law.nd rfl (.inl rfl) (pe_own D_law_open hr (by rfl) (pa_cons (pv 0) pa_nil)))
      (pss_cons (ps_set (i := 2) sc_law.nd rfl (.inr rfl) (pe_own D_law_draw_web hr (by rfl) (pa_cons (pv 1) (pa_cons pe_int (pa_cons pe_int pa_nil)))))
      (pss_cons (ps_set (i := 3) sc_law.nd rfl (.inl rfl) (pe_ix (ixT K) (pv 2) pe_int (fun _ _ => rfl)))
      (pss_cons (ps_set (i := 4) sc_law.nd rfl (.inl rfl) (pe_own D_law_least_cut hr (by rfl) (pa_cons (pv 2) (pa_cons (pe_op op_sub (pv 3) pe_int) pa_nil))))
      (pss_cons (ps_for PassesOwn.never rfl (pi_range2 (by rfl) B.range (pa_cons pe_int (pa_cons (pv 3) pa_nil))) (pg_name (i := 5) sc_law.nd rfl (.inl rfl)) (pss_cons (ps_set (i := 6) sc_law.nd rfl (.inl rfl) (pe_and (pe_cmpR op_notN (pv 4) pe_non (nomark _)) (pe_one (pe_cmpR op_lt (pv 4) (pv 5) (nomark _)))))
      (pss_one (ps_if ((pw_or (pt_cmpR op_ne (pe_cmpR op_notN (pe_own D_find_cut hr (by rfl) (pa_cons (pv 2) (pa_cons (pv 5) pa_nil))) pe_non (nomark _)) (pv 6) (nomark _)) (pw_or1 (pt_cmpR op_ne (pe_cmpR op_isN (pe_own D_find_paper hr (by rfl) (pa_cons (pv 2) (pa_cons (pv 5) pa_nil))) pe_non (nomark _)) (pv 6) (nomark _))))).pt (pss_one (ps_ret pe_bl)) pss_nil))))
      (pss_cons (ps_set (i := 7) sc_law.nd rfl (.inl rfl) (pe_own D_law_loose hr (by rfl) (pa_cons (pv 2) pa_nil)))
      (pss_cons (ps_for PassesOwn.never rfl (pi_range1 (by rfl) B.range (pa_cons (pe_op op_mul pe_int (pe_callTy call_int1 (by rfl) B.int_ (by decide +kernel) (pa_cons (pe_cmpR (neD K hr.units) (pv 7) (pe_lst pa_nil) (nomark _)) pa_nil))) pa_nil)) (pg_name (i := 8) sc_law.nd rfl (.inl rfl)) (pss_cons (ps_asg (pe_own D_law_one_of hr (by rfl) (pa_cons (pv 1) (pa_cons (pv 7) pa_nil))) (pg_tupK K 2 (by rfl) (pgs_cons (pg_name (i := 11) sc_law.nd rfl (.inr rfl)) (pgs_cons (pg_name (i := 12) sc_law.nd rfl (.inr rfl)) pgs_nil))))
      (pss_cons (ps_setLc (i := 9) (own := [("lot", 13)]) rfl sc_law.nd rfl rfl (sw_true rfl rfl rfl (by decide +kernel)) (pi_listK K (pe_own D_law_lots hr (by rfl) (pa_cons (pv 3) (pa_cons (pe_op op_sub (pv 3) pe_int) pa_nil)))) (blkOk_by (own := [("lot", 13)]) (N := ["script", "pen", "web", "n", "least", "k", "due", "loose", "again", "lots", "parting", "a", "b", "lot"]) (sc := (defScope s_law)) (by decide +kernel)) (fun _ _ _ _ _ => (pg_name (i := 13) sc_law.nd rfl (.inl rfl))) (fun _ _ _ _ _ => (pts_one ((pw_and (pt_cmpR (notInQ K) (pv 11) (pv 13) (by rfl)) (pw_and1 (pt_cmpR (notInQ K) (pv 12) (pv 13) (by rfl))))).pt)) (fun _ _ _ _ _ => (pv 13)))
      (pss_cons (ps_setLc (i := 10) (own := [("lot", 13)]) rfl sc_law.nd rfl rfl (sw_true rfl rfl rfl (by decide +kernel)) (pi_listK K (pv 9)) (blkOk_by (own := [("lot", 13)]) (N := ["script", "pen", "web", "n", "least", "k", "due", "loose", "again", "lots", "parting", "a", "b", "lot"]) (sc := (defScope s_law)) (by decide +kernel)) (fun _ _ _ _ _ => (pg_name (i := 13) sc_law.nd rfl (.inl rfl))) (fun _ _ _ _ _ => (pts_one (pt_cmpR (notInQ K) (pv 12) (pe_own D_law_piece hr (by rfl) (pa_cons (pv 2) (pa_cons (pe_own D_law_others hr (by rfl) (pa_cons (pv 2) (pa_cons (pv 13) pa_nil))) (pa_cons (pv 11) pa_nil)))) (by rfl)))) (fun _ _ _ _ _ => (pv 13)))
      (pss_one (ps_if ((pw_or (pt_cmpR op_ne (pe_callB (lenQ K) (by rfl) B.len (by decide +kernel) (pa_cons (pe_own D_parting_lot hr (by rfl) (pa_cons (pv 2) (pa_cons (pv 11) (pa_cons (pv 12) pa_nil)))) pa_nil)) (pe_callB (lenQ K) (by rfl) B.len (by decide +kernel) (pa_cons (pe_ix (ixL K) (pv 10) pe_int (fun _ _ => rfl)) pa_nil)) (nomark _)) (pw_or1 (pt_cmpR (notInDL K hr.units) (pe_own D_parting_lot hr (by rfl) (pa_cons (pv 2) (pa_cons (pv 11) (pa_cons (pv 12) pa_nil)))) (pv 10) (by rfl))))).pt (pss_one (ps_ret pe_bl)) pss_nil))))))
      (pss_one (ps_ret pe_bl))))))))), ?_⟩
  refine SS.law (SS.seq (SS.set false _ (SE.call ClOk.drawWeb (SA.cons (SE.var _) (SA.cons (SE.int _) (SA.cons (SE.int _) SA.nil)))))
      (SS.seq (SS.set false _ (SE.op OpOk.ixT (SE.var _) (SE.int _)))
      (SS.seq (SS.set false _ (SE.call ClOk.d (SA.cons (SE.var _) (SA.cons (SE.op OpOk.sub (SE.var _) (SE.int _)) SA.nil))))
      (SS.seq (SS.for_ (SI.rng2 (SA.cons (SE.int _) (SA.cons (SE.var _) SA.nil))) (SG.name _) (SS.seq (SS.set false _ (SE.andV (SE.op OpOk.notN (SE.var _) SE.non) (SE.op OpOk.lt (SE.var _) (SE.var _))))
      (SS.ite (ST.or (ST.test (SE.op OpOk.ne (SE.op OpOk.notN (SE.call ClOk.d (SA.cons (SE.var _) (SA.cons (SE.var _) SA.nil))) SE.non) (SE.var _))) (ST.test (SE.op OpOk.ne (SE.op OpOk.isN (SE.call ClOk.d (SA.cons (SE.var _) (SA.cons (SE.var _) SA.nil))) SE.non) (SE.var _)))) (SS.ret (SE.bl _)) SS.next)))
      (SS.seq (SS.set false _ (SE.call ClOk.d (SA.cons (SE.var _) SA.nil)))
      (SS.seq (SS.for_ (SI.rng1 (SA.cons (SE.op OpOk.mul (SE.int _) (SE.cb CbOk.int (SA.cons (SE.op OpOk.neD (SE.var _) (SE.lst SA.nil)) SA.nil))) SA.nil)) (SG.name _) (SS.seq (SS.asg (SE.call ClOk.oneOf (SA.cons (SE.var _) (SA.cons (SE.var _) SA.nil))) (SG.tup (SGs.cons (SG.name _) (SGs.cons (SG.name _) SGs.nil))))
      (SS.seq (SS.set false _ (SE.lc (SI.lst (SE.call ClOk.d (SA.cons (SE.var _) (SA.cons (SE.op OpOk.sub (SE.var _) (SE.int _)) SA.nil)))) (SG.name _) (ST.and (ST.test (SE.op OpOk.in_ (SE.var _) (SE.var _))) (ST.test (SE.op OpOk.in_ (SE.var _) (SE.var _)))) (SE.var _) (by decide)))
      (SS.seq (SS.set false _ (SE.lc (SI.lst (SE.var _)) (SG.name _) (ST.test (SE.op OpOk.in_ (SE.var _) (SE.call ClOk.pieceF (SA.cons (SE.var _) (SA.cons (SE.call ClOk.others (SA.cons (SE.var _) (SA.cons (SE.var _) SA.nil))) (SA.cons (SE.var _) SA.nil)))))) (SE.var _) (by decide)))
      (SS.ite (ST.or (ST.test (SE.op OpOk.ne (SE.cb CbOk.len (SA.cons (SE.call ClOk.d (SA.cons (SE.var _) (SA.cons (SE.var _) (SA.cons (SE.var _) SA.nil)))) SA.nil)) (SE.cb CbOk.len (SA.cons (SE.op OpOk.ixL (SE.var _) (SE.int _)) SA.nil)))) (ST.test (SE.op OpOk.notInDL (SE.call ClOk.d (SA.cons (SE.var _) (SA.cons (SE.var _) (SA.cons (SE.var _) SA.nil)))) (SE.var _)))) (SS.ret (SE.bl _)) SS.next)))))
      (SS.ret (SE.bl _)))))))) 14 rfl (by decide) h ?_
  show pSeq _ _ _ ⟨[.no, .pen, .no, .no, .no, .no, .no, .no, .no, .no, .no, .no, .no, .no], [], 0, 0⟩
  refine pSeq_ fun X hX => ?_
  array_get_dec
  refine ⟨2, 7, rfl, by omega, by omega, by omega, by omega, fun n T n2 n7 hW => ⟨noLD_web _ _, hX _ ?_⟩⟩
  clear hX X
  have n12 : n ≤ 12 := by omega
  refine pSeq_ fun X hX => ?_
  array_get_dec
  refine hX _ ?_
  clear hX X
  refine pSeq_ fun X hX => ?_
  array_get_dec
  have rest : ∀ ld : PyData, (ld = .none ∧ (∀ lot, ¬ CutIs n T lot)) ∨ (∃ c : Nat, ld = .int c ∧ LeastP n T c) → X ⟨[.no, .pen, .d (webD n T), .d (.int n), .d ld, .no, .no, .no, .no, .no, .no, .no, .no, .no], [], 200, 0⟩ := by
    intro ld hld
    refine hX _ ?_
    clear hX X
    refine pSeq_ fun X hX => ?_
    array_get_dec
    refine ⟨by omega, by omega, by omega, by omega, ?_⟩
    refine pForN (fun i2 s => ∃ x5 x6, s = ⟨[.no, .pen, .d (webD n T), .d (.int n), .d ld, x5, x6, .no, .no, .no, .no, .no, .no, .no], [], 200, 0⟩) ⟨_, _, rfl⟩ ?_ ?_
    · rintro i2 d s2 ed ⟨x5, x6, rfl⟩
      obtain ⟨hi2, rfl⟩ := intsFrom_get ed
      generalize hkv : (1 : Int) + (i2 : Nat) = kv
      have kvn : kv < n := by omega
      obtain ⟨kk, rfl⟩ : ∃ kk : Nat, kv = (kk : Int) := ⟨kv.toNat, by omega⟩
      clear ed hkv
      array_get_dec
      refine pSeq_ fun X hX => ?_
      suffices r3 : ∀ b : Bool, (b = true ↔ ∃ lot, CutIs n T lot ∧ lot.length < kk) → X ⟨[.no, .pen, .d (webD n T), .d (.int n), .d ld, .d (.int kk), .d (.bool b), .no, .no, .no, .no, .no, .no, .no], [], 200, 0⟩ by
        rcases hld with ⟨rfl, hno⟩ | ⟨c, rfl, hc⟩
        · array_get_dec
          exact r3 false ⟨fun z => (by cases z), fun ⟨lot, hl, _⟩ => absurd hl (hno lot)⟩
        · array_get_dec
          refine r3 _ ?_
          rw [decide_eq_true_eq]
          constructor
          · intro h
            obtain ⟨lot, hl, e⟩ := hc.1
            exact ⟨lot, hl, by omega⟩
          · rintro ⟨lot, hl, e⟩
            have := hc.2 lot hl
            omega
      intro b hb
      refine hX _ ?_
      clear hX X
      refine pIf_ fun Y N hY hN => ?_
      array_get_dec
      refine ⟨n, T, kk, rfl, hW, n12, fun hno => ?_, fun lot hl hlk => ?_⟩
      · have eb : b = false := by
          cases b with
          | false => rfl
          | true =>
            obtain ⟨lot, h1, h2⟩ := hb.mp rfl
            have := hno lot h1
            omega
        subst eb
        array_get_dec
        refine ⟨n, T, kk, rfl, hW, n12, fun ⟨lot, h1, h2⟩ => ?_, fun kvs hp hall => ?_⟩
        · have := hno lot h1
          omega
        · array_get_dec
          refine hN _ ?_
          array_get_dec
          exact ⟨_, _, rfl⟩
      · have eb : b = true := hb.mpr ⟨lot, hl, by omega⟩
        subst eb
        array_get_dec
        refine ⟨n, T, kk, rfl, hW, n12, fun _ => ?_, fun kvs hp hall => ?_⟩
        · array_get_dec
          refine hN _ ?_
          array_get_dec
          exact ⟨_, _, rfl⟩
        · have := hall lot hl
          omega
    · rintro s2 ⟨x5, x6, rfl⟩
      refine hX _ ?_
      clear hX X
      refine pSeq_ fun X hX => ?_
      array_get_dec
      refine ⟨n, T, rfl, hW, n12, ?_⟩
      array_get_dec
      refine hX _ ?_
      clear hX X
      have hll := looseL_len (n := n) (T := T)
      have hll144 : n * n ≤ 144 := Nat.mul_le_mul n12 n12
      have eL : (looseL n T).map linkD = ((looseL n T).map prI).map tI := by rw [List.map_map]; rfl
      have hbL : ∀ r ∈ (looseL n T).map prI, r.length ≤ 100000 := fun r hr => by
        obtain ⟨t, _, rfl⟩ := List.mem_map.mp hr
        unfold prI
        simp
      have lbL : ((looseL n T).map prI).length ≤ 1000 := by rw [List.length_map]; omega
      refine pSeq_ fun X hX => ?_
      array_get_dec
      refine ⟨⟨3, by rw [eL]; exact fit_tIs lbL hbL⟩, ⟨3, fit_tIs (rms := []) (Nat.zero_le _) (fun r hr => nomatch hr)⟩, by rw [eL]; exact shaped_tIs, shaped_tIs (rms := []), ?_⟩
      rw [eL, eqv_map0, ← eL]
      have hne0 : decide ((looseL n T).map prI = []) = decide (looseL n T = []) := decide_eq_decide.mpr (by simp)
      rw [hne0]
      obtain ⟨mm, em, hm3, hmE⟩ : ∃ mm : Nat, (2 : Int) * (if (!decide (looseL n T = [])) = true then 1 else 0) = mm ∧ mm ≤ 2 ∧ (1 ≤ mm → looseL n T ≠ []) := by
        by_cases h : looseL n T = []
        · exact ⟨0, by simp [h], by omega, fun z => by omega⟩
        · exact ⟨2, by simp [h], by omega, fun _ => h⟩
      refine ⟨.inl ⟨by decide, by decide⟩, ?_⟩
      rw [em]
      refine ⟨by omega, by omega, ?_⟩
      rw [Int.toNat_natCast]
      refine pForN (fun i2 s => ∃ x8 x9 x10 x11 x12 x13 k2, s = ⟨[.no, .pen, .d (webD n T), .d (.int n), .d ld, x5, x6, .l ((looseL n T).map linkD), x8, x9, x10, x11, x12, x13], [], k2, 0⟩ ∧ k2 ≤ 200 + i2) ⟨_, _, _, _, _, _, _, rfl, by omega⟩ ?_ ?_
      · rintro i2 d2 s2 ed2 ⟨x8, x9, x10, x11, x12, x13, k2, rfl, hk2⟩
        obtain ⟨hi2, rfl⟩ := intsFrom_get ed2
        have hpos := List.length_pos_iff.mpr (hmE (by omega))
        array_get_dec
        refine pSeq_ fun X hX => ?_
        array_get_dec
        refine ⟨by omega, by rw [List.length_map]; omega, by rw [List.length_map]; omega, fun j d ed => ?_⟩
        obtain ⟨⟨a, b⟩, el, rfl⟩ := map_at ed
        have hA := looseL_apart hW n12 (List.mem_of_getElem? el)
        clear el ed
        array_get_dec
        refine hX _ ?_
        clear hX X
        have hl128 := lotsL_len (n := n) (most := n - 2) n7 (by omega)
        refine pSeq_ fun X hX => ?_
        array_get_dec
        refine ⟨n, n - 2, by rw [show ((n - 2 : Nat) : Int) = (n : Int) - 2 by omega], n7, by omega, ?_⟩
        array_get_dec
        refine pLcD_fun (lotsL n (n - 2)) tI (fun lot => !decide (a ∈ lot) && !decide (b ∈ lot)) tI (by omega) rfl (fun lot hlot Y F hY hF => ?_) ?_
        · array_get_dec
          refine iteS (fun hc => iteS (fun hc2 => hY (by rw [hc, hc2]; rfl)) fun hc2 => hF ?_) fun hc => hF ?_
          · rw [hc2, Bool.and_false]
          · rw [hc, Bool.false_and]
        generalize hL1 : (lotsL n (n - 2)).filter (fun lot => !decide (a ∈ lot) && !decide (b ∈ lot)) = L1
        have m1 : ∀ lot, lot ∈ L1 ↔ (lot.length ≤ n - 2 ∧ AscIn n lot) ∧ a ∉ lot ∧ b ∉ lot := fun lot => by
          rw [← hL1, List.mem_filter, mem_lotsL, Bool.and_eq_true, Bool.not_eq_true', Bool.not_eq_true', decide_eq_false_iff_not, decide_eq_false_iff_not]
        have l1 : L1.length ≤ 128 := by
          rw [← hL1]
          exact Nat.le_trans (List.length_filter_le _ _) hl128
        have u1 : L1.Pairwise fun r s => r.length ≤ s.length := by
          rw [← hL1]
          exact lotsL_up.filter _
        refine hX _ ?_
        clear hX X
        clear hL1 hl128
        have dec : ∀ lot, ∃ z : Bool, (z = true ↔ ¬ Reach T (othersL n lot) a b) := fun lot => by
          by_cases h : Reach T (othersL n lot) a b
          · exact ⟨false, ⟨fun z => (by cases z), fun z => absurd h z⟩⟩
          · exact ⟨true, fun _ => h, fun _ => rfl⟩
        obtain ⟨f, hf⟩ : ∃ f : List Int → Bool, ∀ lot, f lot = true ↔ ¬ Reach T (othersL n lot) a b := ⟨fun lot => Classical.choose (dec lot), fun lot => Classical.choose_spec (dec lot)⟩
        refine pSeq_ fun X hX => ?_
        array_get_dec
        refine pLcD_fun L1 tI f tI (by omega) rfl (fun lot hlot Y F hY hF => ?_) ?_
        · have lo := othersL_len (n := n) (lot := lot)
          have g1 := ((m1 lot).mp hlot).1
          array_get_dec
          refine ⟨n, .tuple (T.map fun t => tI (prI t)), lot, rfl, by omega, noLD_tI _, ?_⟩
          refine ⟨n, T, othersL n lot, a, rfl, hW, by omega, n12, by omega, fun y hy => mem_ups.mp (List.mem_filter.mp hy).1, hA.ha.1, hA.ha.2, fun ls hls => ?_⟩
          array_get_dec
          refine iteS (fun hc => hY ?_) fun hc => hF ?_
          · rw [hf]
            intro z
            rw [decide_eq_true ((hls.2 b).mpr z)] at hc
            cases hc
          · cases e : f lot with
            | false => rfl
            | true =>
              rw [decide_eq_false fun z => (hf lot).mp e ((hls.2 b).mp z)] at hc
              cases hc
        generalize hL2 : L1.filter f = L2
        have m2 : ∀ lot, lot ∈ L2 ↔ ((lot.length ≤ n - 2 ∧ AscIn n lot) ∧ a ∉ lot ∧ b ∉ lot) ∧ ¬ Reach T (othersL n lot) a b := fun lot => by
          rw [← hL2, List.mem_filter, m1, hf]
        have l2 : L2.length ≤ 128 := by
          rw [← hL2]
          exact Nat.le_trans (List.length_filter_le _ _) l1
        have u2 : L2.Pairwise fun r s => r.length ≤ s.length := by
          rw [← hL2]
          exact u1.filter _
        clear hL2 m1 l1 u1
        refine hX _ ?_
        clear hX X
        have inL : ∀ lot, LotP n T a b lot → lot ∈ L2 := fun lot h => by
          have sm := (LotP.cut hA h).small
          exact (m2 lot).mpr ⟨⟨⟨by omega, h.1, h.2.1⟩, h.2.2.1, h.2.2.2.1⟩, h.2.2.2.2⟩
        refine pIf_ fun Y N hY hN => ?_
        array_get_dec
        refine FParting.of hA fun lot ws hlot hws e => ?_
        obtain ⟨first, more, rfl⟩ : ∃ first more, L2 = first :: more := by
          cases L2 with
          | nil => exact absurd (inL lot hlot) (by simp)
          | cons x r => exact ⟨x, r, rfl⟩
        have hf1 := (m2 first).mp (by simp)
        have e1 : lot.length = first.length := by
          have a1 := ways_le hW hws hf1.1.2.1 hf1.1.2.2 hf1.2
          have a2 : first.length ≤ lot.length := by
            rcases List.mem_cons.mp (inL lot hlot) with rfl | h
            · exact Nat.le_refl _
            · exact (List.pairwise_cons.mp u2).1 lot h
          omega
        array_get_dec
        rw [List.length_map, List.length_map, e1, decide_eq_true rfl]
        refine iteN ?_
        refine FParting.of hA fun lot' ws' hlot' hws' e' => ?_
        have hin := inL lot' hlot'
        rw [show tI first :: more.map tI = (first :: more).map tI from rfl]
        have lens : ∀ x ∈ first :: more, x.length ≤ 100000 := fun x hx => by
          have := ((m2 x).mp hx).1.1.1
          omega
        refine in_tIsL (neg := true) (r := lot') (L := first :: more) rfl rfl (lens _ hin) (by omega) lens ?_
        rw [decide_eq_true hin]
        array_get_dec
        refine hN _ ?_
        array_get_dec
        exact ⟨_, _, _, _, _, _, _, rfl, by omega⟩
      · rintro s2 ⟨x8, x9, x10, x11, x12, x13, k2, rfl, hk2⟩
        refine hX _ ?_
        array_get_dec
  refine ⟨n, T, rfl, hW, n2, by omega, fun c hc => ?_, fun hno => ?_⟩
  · array_get_dec
    exact rest _ (.inr ⟨c, rfl, hc⟩)
  · array_get_dec
    exact rest _ (.inl ⟨rfl, hno⟩)
end
end K14
set_option Elab.async false
set_option linter.all false
set_option maxRecDepth 100000
set_option maxHeartbeats 4000000
namespace K14
open PySem PySem.Spec PyProof.Rows L2 My
theorem all_mk {l : PySem.W.OpenLaw} {w : World} {K : PySem.W.Frag} {h : Heap} {mg : Str → Option Value} {fa : Addr} (X : K.In h) (G : h.Ns mainGlobals mg) (hfa : mg "law" = some (.ref fa))
    {f0 : Addr} {od0 an0 : Option Addr} {sl0 : Array (Option Value)} {oc0 kV0 dc0 pm0 cd0 ct0 : Value}
    (a0 : PySem.W.nsIn K mainGlobals "neighbours" = some (some (.ref f0))) (l0 : K.lookup f0 = some ⟨oc0, od0, .func (PySem.W.fnOf "neighbours" "neighbours" (defArgs s_neighbours) (defBody s_neighbours) (defScope s_neighbours) .none kV0 dc0 pm0 an0 cd0 ct0), sl0⟩) (c0 : PySem.W.codeIn K cd0 "neighbours" = true) (k0 : PySem.W.keepIn K (.ref f0) = true)
    {f1 : Addr} {od1 an1 : Option Addr} {sl1 : Array (Option Value)} {oc1 kV1 dc1 pm1 cd1 ct1 : Value}
    (a1 : PySem.W.nsIn K mainGlobals "loose_ties" = some (some (.ref f1))) (l1 : K.lookup f1 = some ⟨oc1, od1, .func (PySem.W.fnOf "loose_ties" "loose_ties" (defArgs s_loose_ties) (defBody s_loose_ties) (defScope s_loose_ties) .none kV1 dc1 pm1 an1 cd1 ct1), sl1⟩) (c1 : PySem.W.codeIn K cd1 "loose_ties" = true) (k1 : PySem.W.keepIn K (.ref f1) = true)
    {f2 : Addr} {od2 an2 : Option Addr} {sl2 : Array (Option Value)} {oc2 kV2 dc2 pm2 cd2 ct2 : Value}
    (a2 : PySem.W.nsIn K mainGlobals "trail" = some (some (.ref f2))) (l2 : K.lookup f2 = some ⟨oc2, od2, .func (PySem.W.fnOf "trail" "trail" (defArgs s_trail) (defBody s_trail) (defScope s_trail) .none kV2 dc2 pm2 an2 cd2 ct2), sl2⟩) (c2 : PySem.W.codeIn K cd2 "trail" = true) (k2 : PySem.W.keepIn K (.ref f2) = true)
    {f3 : Addr} {od3 an3 : Option Addr} {sl3 : Array (Option Value)} {oc3 kV3 dc3 pm3 cd3 ct3 : Value}
    (a3 : PySem.W.nsIn K mainGlobals "ways_apart" = some (some (.ref f3))) (l3 : K.lookup f3 = some ⟨oc3, od3, .func (PySem.W.fnOf "ways_apart" "ways_apart" (defArgs s_ways_apart) (defBody s_ways_apart) (defScope s_ways_apart) .none kV3 dc3 pm3 an3 cd3 ct3), sl3⟩) (c3 : PySem.W.codeIn K cd3 "ways_apart" = true) (k3 : PySem.W.keepIn K (.ref f3) = true)
    {f4 : Addr} {od4 an4 : Option Addr} {sl4 : Array (Option Value)} {oc4 kV4 dc4 pm4 cd4 ct4 : Value}
    (a4 : PySem.W.nsIn K mainGlobals "parting_lot" = some (some (.ref f4))) (l4 : K.lookup f4 = some ⟨oc4, od4, .func (PySem.W.fnOf "parting_lot" "parting_lot" (defArgs s_parting_lot) (defBody s_parting_lot) (defScope s_parting_lot) .none kV4 dc4 pm4 an4 cd4 ct4), sl4⟩) (c4 : PySem.W.codeIn K cd4 "parting_lot" = true) (k4 : PySem.W.keepIn K (.ref f4) = true)
    {f5 : Addr} {od5 an5 : Option Addr} {sl5 : Array (Option Value)} {oc5 kV5 dc5 pm5 cd5 ct5 : Value}
    (a5 : PySem.W.nsIn K mainGlobals "_most_links" = some (some (.ref f5))) (l5 : K.lookup f5 = some ⟨oc5, od5, .func (PySem.W.fnOf "_most_links" "_most_links" (defArgs s_most_links) (defBody s_most_links) (defScope s_most_links) .none kV5 dc5 pm5 an5 cd5 ct5), sl5⟩) (c5 : PySem.W.codeIn K cd5 "_most_links" = true) (k5 : PySem.W.keepIn K (.ref f5) = true)
    {f6 : Addr} {od6 an6 : Option Addr} {sl6 : Array (Option Value)} {oc6 kV6 dc6 pm6 cd6 ct6 : Value}
    (a6 : PySem.W.nsIn K mainGlobals "_came_from" = some (some (.ref f6))) (l6 : K.lookup f6 = some ⟨oc6, od6, .func (PySem.W.fnOf "_came_from" "_came_from" (defArgs s_came_from) (defBody s_came_from) (defScope s_came_from) .none kV6 dc6 pm6 an6 cd6 ct6), sl6⟩) (c6 : PySem.W.codeIn K cd6 "_came_from" = true) (k6 : PySem.W.keepIn K (.ref f6) = true)
    {f7 : Addr} {od7 an7 : Option Addr} {sl7 : Array (Option Value)} {oc7 kV7 dc7 pm7 cd7 ct7 : Value}
    (a7 : PySem.W.nsIn K mainGlobals "_next_sides" = some (some (.ref f7))) (l7 : K.lookup f7 = some ⟨oc7, od7, .func (PySem.W.fnOf "_next_sides" "_next_sides" (defArgs s_next_sides) (defBody s_next_sides) (defScope s_next_sides) .none kV7 dc7 pm7 an7 cd7 ct7), sl7⟩) (c7 : PySem.W.codeIn K cd7 "_next_sides" = true) (k7 : PySem.W.keepIn K (.ref f7) = true)
    {f8 : Addr} {od8 an8 : Option Addr} {sl8 : Array (Option Value)} {oc8 kV8 dc8 pm8 cd8 ct8 : Value}
    (a8 : PySem.W.nsIn K mainGlobals "_with_way" = some (some (.ref f8))) (l8 : K.lookup f8 = some ⟨oc8, od8, .func (PySem.W.fnOf "_with_way" "_with_way" (defArgs s_with_way) (defBody s_with_way) (defScope s_with_way) .none kV8 dc8 pm8 an8 cd8 ct8), sl8⟩) (c8 : PySem.W.codeIn K cd8 "_with_way" = true) (k8 : PySem.W.keepIn K (.ref f8) = true)
    {f9 : Addr} {od9 an9 : Option Addr} {sl9 : Array (Option Value)} {oc9 kV9 dc9 pm9 cd9 ct9 : Value}
    (a9 : PySem.W.nsIn K mainGlobals "_way_along" = some (some (.ref f9))) (l9 : K.lookup f9 = some ⟨oc9, od9, .func (PySem.W.fnOf "_way_along" "_way_along" (defArgs s_way_along) (defBody s_way_along) (defScope s_way_along) .none kV9 dc9 pm9 an9 cd9 ct9), sl9⟩) (c9 : PySem.W.codeIn K cd9 "_way_along" = true) (k9 : PySem.W.keepIn K (.ref f9) = true)
    {f10 : Addr} {od10 an10 : Option Addr} {sl10 : Array (Option Value)} {oc10 kV10 dc10 pm10 cd10 ct10 : Value}
    (a10 : PySem.W.nsIn K mainGlobals "find_paper" = some (some (.ref f10))) (l10 : K.lookup f10 = some ⟨oc10, od10, .func (PySem.W.fnOf "find_paper" "find_paper" (defArgs s_find_paper) (defBody s_find_paper) (defScope s_find_paper) .none kV10 dc10 pm10 an10 cd10 ct10), sl10⟩) (c10 : PySem.W.codeIn K cd10 "find_paper" = true) (k10 : PySem.W.keepIn K (.ref f10) = true)
    {f11 : Addr} {od11 an11 : Option Addr} {sl11 : Array (Option Value)} {oc11 kV11 dc11 pm11 cd11 ct11 : Value}
    (a11 : PySem.W.nsIn K mainGlobals "find_cut" = some (some (.ref f11))) (l11 : K.lookup f11 = some ⟨oc11, od11, .func (PySem.W.fnOf "find_cut" "find_cut" (defArgs s_find_cut) (defBody s_find_cut) (defScope s_find_cut) .none kV11 dc11 pm11 an11 cd11 ct11), sl11⟩) (c11 : PySem.W.codeIn K cd11 "find_cut" = true) (k11 : PySem.W.keepIn K (.ref f11) = true)
    {f12 : Addr} {od12 an12 : Option Addr} {sl12 : Array (Option Value)} {oc12 kV12 dc12 pm12 cd12 ct12 : Value}
    (a12 : PySem.W.nsIn K mainGlobals "_law_open" = some (some (.ref f12))) (l12 : K.lookup f12 = some ⟨oc12, od12, .func (PySem.W.fnOf "_law_open" "_law_open" (defArgs s_law_open) (defBody s_law_open) (defScope s_law_open) .none kV12 dc12 pm12 an12 cd12 ct12), sl12⟩) (c12 : PySem.W.codeIn K cd12 "_law_open" = true) (k12 : PySem.W.keepIn K (.ref f12) = true)
    {f13 : Addr} {od13 an13 : Option Addr} {sl13 : Array (Option Value)} {oc13 kV13 dc13 pm13 cd13 ct13 : Value}
    (a13 : PySem.W.nsIn K mainGlobals "_law_spread" = some (some (.ref f13))) (l13 : K.lookup f13 = some ⟨oc13, od13, .func (PySem.W.fnOf "_law_spread" "_law_spread" (defArgs s_law_spread) (defBody s_law_spread) (defScope s_law_spread) .none kV13 dc13 pm13 an13 cd13 ct13), sl13⟩) (c13 : PySem.W.codeIn K cd13 "_law_spread" = true) (k13 : PySem.W.keepIn K (.ref f13) = true)
    {f14 : Addr} {od14 an14 : Option Addr} {sl14 : Array (Option Value)} {oc14 kV14 dc14 pm14 cd14 ct14 : Value}
    (a14 : PySem.W.nsIn K mainGlobals "_law_take" = some (some (.ref f14))) (l14 : K.lookup f14 = some ⟨oc14, od14, .func (PySem.W.fnOf "_law_take" "_law_take" (defArgs s_law_take) (defBody s_law_take) (defScope s_law_take) .none kV14 dc14 pm14 an14 cd14 ct14), sl14⟩) (c14 : PySem.W.codeIn K cd14 "_law_take" = true) (k14 : PySem.W.keepIn K (.ref f14) = true)
    {f15 : Addr} {od15 an15 : Option Addr} {sl15 : Array (Option Value)} {oc15 kV15 dc15 pm15 cd15 ct15 : Value}
    (a15 : PySem.W.nsIn K mainGlobals "_law_one_of" = some (some (.ref f15))) (l15 : K.lookup f15 = some ⟨oc15, od15, .func (PySem.W.fnOf "_law_one_of" "_law_one_of" (defArgs s_law_one_of) (defBody s_law_one_of) (defScope s_law_one_of) .none kV15 dc15 pm15 an15 cd15 ct15), sl15⟩) (c15 : PySem.W.codeIn K cd15 "_law_one_of" = true) (k15 : PySem.W.keepIn K (.ref f15) = true)
    {f16 : Addr} {od16 an16 : Option Addr} {sl16 : Array (Option Value)} {oc16 kV16 dc16 pm16 cd16 ct16 : Value}
    (a16 : PySem.W.nsIn K mainGlobals "_law_draw_order" = some (some (.ref f16))) (l16 : K.lookup f16 = some ⟨oc16, od16, .func (PySem.W.fnOf "_law_draw_order" "_law_draw_order" (defArgs s_law_draw_order) (defBody s_law_draw_order) (defScope s_law_draw_order) .none kV16 dc16 pm16 an16 cd16 ct16), sl16⟩) (c16 : PySem.W.codeIn K cd16 "_law_draw_order" = true) (k16 : PySem.W.keepIn K (.ref f16) = true)
    {f17 : Addr} {od17 an17 : Option Addr} {sl17 : Array (Option Value)} {oc17 kV17 dc17 pm17 cd17 ct17 : Value}
    (a17 : PySem.W.nsIn K mainGlobals "_law_web" = some (some (.ref f17))) (l17 : K.lookup f17 = some ⟨oc17, od17, .func (PySem.W.fnOf "_law_web" "_law_web" (defArgs s_law_web) (defBody s_law_web) (defScope s_law_web) .none kV17 dc17 pm17 an17 cd17 ct17), sl17⟩) (c17 : PySem.W.codeIn K cd17 "_law_web" = true) (k17 : PySem.W.keepIn K (.ref f17) = true)
    {f18 : Addr} {od18 an18 : Option Addr} {sl18 : Array (Option Value)} {oc18 kV18 dc18 pm18 cd18 ct18 : Value}
    (a18 : PySem.W.nsIn K mainGlobals "_law_draw_web" = some (some (.ref f18))) (l18 : K.lookup f18 = some ⟨oc18, od18, .func (PySem.W.fnOf "_law_draw_web" "_law_draw_web" (defArgs s_law_draw_web) (defBody s_law_draw_web) (defScope s_law_draw_web) .none kV18 dc18 pm18 an18 cd18 ct18), sl18⟩) (c18 : PySem.W.codeIn K cd18 "_law_draw_web" = true) (k18 : PySem.W.keepIn K (.ref f18) = true)
    {f19 : Addr} {od19 an19 : Option Addr} {sl19 : Array (Option Value)} {oc19 kV19 dc19 pm19 cd19 ct19 : Value}
    (a19 : PySem.W.nsIn K mainGlobals "_law_near" = some (some (.ref f19))) (l19 : K.lookup f19 = some ⟨oc19, od19, .func (PySem.W.fnOf "_law_near" "_law_near" (defArgs s_law_near) (defBody s_law_near) (defScope s_law_near) .none kV19 dc19 pm19 an19 cd19 ct19), sl19⟩) (c19 : PySem.W.codeIn K cd19 "_law_near" = true) (k19 : PySem.W.keepIn K (.ref f19) = true)
    {f20 : Addr} {od20 an20 : Option Addr} {sl20 : Array (Option Value)} {oc20 kV20 dc20 pm20 cd20 ct20 : Value}
    (a20 : PySem.W.nsIn K mainGlobals "_law_piece" = some (some (.ref f20))) (l20 : K.lookup f20 = some ⟨oc20, od20, .func (PySem.W.fnOf "_law_piece" "_law_piece" (defArgs s_law_piece) (defBody s_law_piece) (defScope s_law_piece) .none kV20 dc20 pm20 an20 cd20 ct20), sl20⟩) (c20 : PySem.W.codeIn K cd20 "_law_piece" = true) (k20 : PySem.W.keepIn K (.ref f20) = true)
    {f21 : Addr} {od21 an21 : Option Addr} {sl21 : Array (Option Value)} {oc21 kV21 dc21 pm21 cd21 ct21 : Value}
    (a21 : PySem.W.nsIn K mainGlobals "_law_pieces" = some (some (.ref f21))) (l21 : K.lookup f21 = some ⟨oc21, od21, .func (PySem.W.fnOf "_law_pieces" "_law_pieces" (defArgs s_law_pieces) (defBody s_law_pieces) (defScope s_law_pieces) .none kV21 dc21 pm21 an21 cd21 ct21), sl21⟩) (c21 : PySem.W.codeIn K cd21 "_law_pieces" = true) (k21 : PySem.W.keepIn K (.ref f21) = true)
    {f22 : Addr} {od22 an22 : Option Addr} {sl22 : Array (Option Value)} {oc22 kV22 dc22 pm22 cd22 ct22 : Value}
    (a22 : PySem.W.nsIn K mainGlobals "_law_others" = some (some (.ref f22))) (l22 : K.lookup f22 = some ⟨oc22, od22, .func (PySem.W.fnOf "_law_others" "_law_others" (defArgs s_law_others) (defBody s_law_others) (defScope s_law_others) .none kV22 dc22 pm22 an22 cd22 ct22), sl22⟩) (c22 : PySem.W.codeIn K cd22 "_law_others" = true) (k22 : PySem.W.keepIn K (.ref f22) = true)
    {f23 : Addr} {od23 an23 : Option Addr} {sl23 : Array (Option Value)} {oc23 kV23 dc23 pm23 cd23 ct23 : Value}
    (a23 : PySem.W.nsIn K mainGlobals "_law_loose" = some (some (.ref f23))) (l23 : K.lookup f23 = some ⟨oc23, od23, .func (PySem.W.fnOf "_law_loose" "_law_loose" (defArgs s_law_loose) (defBody s_law_loose) (defScope s_law_loose) .none kV23 dc23 pm23 an23 cd23 ct23), sl23⟩) (c23 : PySem.W.codeIn K cd23 "_law_loose" = true) (k23 : PySem.W.keepIn K (.ref f23) = true)
    {f24 : Addr} {od24 an24 : Option Addr} {sl24 : Array (Option Value)} {oc24 kV24 dc24 pm24 cd24 ct24 : Value}
    (a24 : PySem.W.nsIn K mainGlobals "_law_lots" = some (some (.ref f24))) (l24 : K.lookup f24 = some ⟨oc24, od24, .func (PySem.W.fnOf "_law_lots" "_law_lots" (defArgs s_law_lots) (defBody s_law_lots) (defScope s_law_lots) .none kV24 dc24 pm24 an24 cd24 ct24), sl24⟩) (c24 : PySem.W.codeIn K cd24 "_law_lots" = true) (k24 : PySem.W.keepIn K (.ref f24) = true)
    {f25 : Addr} {od25 an25 : Option Addr} {sl25 : Array (Option Value)} {oc25 kV25 dc25 pm25 cd25 ct25 : Value}
    (a25 : PySem.W.nsIn K mainGlobals "_law_least_cut" = some (some (.ref f25))) (l25 : K.lookup f25 = some ⟨oc25, od25, .func (PySem.W.fnOf "_law_least_cut" "_law_least_cut" (defArgs s_law_least_cut) (defBody s_law_least_cut) (defScope s_law_least_cut) .none kV25 dc25 pm25 an25 cd25 ct25), sl25⟩) (c25 : PySem.W.codeIn K cd25 "_law_least_cut" = true) (k25 : PySem.W.keepIn K (.ref f25) = true)
    {f26 : Addr} {od26 an26 : Option Addr} {sl26 : Array (Option Value)} {oc26 kV26 dc26 pm26 cd26 ct26 : Value}
    (a26 : PySem.W.nsIn K mainGlobals "law" = some (some (.ref f26))) (l26 : K.lookup f26 = some ⟨oc26, od26, .func (PySem.W.fnOf "law" "law" (defArgs s_law) (defBody s_law) (defScope s_law) .none kV26 dc26 pm26 an26 cd26 ct26), sl26⟩) (c26 : PySem.W.codeIn K cd26 "law" = true) (k26 : PySem.W.keepIn K (.ref f26) = true)
    (z_len : PySem.W.nsIn K mainGlobals "len" = some none)
    (z_int : PySem.W.nsIn K mainGlobals "int" = some none)
    (z_list : PySem.W.nsIn K mainGlobals "list" = some none)
    (z_tuple : PySem.W.nsIn K mainGlobals "tuple" = some none)
    (z_bool : PySem.W.nsIn K mainGlobals "bool" = some none)
    (z_str : PySem.W.nsIn K mainGlobals "str" = some none)
    (z_range : PySem.W.nsIn K mainGlobals "range" = some none)
    (z_enumerate : PySem.W.nsIn K mainGlobals "enumerate" = some none)
    (z_zip : PySem.W.nsIn K mainGlobals "zip" = some none)
    (z_isinstance : PySem.W.nsIn K mainGlobals "isinstance" = some none)
    (z_sum : PySem.W.nsIn K mainGlobals "sum" = some none)
    (z_all : PySem.W.nsIn K mainGlobals "all" = some none)
    (z_min : PySem.W.nsIn K mainGlobals "min" = some none)
    (z_max : PySem.W.nsIn K mainGlobals "max" = some none)
    (z_repr : PySem.W.nsIn K mainGlobals "repr" = some none)
    (z_sorted : PySem.W.nsIn K mainGlobals "sorted" = some none)
    (z_set : PySem.W.nsIn K mainGlobals "set" = some none)
    {tk0 : Tok} (m0 : PySem.W.nsIn K mainGlobals "IN" = some (some (.int 0 tk0)))
    {tk1 : Tok} (m1 : PySem.W.nsIn K mainGlobals "OUT" = some (some (.int 1 tk1)))
    : ∃ fd : FuncData, (∀ (s : Shared) (v : Value), BindsTo s fd ⟨[v], []⟩ [("script", v)]) ∧ ∀ base : Heap, K.In base → base.Ns mainGlobals mg → My.FnG l.prog w K mg base 7 fa fd ["script"] (spLaw K) := by
  have e := hfa.symm.trans (PySem.W.mg_of X G a26)
  cases e
  have B : Bn mg := ⟨PySem.W.mg_none_of X G z_len, PySem.W.mg_none_of X G z_int, PySem.W.mg_none_of X G z_list, PySem.W.mg_none_of X G z_tuple, PySem.W.mg_none_of X G z_bool, PySem.W.mg_none_of X G z_str, PySem.W.mg_none_of X G z_range, PySem.W.mg_none_of X G z_enumerate, PySem.W.mg_none_of X G z_zip, PySem.W.mg_none_of X G z_isinstance, PySem.W.mg_none_of X G z_sum, PySem.W.mg_none_of X G z_all, PySem.W.mg_none_of X G z_min, PySem.W.mg_none_of X G z_max, PySem.W.mg_none_of X G z_repr, PySem.W.mg_none_of X G z_sorted, PySem.W.mg_none_of X G z_set⟩
  have B_IN : mg "IN" = some (.int 0 tk0) := PySem.W.mg_of X G m0
  have B_OUT : mg "OUT" = some (.int 1 tk1) := PySem.W.mg_of X G m1
  have A_neighbours : At K mg "neighbours" s_neighbours ["web", "place"] := by
    have F := fun_mk (st := s_neighbours) l0 c0 k0
    exact ⟨_, _, F, PySem.W.mg_of X G a0, F.binds (ps := ["web", "place"]) fun _ _ _ _ _ _ us hl => match us, hl with | [_, _], _ => rfl⟩
  have A_loose_ties : At K mg "loose_ties" s_loose_ties ["web"] := by
    have F := fun_mk (st := s_loose_ties) l1 c1 k1
    exact ⟨_, _, F, PySem.W.mg_of X G a1, F.binds (ps := ["web"]) fun _ _ _ _ _ _ us hl => match us, hl with | [_], _ => rfl⟩
  have A_trail : At K mg "trail" s_trail ["came", "last"] := by
    have F := fun_mk (st := s_trail) l2 c2 k2
    exact ⟨_, _, F, PySem.W.mg_of X G a2, F.binds (ps := ["came", "last"]) fun _ _ _ _ _ _ us hl => match us, hl with | [_, _], _ => rfl⟩
  have A_ways_apart : At K mg "ways_apart" s_ways_apart ["web", "a", "b"] := by
    have F := fun_mk (st := s_ways_apart) l3 c3 k3
    exact ⟨_, _, F, PySem.W.mg_of X G a3, F.binds (ps := ["web", "a", "b"]) fun _ _ _ _ _ _ us hl => match us, hl with | [_, _, _], _ => rfl⟩
  have A_parting_lot : At K mg "parting_lot" s_parting_lot ["web", "a", "b"] := by
    have F := fun_mk (st := s_parting_lot) l4 c4 k4
    exact ⟨_, _, F, PySem.W.mg_of X G a4, F.binds (ps := ["web", "a", "b"]) fun _ _ _ _ _ _ us hl => match us, hl with | [_, _, _], _ => rfl⟩
  have A_most_links : At K mg "_most_links" s_most_links ["web", "a", "b"] := by
    have F := fun_mk (st := s_most_links) l5 c5 k5
    exact ⟨_, _, F, PySem.W.mg_of X G a5, F.binds (ps := ["web", "a", "b"]) fun _ _ _ _ _ _ us hl => match us, hl with | [_, _, _], _ => rfl⟩
  have A_came_from : At K mg "_came_from" s_came_from ["web", "links", "a", "b"] := by
    have F := fun_mk (st := s_came_from) l6 c6 k6
    exact ⟨_, _, F, PySem.W.mg_of X G a6, F.binds (ps := ["web", "links", "a", "b"]) fun _ _ _ _ _ _ us hl => match us, hl with | [_, _, _, _], _ => rfl⟩
  have A_next_sides : At K mg "_next_sides" s_next_sides ["web", "before", "last"] := by
    have F := fun_mk (st := s_next_sides) l7 c7 k7
    exact ⟨_, _, F, PySem.W.mg_of X G a7, F.binds (ps := ["web", "before", "last"]) fun _ _ _ _ _ _ us hl => match us, hl with | [_, _, _], _ => rfl⟩
  have A_with_way : At K mg "_with_way" s_with_way ["links", "sides"] := by
    have F := fun_mk (st := s_with_way) l8 c8 k8
    exact ⟨_, _, F, PySem.W.mg_of X G a8, F.binds (ps := ["links", "sides"]) fun _ _ _ _ _ _ us hl => match us, hl with | [_, _], _ => rfl⟩
  have A_way_along : At K mg "_way_along" s_way_along ["links", "a", "place", "b"] := by
    have F := fun_mk (st := s_way_along) l9 c9 k9
    exact ⟨_, _, F, PySem.W.mg_of X G a9, F.binds (ps := ["links", "a", "place", "b"]) fun _ _ _ _ _ _ us hl => match us, hl with | [_, _, _, _], _ => rfl⟩
  have A_find_paper : At K mg "find_paper" s_find_paper ["web", "k"] := by
    have F := fun_mk (st := s_find_paper) l10 c10 k10
    exact ⟨_, _, F, PySem.W.mg_of X G a10, F.binds (ps := ["web", "k"]) fun _ _ _ _ _ _ us hl => match us, hl with | [_, _], _ => rfl⟩
  have A_find_cut : At K mg "find_cut" s_find_cut ["web", "k"] := by
    have F := fun_mk (st := s_find_cut) l11 c11 k11
    exact ⟨_, _, F, PySem.W.mg_of X G a11, F.binds (ps := ["web", "k"]) fun _ _ _ _ _ _ us hl => match us, hl with | [_, _], _ => rfl⟩
  have A_law_open : At K mg "_law_open" s_law_open ["script"] := by
    have F := fun_mk (st := s_law_open) l12 c12 k12
    exact ⟨_, _, F, PySem.W.mg_of X G a12, F.binds (ps := ["script"]) fun _ _ _ _ _ _ us hl => match us, hl with | [_], _ => rfl⟩
  have A_law_spread : At K mg "_law_spread" s_law_spread ["cell", "at"] := by
    have F := fun_mk (st := s_law_spread) l13 c13 k13
    exact ⟨_, _, F, PySem.W.mg_of X G a13, F.binds (ps := ["cell", "at"]) fun _ _ _ _ _ _ us hl => match us, hl with | [_, _], _ => rfl⟩
  have A_law_take : At K mg "_law_take" s_law_take ["pen", "amount"] := by
    have F := fun_mk (st := s_law_take) l14 c14 k14
    exact ⟨_, _, F, PySem.W.mg_of X G a14, F.binds (ps := ["pen", "amount"]) fun _ _ _ _ _ _ us hl => match us, hl with | [_, _], _ => rfl⟩
  have A_law_one_of : At K mg "_law_one_of" s_law_one_of ["pen", "some"] := by
    have F := fun_mk (st := s_law_one_of) l15 c15 k15
    exact ⟨_, _, F, PySem.W.mg_of X G a15, F.binds (ps := ["pen", "some"]) fun _ _ _ _ _ _ us hl => match us, hl with | [_, _], _ => rfl⟩
  have A_law_draw_order : At K mg "_law_draw_order" s_law_draw_order ["pen", "n"] := by
    have F := fun_mk (st := s_law_draw_order) l16 c16 k16
    exact ⟨_, _, F, PySem.W.mg_of X G a16, F.binds (ps := ["pen", "n"]) fun _ _ _ _ _ _ us hl => match us, hl with | [_, _], _ => rfl⟩
  have A_law_web : At K mg "_law_web" s_law_web ["n", "pairs"] := by
    have F := fun_mk (st := s_law_web) l17 c17 k17
    exact ⟨_, _, F, PySem.W.mg_of X G a17, F.binds (ps := ["n", "pairs"]) fun _ _ _ _ _ _ us hl => match us, hl with | [_, _], _ => rfl⟩
  have A_law_draw_web : At K mg "_law_draw_web" s_law_draw_web ["pen", "low", "high"] := by
    have F := fun_mk (st := s_law_draw_web) l18 c18 k18
    exact ⟨_, _, F, PySem.W.mg_of X G a18, F.binds (ps := ["pen", "low", "high"]) fun _ _ _ _ _ _ us hl => match us, hl with | [_, _, _], _ => rfl⟩
  have A_law_near : At K mg "_law_near" s_law_near ["web", "place"] := by
    have F := fun_mk (st := s_law_near) l19 c19 k19
    exact ⟨_, _, F, PySem.W.mg_of X G a19, F.binds (ps := ["web", "place"]) fun _ _ _ _ _ _ us hl => match us, hl with | [_, _], _ => rfl⟩
  have A_law_piece : At K mg "_law_piece" s_law_piece ["web", "lot", "place"] := by
    have F := fun_mk (st := s_law_piece) l20 c20 k20
    exact ⟨_, _, F, PySem.W.mg_of X G a20, F.binds (ps := ["web", "lot", "place"]) fun _ _ _ _ _ _ us hl => match us, hl with | [_, _, _], _ => rfl⟩
  have A_law_pieces : At K mg "_law_pieces" s_law_pieces ["web", "lot"] := by
    have F := fun_mk (st := s_law_pieces) l21 c21 k21
    exact ⟨_, _, F, PySem.W.mg_of X G a21, F.binds (ps := ["web", "lot"]) fun _ _ _ _ _ _ us hl => match us, hl with | [_, _], _ => rfl⟩
  have A_law_others : At K mg "_law_others" s_law_others ["web", "lot"] := by
    have F := fun_mk (st := s_law_others) l22 c22 k22
    exact ⟨_, _, F, PySem.W.mg_of X G a22, F.binds (ps := ["web", "lot"]) fun _ _ _ _ _ _ us hl => match us, hl with | [_, _], _ => rfl⟩
  have A_law_loose : At K mg "_law_loose" s_law_loose ["web"] := by
    have F := fun_mk (st := s_law_loose) l23 c23 k23
    exact ⟨_, _, F, PySem.W.mg_of X G a23, F.binds (ps := ["web"]) fun _ _ _ _ _ _ us hl => match us, hl with | [_], _ => rfl⟩
  have A_law_lots : At K mg "_law_lots" s_law_lots ["n", "most"] := by
    have F := fun_mk (st := s_law_lots) l24 c24 k24
    exact ⟨_, _, F, PySem.W.mg_of X G a24, F.binds (ps := ["n", "most"]) fun _ _ _ _ _ _ us hl => match us, hl with | [_, _], _ => rfl⟩
  have A_law_least_cut : At K mg "_law_least_cut" s_law_least_cut ["web", "most"] := by
    have F := fun_mk (st := s_law_least_cut) l25 c25 k25
    exact ⟨_, _, F, PySem.W.mg_of X G a25, F.binds (ps := ["web", "most"]) fun _ _ _ _ _ _ us hl => match us, hl with | [_, _], _ => rfl⟩
  have F := fun_mk (st := s_law) l26 c26 k26
  refine ⟨PySem.W.fnOf "law" "law" (defArgs s_law) (defBody s_law) (defScope s_law) .none kV26 dc26 pm26 an26 cd26 ct26, fun s v => .of_eq rfl, fun base _ _ => ?_⟩
  have D_law_open : Own l.prog w K mg base "_law_open" 1 ["script"] (spOpen K) := A_law_open.own fun f fd F => ok_open F B 
  have D_law_spread : Own l.prog w K mg base "_law_spread" 1 ["cell", "at"] spSpread := A_law_spread.own fun f fd F => ok_spread F B 
  have D_law_take : Own l.prog w K mg base "_law_take" 2 ["pen", "amount"] spTake := A_law_take.own fun f fd F => ok_take F B (D_law_spread.imp (by decide) fun _ _ _ _ h => h)
  have D_law_one_of : Own l.prog w K mg base "_law_one_of" 3 ["pen", "some"] (spOneOf K) := A_law_one_of.own fun f fd F => ok_one_of F B (D_law_take.imp (by decide) fun _ _ _ _ h => h)
  have D_law_draw_order : Own l.prog w K mg base "_law_draw_order" 3 ["pen", "n"] spOrderF := A_law_draw_order.own fun f fd F => ok_draw_order F B (D_law_take.imp (by decide) fun _ _ _ _ h => h)
  have D_law_draw_order_c5 : Own l.prog w K mg base "_law_draw_order" 3 ["pen", "n"] (spOrder K) := D_law_draw_order.imp (by decide) fun _ _ _ _ h => order_of h
  have D_law_web : Own l.prog w K mg base "_law_web" 1 ["n", "pairs"] (spWeb K) := A_law_web.own fun f fd F => ok_web F B 
  have D_law_draw_web : Own l.prog w K mg base "_law_draw_web" 4 ["pen", "low", "high"] (spDrawWeb K) := A_law_draw_web.own fun f fd F => ok_draw_web F B (D_law_take.imp (by decide) fun _ _ _ _ h => h) (D_law_draw_order_c5.imp (by decide) fun _ _ _ _ h => h) (D_law_web.imp (by decide) fun _ _ _ _ h => h)
  have D_law_lots : Own l.prog w K mg base "_law_lots" 1 ["n", "most"] (spD K FLots) := A_law_lots.own fun f fd F => ok_law_lots F B 
  have D_law_near : Own l.prog w K mg base "_law_near" 1 ["web", "place"] (spNbr K) := A_law_near.own fun f fd F => ok_law_near F B 
  have D_law_piece : Own l.prog w K mg base "_law_piece" 2 ["web", "lot", "place"] (spPiece K) := A_law_piece.own fun f fd F => ok_law_piece F B (D_law_near.imp (by decide) fun _ _ _ _ h => h)
  have D_law_pieces : Own l.prog w K mg base "_law_pieces" 3 ["web", "lot"] (spPieces K) := A_law_pieces.own fun f fd F => ok_law_pieces F B (D_law_piece.imp (by decide) fun _ _ _ _ h => h)
  have D_law_others : Own l.prog w K mg base "_law_others" 1 ["web", "lot"] (spOthers K) := A_law_others.own fun f fd F => ok_law_others F B 
  have D_law_least_cut : Own l.prog w K mg base "_law_least_cut" 4 ["web", "most"] (spD K FLeast) := A_law_least_cut.own fun f fd F => ok_law_least_cut F B (D_law_lots.imp (by decide) fun _ _ _ _ h => h) (D_law_pieces.imp (by decide) fun _ _ _ _ h => h) (D_law_others.imp (by decide) fun _ _ _ _ h => h)
  have D_loose_ties : Own l.prog w K mg base "loose_ties" 1 ["web"] (spD K FLoose) := A_loose_ties.own fun f fd F => ok_loose_ties F B 
  have D_neighbours : Own l.prog w K mg base "neighbours" 1 ["web", "place"] (spNbr K) := A_neighbours.own fun f fd F => ok_neighbours F B 
  have D_next_sides : Own l.prog w K mg base "_next_sides" 2 ["web", "before", "last"] (spS K FNext) := A_next_sides.own fun f fd F => ok_next_sides F B B_IN B_OUT (D_neighbours.imp (by decide) fun _ _ _ _ h => h)
  have D_came_from : Own l.prog w K mg base "_came_from" 3 ["web", "links", "a", "b"] (spD K FCameS) := A_came_from.own fun f fd F => ok_came_from F B B_IN B_OUT (D_next_sides.imp (by decide) fun _ _ _ _ h => h)
  have D_trail : Own l.prog w K mg base "trail" 1 ["came", "last"] (spS K FTrail) := A_trail.own fun f fd F => ok_trail F B 
  have D_with_way : Own l.prog w K mg base "_with_way" 1 ["links", "sides"] (spD K FWithWay) := A_with_way.own fun f fd F => ok_with_way F B B_IN B_OUT
  have D_most_links : Own l.prog w K mg base "_most_links" 4 ["web", "a", "b"] (spD K FMost) := A_most_links.own fun f fd F => ok_most_links F B B_IN (D_came_from.imp (by decide) fun _ _ _ _ h => h) (D_trail.imp (by decide) fun _ _ _ _ h => h) (D_with_way.imp (by decide) fun _ _ _ _ h => h)
  have D_parting_lot : Own l.prog w K mg base "parting_lot" 5 ["web", "a", "b"] (spD K FParting) := A_parting_lot.own fun f fd F => ok_parting_lot F B B_IN B_OUT (D_came_from.imp (by decide) fun _ _ _ _ h => h) (D_most_links.imp (by decide) fun _ _ _ _ h => h)
  have D_find_cut : Own l.prog w K mg base "find_cut" 6 ["web", "k"] (spD K FFindCutX) := A_find_cut.own fun f fd F => ok_find_cut F B (D_loose_ties.imp (by decide) fun _ _ _ _ h => h) (D_parting_lot.imp (by decide) fun _ _ _ _ h => h)
  have D_way_along : Own l.prog w K mg base "_way_along" 1 ["links", "a", "place", "b"] (spD K FWayAlong) := A_way_along.own fun f fd F => ok_way_along F B 
  have D_ways_apart : Own l.prog w K mg base "ways_apart" 5 ["web", "a", "b"] (spD K FWaysApart) := A_ways_apart.own fun f fd F => ok_ways_apart F B (D_most_links.imp (by decide) fun _ _ _ _ h => h) (D_way_along.imp (by decide) fun _ _ _ _ h => h)
  have D_find_paper : Own l.prog w K mg base "find_paper" 6 ["web", "k"] (spD K FFindPaper) := A_find_paper.own fun f fd F => ok_find_paper F B (D_loose_ties.imp (by decide) fun _ _ _ _ h => h) (D_ways_apart.imp (by decide) fun _ _ _ _ h => h)
  have D_law_loose : Own l.prog w K mg base "_law_loose" 1 ["web"] (spD K FLooseL) := A_law_loose.own fun f fd F => ok_law_loose F B 
  exact ok_law F B (D_law_open.imp (by decide) fun _ _ _ _ h => h) (D_law_one_of.imp (by decide) fun _ _ _ _ h => h) (D_law_draw_web.imp (by decide) fun _ _ _ _ h => h) (D_law_least_cut.imp (by decide) fun _ _ _ _ h => h) (D_find_cut.imp (by decide) fun _ _ _ _ h => h) (D_find_paper.imp (by decide) fun _ _ _ _ h => h) (D_law_loose.imp (by decide) fun _ _ _ _ h => h) (D_law_lots.imp (by decide) fun _ _ _ _ h => h) (D_law_piece.imp (by decide) fun _ _ _ _ h => h) (D_law_others.imp (by decide) fun _ _ _ _ h => h) (D_parting_lot.imp (by decide) fun _ _ _ _ h => h)
end K14
open PySem PySem.W PyProof.Rows
set_option maxRecDepth 100000 in
set_option maxHeartbeats 0 in
theorem PySem.Challenge.cw_rootparts_k14_whole_cuts_by_all_lots_holds : PySem.Challenge.rw_rootparts_k14_whole_cuts_by_all_lots.Holds := by
  w_on; o_law; k_head; (case hw => w_witness2)
  k_fill
  refine My.walk_ofG (l := PySem.Challenge.rw_rootparts_k14_whole_cuts_by_all_lots) (n := 63) (k := 7) (x := "script") (sp := fun w => K14.spLaw _) rfl (by decide) rfl ⟨rfl, by decide, by decide⟩ (fun w h Y => PySem.W.kIn_of Y) ?F (fun _ _ a ns hl hS => ⟨a, ns, rfl, hS, hl, fun _ => rfl⟩)
  case F =>
    intro w mg fa h KX G hmg
    refine' K14.all_mk KX G hmg ?a0 ?l0 ?c0 ?k0 ?a1 ?l1 ?c1 ?k1 ?a2 ?l2 ?c2 ?k2 ?a3 ?l3 ?c3 ?k3 ?a4 ?l4 ?c4 ?k4 ?a5 ?l5 ?c5 ?k5 ?a6 ?l6 ?c6 ?k6 ?a7 ?l7 ?c7 ?k7 ?a8 ?l8 ?c8 ?k8 ?a9 ?l9 ?c9 ?k9 ?a10 ?l10 ?c10 ?k10 ?a11 ?l11 ?c11 ?k11 ?a12 ?l12 ?c12 ?k12 ?a13 ?l13 ?c13 ?k13 ?a14 ?l14 ?c14 ?k14 ?a15 ?l15 ?c15 ?k15 ?a16 ?l16 ?c16 ?k16 ?a17 ?l17 ?c17 ?k17 ?a18 ?l18 ?c18 ?k18 ?a19 ?l19 ?c19 ?k19 ?a20 ?l20 ?c20 ?k20 ?a21 ?l21 ?c21 ?k21 ?a22 ?l22 ?c22 ?k22 ?a23 ?l23 ?c23 ?k23 ?a24 ?l24 ?c24 ?k24 ?a25 ?l25 ?c25 ?k25 ?a26 ?l26 ?c26 ?k26 ?z_len ?z_int ?z_list ?z_tuple ?z_bool ?z_str ?z_range ?z_enumerate ?z_zip ?z_isinstance ?z_sum ?z_all ?z_min ?z_max ?z_repr ?z_sorted ?z_set ?m0 ?m1
    (case a0 => k_is)
    (case l0 => k_is)
    (case c0 => k_is)
    (case k0 => k_is)
    (case a1 => k_is)
    (case l1 => k_is)
    (case c1 => k_is)
    (case k1 => k_is)
    (case a2 => k_is)
    (case l2 => k_is)
    (case c2 => k_is)
    (case k2 => k_is)
    (case a3 => k_is)
    (case l3 => k_is)
    (case c3 => k_is)
    (case k3 => k_is)
    (case a4 => k_is)
    (case l4 => k_is)
    (case c4 => k_is)
    (case k4 => k_is)
    (case a5 => k_is)
    (case l5 => k_is)
    (case c5 => k_is)
    (case k5 => k_is)
    (case a6 => k_is)
    (case l6 => k_is)
    (case c6 => k_is)
    (case k6 => k_is)
    (case a7 => k_is)
    (case l7 => k_is)
    (case c7 => k_is)
    (case k7 => k_is)
    (case a8 => k_is)
    (case l8 => k_is)
    (case c8 => k_is)
    (case k8 => k_is)
    (case a9 => k_is)
    (case l9 => k_is)
    (case c9 => k_is)
    (case k9 => k_is)
    (case a10 => k_is)
    (case l10 => k_is)
    (case c10 => k_is)
    (case k10 => k_is)
    (case a11 => k_is)
    (case l11 => k_is)
    (case c11 => k_is)
    (case k11 => k_is)
    (case a12 => k_is)
    (case l12 => k_is)
    (case c12 => k_is)
    (case k12 => k_is)
    (case a13 => k_is)
    (case l13 => k_is)
    (case c13 => k_is)
    (case k13 => k_is)
    (case a14 => k_is)
    (case l14 => k_is)
    (case c14 => k_is)
    (case k14 => k_is)
    (case a15 => k_is)
    (case l15 => k_is)
    (case c15 => k_is)
    (case k15 => k_is)
    (case a16 => k_is)
    (case l16 => k_is)
    (case c16 => k_is)
    (case k16 => k_is)
    (case a17 => k_is)
    (case l17 => k_is)
    (case c17 => k_is)
    (case k17 => k_is)
    (case a18 => k_is)
    (case l18 => k_is)
    (case c18 => k_is)
    (case k18 => k_is)
    (case a19 => k_is)
    (case l19 => k_is)
    (case c19 => k_is)
    (case k19 => k_is)
    (case a20 => k_is)
    (case l20 => k_is)
    (case c20 => k_is)
    (case k20 => k_is)
    (case a21 => k_is)
    (case l21 => k_is)
    (case c21 => k_is)
    (case k21 => k_is)
    (case a22 => k_is)
    (case l22 => k_is)
    (case c22 => k_is)
    (case k22 => k_is)
    (case a23 => k_is)
    (case l23 => k_is)
    (case c23 => k_is)
    (case k23 => k_is)
    (case a24 => k_is)
    (case l24 => k_is)
    (case c24 => k_is)
    (case k24 => k_is)
    (case a25 => k_is)
    (case l25 => k_is)
    (case c25 => k_is)
    (case k25 => k_is)
    (case a26 => k_is)
    (case l26 => k_is)
    (case c26 => k_is)
    (case k26 => k_is)
    (case z_len => k_is)
    (case z_int => k_is)
    (case z_list => k_is)
    (case z_tuple => k_is)
    (case z_bool => k_is)
    (case z_str => k_is)
    (case z_range => k_is)
    (case z_enumerate => k_is)
    (case z_zip => k_is)
    (case z_isinstance => k_is)
    (case z_sum => k_is)
    (case z_all => k_is)
    (case z_min => k_is)
    (case z_max => k_is)
    (case z_repr => k_is)
    (case z_sorted => k_is)
    (case z_set => k_is)
    (case m0 => k_is)
    (case m1 => k_is)
