import PyProof.Rows.All
import Wide.All
import OpenK.AllK
import Wide.FinOn
import HandS.Base
import HandS.Call
import HandS.List
import HandS.Comp
import HandS.Ends
import HandS.Dict
import HandS.Iter
import HandS.Text
import HandS.Words
import HandS.WordsList
import HandS.Codes
import HandS.Style
import HandS.Wide
import HandS.Gcd
import HandS.IsInst
import HandS.ExcInit
import HandS.ExcField
import HandS.WordsExc
import HandS.StrMore
import HandS.ExcOwn
import HandS.ExcIs
import KE.KExcIs
import HandS.OwnEq
import HandS.Defaults
import HandS.WideBits
import PyProof.TupleOfStr
import HandS.DeepEq
import HandS.NoneIn
import PySem.Challenge.RW_wordquarry_k01_shares
set_option Elab.async false
set_option linter.all false
set_option maxRecDepth 100000
set_option maxHeartbeats 2000000
/-! an own __add__, __sub__, __mul__ -/
namespace Wq
open PySem PySem.Spec PyProof.Rows PySem.W
section
variable {prog : Program} {w : World} {A : Around} {E : Value → Shared → Prop} {s : Shared} {K : Frag} {x C f : Addr} {ox : Obj} {od : Option Obj} {nm : String} {b tb : Value}
/-- a method of the instance's class answers at once -/
theorem try_own {name : Str} {Q : Option Value → Shared → Prop} (X : K.In s.heap) (I : InstAt s.heap x ox C od) (hs : findIn K (.ref C) name = some (some (.ref f))) (hf : isFn K (.ref f) = true)
    (h : wpAny (model prog w) A (call (.ref f) [.ref x, b]) (fun v s' => v ≠ .notImplemented ∧ Q (some v) s') E s) : wpAny (model prog w) A (tryMethod (.ref x) name b) Q E s := by
  unfold tryMethod
  refine wpAny_bind (special_fn X I hs (beq_iff_eq.mp hf) (wpAny_mono h (fun v s' hv => ?_) fun _ _ e => e))
  obtain ⟨hv, hq⟩ := hv
  cases v <;> first | exact absurd rfl hv | exact wpAny_pure hq
structure OpL (M : Model) (h : Heap) (C : Addr) (tb : Value) (nm : String) : Prop where
  l1 : Looks M h (fillsNumberSlot (.ref C) nm) true
  l2 : tb = .ref C ∨ ∃ (n : String) (rb lp : Bool) (tk : Option Value), tb = .type n ∧ Looks M h (fillsNumberSlot tb nm) rb ∧ Looks M h (isSubtype tb (.ref C)) false ∧ Looks M h (numberSlotInPython (.ref C) nm) lp ∧ Looks M h (typeLookup tb (dunderR nm)) tk
theorem own_op1 {Q : Option Value → Shared → Prop} (X : K.In s.heap) (I : InstAt s.heap x ox C od) (hb : Looks (model prog w) s.heap (typeOf b) tb) (L : OpL (model prog w) s.heap C tb nm)
    (hs : findIn K (.ref C) (dunder nm) = some (some (.ref f))) (hf : isFn K (.ref f) = true)
    (h : wpAny (model prog w) A (call (.ref f) [.ref x, b]) (fun v s' => v ≠ .notImplemented ∧ Q (some v) s') E s) : wpAny (model prog w) A (binaryOp1 nm (.ref x) b) Q E s := by
  unfold binaryOp1
  have one : wpAny (model prog w) A (tryMethod (.ref x) (PySem.dunder nm) b) (fun r s' => ∃ v, r = some v ∧ Q (some v) s') E s :=
    try_own X I hs hf (wpAny_mono h (fun v s' hv => ⟨hv.1, v, rfl, hv.2⟩) fun _ _ e => e)
  refine wpAny_bind (I.type.here (wpAny_bind (hb.here (wpAny_bind (L.l1.here ?_)))))
  rcases L.l2 with e | ⟨n, rb, lp, tk, e, l2, l3, l4, l5⟩
  · subst e
    simp only [beq_self_eq_true, if_true]
    refine wpAny_bind (wpAny_pure ?_)
    simp only [Bool.and_false, Bool.false_and, Bool.false_eq_true, if_false]
    refine wpAny_bind (wpAny_pure ?_)
    simp only [Bool.false_eq_true, if_false]
    refine wpAny_bind (wpAny_mono one (fun r s' z => ?_) fun _ _ e => e)
    obtain ⟨v, rfl, q⟩ := z
    exact wpAny_pure q
  · subst e
    have hne : (Value.ref C == Value.type n) = false := by simp
    simp only [hne, Bool.false_eq_true, if_false]
    refine wpAny_bind (l2.here ?_)
    cases rb with
    | false =>
      simp only [Bool.and_false, Bool.false_and, Bool.false_eq_true, if_false]
      refine wpAny_bind (wpAny_pure ?_)
      simp only [Bool.false_eq_true, if_false, if_true]
      refine wpAny_bind (wpAny_mono one (fun r s' z => ?_) fun _ _ e => e)
      obtain ⟨v, rfl, q⟩ := z
      exact wpAny_pure q
    | true =>
      simp only [Bool.and_true, Bool.and_self, if_true]
      refine wpAny_bind (l3.here ?_)
      simp only [Bool.false_eq_true, if_false, Bool.not_false, Bool.and_self, if_true]
      refine wpAny_bind (l4.here ?_)
      cases lp with
      | false =>
        simp only [Bool.false_eq_true, if_false]
        refine wpAny_bind (wpAny_mono one (fun r s' z => ?_) fun _ _ e => e)
        obtain ⟨v, rfl, q⟩ := z
        exact wpAny_pure q
      | true =>
        have l6 : Looks (model prog w) s.heap (numberSlotInPython (.type n) nm) false := Looks.of_pure rfl
        simp only [if_true]
        refine wpAny_bind (l6.here ?_)
        simp only [Bool.not_false, if_true]
        refine wpAny_bind (l5.here ?_)
        refine wpAny_bind (wpAny_mono one (fun r s' z => ?_) fun _ _ e => e)
        obtain ⟨v, rfl, q⟩ := z
        exact wpAny_pure q
theorem own_op {op : Operator} {Q : Value → Shared → Prop} (X : K.In s.heap) (I : InstAt s.heap x ox C od) (hb : Looks (model prog w) s.heap (typeOf b) tb) (L : OpL (model prog w) s.heap C tb op.info.2)
    (hs : findIn K (.ref C) (dunder op.info.2) = some (some (.ref f))) (hf : isFn K (.ref f) = true)
    (h : wpAny (model prog w) A (call (.ref f) [.ref x, b]) (fun v s' => v ≠ .notImplemented ∧ Q v s') E s) : wpAny (model prog w) A (binaryOp op (.ref x) b) Q E s := by
  unfold binaryOp
  refine wpAny_holding ?_
  refine wpAny_bind (wpAny_mono (own_op1 (Q := fun r s' => ∃ v, r = some v ∧ Q v s') X I hb L hs hf (wpAny_mono h (fun v s' hv => ⟨hv.1, v, rfl, hv.2⟩) fun _ _ e => e)) (fun r s' z => ?_) fun _ _ e => e)
  obtain ⟨v, rfl, q⟩ := z
  exact wpAny_pure q
end
/-! what the class must have for it -/
section
variable {prog : Program} {w : World} {K : Frag} {C f : Addr} {h : Heap} {nm : String}
theorem fills_own {M : Model} (X : K.In h) (hm : selfFirst K C = true) (hs : findIn K (.ref C) (dunder nm) = some (some (.ref f))) : Looks M h (fillsNumberSlot (.ref C) nm) true := by
  obtain ⟨cd, hc, he⟩ := any_some hm
  have L : Looks M h (mroOf (.ref C)) cd.mro := (looks_clsIn X hc).andThen .now
  have hs' : Looks M h (typeLookup (.ref C) (dunder nm)) (some (.ref f)) := looks_findIn X hs
  cases hl : cd.mro with
  | nil => rw [hl] at he; cases he
  | cons a r =>
    rw [hl] at he L
    have ea : a = .ref C := by simpa using he
    subst ea
    unfold fillsNumberSlot
    refine Looks.andThen L ?_
    simp only [List.anyM]
    refine Looks.andThen (a := true) ?_ ?_
    · refine Looks.andThen (a := true) ?_ ?_
      · refine Looks.andThen hs' ?_
        exact .now
      · exact .now
    · exact .now
theorem py_own {M : Model} (X : K.In h) (hs : findIn K (.ref C) (dunder nm) = some (some (.ref f))) (hr : findIn K (.ref C) (dunderR nm) = some none) : Looks M h (numberSlotInPython (.ref C) nm) true := by
  have l1 : Looks M h (typeLookup (.ref C) (dunder nm)) (some (.ref f)) := looks_findIn X hs
  have l2 : Looks M h (typeLookup (.ref C) (dunderR nm)) none := looks_findIn X hr
  unfold numberSlotInPython
  refine Looks.andThen l1 (Looks.andThen (a := true) .now ?_)
  refine Looks.andThen l2 (Looks.andThen (a := false) .now ?_)
  exact .now
end
end Wq
set_option Elab.async false
set_option linter.all false
set_option maxRecDepth 100000
set_option maxHeartbeats 2000000
namespace Wq
open PySem PySem.Spec PyProof.Rows L2
/-- what the written part says of the class at C for an operator whose names are nm, rn -/
structure BinC (K : PySem.W.Frag) (C f : Addr) (op : Operator) (n r : Str) : Prop where
  en : PySem.dunder op.info.2 = n
  er : PySem.dunderR op.info.2 = r
  hs : PySem.W.findIn K (.ref C) n = some (some (.ref f))
  hf : PySem.W.isFn K (.ref f) = true
  sf : PySem.W.selfFirst K C = true
  hr : PySem.W.findIn K (.ref C) r = some none
  su : PySem.W.subIn K (.type "int") (.ref C) = some false
  i1 : ∃ v, PySem.W.findIn K (.type "int") n = some v
  i2 : ∃ v, PySem.W.findIn K (.type "int") r = some v
theorem BinC.opl {K : PySem.W.Frag} {C f : Addr} {op : Operator} {n r : Str} {M : Model} {h : Heap} {tb : Value} (B : BinC K C f op n r) (X : K.In h) (ht : tb = .ref C ∨ tb = .type "int") : OpL M h C tb op.info.2 := by
  obtain ⟨en, er, hs, hf, sf, hr, su, ⟨v1, i1⟩, ⟨v2, i2⟩⟩ := B
  subst en er
  refine ⟨fills_own X sf hs, ?_⟩
  rcases ht with e | e
  · exact .inl e
  · subst e
    refine .inr ⟨"int", (v1.isSome && !isSeqSlot v1) || (v2.isSome && !isSeqSlot v2), true, v2, rfl, ?_, PySem.W.looks_subIn X su, py_own X hs hr, PySem.W.looks_findIn X i2⟩
    · unfold fillsNumberSlot
      exact PySem.W.Looks.andThen (PySem.W.looks_findIn X i1) (PySem.W.Looks.andThen (PySem.W.looks_findIn X i2) .now)
/-- x op y by the own method of x's class -/
def rBin (C : Addr) (sp : Sp) (E : XK) : R2 := fun x y H Q => ∃ a dx fs, x = .ref a ∧ H a = some (.ins C dx fs) ∧ ((∃ b dy gs, y = .ref b ∧ H b = some (.ins C dy gs)) ∨ ∃ i, y = .int i) ∧ sp [x, y] H Q E
theorem op_own {X : Cx} {CX : CXT} {k : Nat} {f C : Addr} {fd : FuncData} {ps : List Str} {sp : Sp} {E : XK} {op : Operator} {n r : Str} (B : BinC X.K C f op n r) (F : FnOk X.prog X.w X.K X.mg X.base CX k f fd ps sp) (hr : Room k X.A) (hb : Binds X.K fd ps []) (hx : Passes CX X E) :
    OpR X (binaryOp op) (rBin C sp E) := by
  intro pins s σ H x y v u Q I rx ry h
  obtain ⟨a, dx, fs, rfl, ha, hy, hsp⟩ := h
  obtain rfl : v = Value.ref a := rx
  obtain ⟨mA, J, _⟩ := ins_get I.hok ha
  obtain ⟨od, J, _⟩ := J.look
  have nn : ∀ (z : V) (q : Value), RelV z q → q ≠ .notImplemented := by
    intro z q rz e
    subst e
    cases z <;> first | (obtain ⟨t, e⟩ := rz; cases e; done) | (cases rz; done)
  have fin : wpAny (model X.prog X.w) X.A (call (.ref f) [.ref a, u]) (fun v s' => v ≠ .notImplemented ∧ EP X pins σ Q v s') X.xe s := by
    refine wpAny_mono (run_fn (us := [.ref a, u]) (vs := [.ref a, y]) F hr hb .nil hx I (.cons rfl (.cons ry .nil)) hsp) (fun v s' z => ?_) fun _ _ e => e
    obtain ⟨z, H1, I1, rz, q⟩ := z
    exact ⟨nn z v rz, z, H1, I1, rz, q⟩
  have hs := B.hs
  rw [← B.en] at hs
  rcases hy with ⟨b, dy, gs, rfl, hb'⟩ | ⟨i, rfl⟩
  · obtain rfl : u = Value.ref b := ry
    obtain ⟨mB, J2, _⟩ := ins_get I.hok hb'
    obtain ⟨od2, J2, _⟩ := J2.look
    exact own_op I.kIn J J2.type (B.opl I.kIn (.inl rfl)) hs B.hf fin
  · obtain ⟨t, rfl⟩ := ry
    exact own_op I.kIn J (PySem.W.Looks.of_pure rfl) (B.opl I.kIn (.inr rfl)) hs B.hf fin
end Wq
set_option Elab.async false
set_option linter.all false
set_option maxRecDepth 100000
set_option maxHeartbeats 2000000
namespace Wq
open PySem PySem.Spec PyProof.Rows L2
def top (i : Nat) : Stmt := PySem.Challenge.pw_wordquarry_k01_shares.main.body.getD i (.Pass ⟨0, 0, 0, 0⟩)
/-! callables by name -/
structure Cl (P : Program) (w : World) (K : PySem.W.Frag) (mg : Str → Option Value) (base : Heap) (k : Nat) (x : Str) (sp : Sp) : Prop where
  ex : ∃ (f : Addr) (fd : FuncData) (ps : List Str), FnOk P w K mg base CX0 k f fd ps sp ∧ mg x = some (.ref f) ∧ PySem.W.keepIn K (.ref f) = true ∧ Binds K fd ps []
structure DefAt (K : PySem.W.Frag) (mg : Str → Option Value) (x : Str) (st : Stmt) : Prop where
  ex : ∃ (f : Addr) (fd : FuncData), Fun K x x st f fd ∧ mg x = some (.ref f)
theorem def_mk {h : Heap} {mg : Str → Option Value} {K : PySem.W.Frag} {x : Str} {st : Stmt} {f : Addr} {oc : Value} {od an : Option Addr} {osl : Array (Option Value)} {kV doc pm cdv ct : Value} (X : K.In h) (G : h.Ns mainGlobals mg)
    (a : PySem.W.nsIn K mainGlobals x = some (some (.ref f))) (l : K.lookup f = some ⟨oc, od, .func (PySem.W.fnOf x x (defArgs st) (defBody st) (defScope st) .none kV doc pm an cdv ct), osl⟩)
    (c : PySem.W.codeIn K cdv x = true) (k : PySem.W.keepIn K (.ref f) = true) : DefAt K mg x st := ⟨f, _, fun_mk l c k, PySem.W.mg_of X G a⟩
section
variable {X : Cx} {k j : Nat} {x : Str} {sp : Sp} {p pos : Pos} {e : Expr} {es : List Expr} {t : TA}
theorem pe_cl (c : Cl X.prog X.w X.K X.mg X.base k x sp) (hr : Room j X.A) (hk : k ≤ j) (hg : Gl X x) (ha : PA X (e :: es) t)
    (hdb : (x == ("__debug__" : Str)) = false := by decide) (he : starEach (e :: es) X.env = (false, eval e X.env) :: starEach es X.env := by rfl) (hpl : (backTo pos (starEach es X.env)).any (·.1) = false := by rfl) :
    PE X (.Call (.Name x p) (e :: es) [] pos) (tCall sp [] E0 t) := by
  obtain ⟨f, fd, ps, F, hm, kp, b⟩ := c.ex
  exact pe_call F (hr.mono hk) hg hm kp b .nil pass0 ha hdb he hpl
end
section
variable {P : Program} {w : World} {K : PySem.W.Frag} {mg : Str → Option Value} {base : Heap}
theorem cl_of {x : Str} {st : Stmt} {N ps : List Str} {k : Nat} {sp : Sp} (D : DefAt K mg x st) (S : FnScope N ps (defScope st)) (len : ∀ vs H Q E, sp vs H Q E → vs.length = ps.length)
    (hb : ∀ (kV doc pm : Value) (an : Option Addr) (cdv ct : Value) (us : List Value), us.length = ps.length → bindArgs (PySem.W.fnOf x x (defArgs st) (defBody st) (defScope st) .none kV doc pm an cdv ct) ⟨us, []⟩ = pure (ps.zip us))
    (hbody : ∀ (f : Addr) (cdv : Value) (A : Around) (outer : List Env) (s : Shared) (H : Hp) (vs : List V) (Q : VK) (E : XK), Room k (A.deeper (envOfC x (defScope st) s.heap.objs.size f cdv)) → sp vs H Q E →
      ∃ t, PSs (cxOf CX0 P w K mg base N x (defScope st) f cdv A outer s H E).nox (defBody st) t ∧ t { nx := fun _ H' => Q .non H', rt := Q } (start N vs) H) : Cl P w K mg base (k + 1) x sp := by
  obtain ⟨f, fd, F, hm⟩ := D.ex
  exact ⟨f, fd, ps, F.ok S len (hbody f), hm, F.kp, F.binds hb⟩
/-! what the law's own words want of the top -/
structure Txt (K : PySem.W.Frag) (mg : Str → Option Value) : Prop where
  len : mg "len" = none
  int : mg "int" = none
  list : mg "list" = none
  range : mg "range" = none
  tuple : mg "tuple" = none
  min : mg "min" = none
/-! the pen -/
abbrev kv (s : Str) (v : V) : Key × V := (Sum.inr s, v)
def penD (c : Addr) (i d n f : Int) : List (Key × V) := [kv "cells" (.ref c), kv "at" (.int i), kv "digits" (.int d), kv "count" (.int n), kv "fold" (.int f)]
structure PenAt (H : Hp) (p c : Addr) (m : Nat) : Prop where
  ex : ∃ (ns : List Int) (i d f : Int) (n : Nat), H p = some (.dK (penD c i d n f)) ∧ H c = some (.lst (ns.map V.int)) ∧ 0 ≤ i ∧ 0 ≤ d ∧ n ≤ m ∧ 0 ≤ f ∧ f < 2147483587
theorem SqL_upd {H : Hp} {p c : Addr} {xs : List V} {kvs : List (Key × V)} {o : HO} (h : SqL K H c xs) (hp : H p = some (.dK kvs)) : SqL K (upd H p o) c xs := by
  rcases h with (h | ⟨u, h⟩) | h
  · refine .inl (.inl ?_)
    rw [upd_ne (ne_of h hp (by intro z; cases z))]
    exact h
  · refine .inl (.inr ⟨u, ?_⟩)
    rw [upd_ne (ne_of h hp (by intro z; cases z))]
    exact h
  · exact .inr h
section
variable {H : Hp} {p c : Addr} {i d n f x : Int}
theorem g_cells (h : H p = some (.dK (penD c i d n f))) : DGet H p (.str "cells") (some (.ref c)) := DGet.k (k := Sum.inr "cells") h
theorem g_at (h : H p = some (.dK (penD c i d n f))) : DGet H p (.str "at") (some (.int i)) := DGet.k (k := Sum.inr "at") h
theorem g_digits (h : H p = some (.dK (penD c i d n f))) : DGet H p (.str "digits") (some (.int d)) := DGet.k (k := Sum.inr "digits") h
theorem g_count (h : H p = some (.dK (penD c i d n f))) : DGet H p (.str "count") (some (.int n)) := DGet.k (k := Sum.inr "count") h
theorem g_fold (h : H p = some (.dK (penD c i d n f))) : DGet H p (.str "fold") (some (.int f)) := DGet.k (k := Sum.inr "fold") h
theorem p_count (h : H p = some (.dK (penD c i d n f))) : DPut H p (.str "count") (.int x) (upd H p (.dK (penD c i d x f))) := DPut.k (k := Sum.inr "count") h (by show 5 < sizeLine; decide)
theorem p_at : DPut (upd H p (.dK (penD c i d n f))) p (.str "at") (.int x) (upd H p (.dK (penD c x d n f))) := by
  have e := DPut.k (k := Sum.inr "at") (v := .int x) (upd_same (H := H) (a := p) (o := .dK (penD c i d n f))) (by show 5 < sizeLine; decide)
  rw [upd_upd] at e
  exact e
theorem p_digits : DPut (upd H p (.dK (penD c i d n f))) p (.str "digits") (.int x) (upd H p (.dK (penD c i x n f))) := by
  have e := DPut.k (k := Sum.inr "digits") (v := .int x) (upd_same (H := H) (a := p) (o := .dK (penD c i d n f))) (by show 5 < sizeLine; decide)
  rw [upd_upd] at e
  exact e
theorem p_fold : DPut (upd H p (.dK (penD c i d n f))) p (.str "fold") (.int x) (upd H p (.dK (penD c i d n x))) := by
  have e := DPut.k (k := Sum.inr "fold") (v := .int x) (upd_same (H := H) (a := p) (o := .dK (penD c i d n f))) (by show 5 < sizeLine; decide)
  rw [upd_upd] at e
  exact e
end
theorem PenAt.mono {H : Hp} {p c : Addr} {m m' : Nat} (h : PenAt H p c m) (hm : m ≤ m') : PenAt H p c m' := by
  obtain ⟨ns, i, d, f, n, h1, h2, h3, h4, h5, h6, h7⟩ := h.ex
  exact ⟨ns, i, d, f, n, h1, h2, h3, h4, by omega, h6, h7⟩
theorem PenAt.same {H H' : Hp} {p c : Addr} {m : Nat} (h : PenAt H p c m) (s : Same H H') : PenAt H' p c m := by
  obtain ⟨ns, i, d, f, n, h1, h2, h3⟩ := h.ex
  exact ⟨ns, i, d, f, n, s _ _ h1, s _ _ h2, h3⟩
theorem PenAt.dict {H : Hp} {p c : Addr} {m : Nat} (h : PenAt H p c m) : ∃ kvs, H p = some (.dK kvs) := by
  obtain ⟨ns, i, d, f, n, h1, _⟩ := h.ex
  exact ⟨_, h1⟩
theorem PenAt.cells {H : Hp} {p c : Addr} {m : Nat} (h : PenAt H p c m) : ∃ xs, H c = some (.lst xs) := by
  obtain ⟨ns, i, d, f, n, h1, h2, _⟩ := h.ex
  exact ⟨_, h2⟩
theorem PenAt.put {H : Hp} {p c l : Addr} {m : Nat} {o : HO} (h : PenAt H p c m) (hp : p ≠ l) (hc : c ≠ l) : PenAt (upd H l o) p c m := by
  obtain ⟨ns, i, d, f, n, h1, h2, h3⟩ := h.ex
  exact ⟨ns, i, d, f, n, by rw [upd_ne hp]; exact h1, by rw [upd_ne hc]; exact h2, h3⟩
theorem PenAt.ne {H : Hp} {p c l : Addr} {m : Nat} {o : HO} (h : PenAt H p c m) (hl : H l = some o) (ho : ∀ kvs, o ≠ .dK kvs) : l ≠ p := by
  obtain ⟨kvs, hk⟩ := h.dict
  exact ne_of hl hk (ho kvs)
/-- the pen moved on: lists stay -/
theorem PenAt.lst {H : Hp} {p c l : Addr} {m : Nat} {xs : List V} {o : HO} (h : PenAt H p c m) (hl : H l = some (.lst xs)) : upd H p o l = some (.lst xs) := by
  rw [upd_ne (h.ne hl (by intro kvs z; cases z))]
  exact hl
abbrev sPen : Stmt := top 20
abbrev sDraw : Stmt := top 21
abbrev sPick : Stmt := top 22
def spPen (K : PySem.W.Frag) : Sp := fun vs H Q _ => ∃ (a : Addr) (ns : List Int), vs = [.ref a] ∧ SqL K H a (ns.map V.int) ∧ ∀ p c H', H p = none → Same H H' → PenAt H' p c 0 → Q (.ref p) H'
def spDraw (K : PySem.W.Frag) : Sp := fun vs H Q _ => ∃ (p c : Addr) (m : Nat) (many : Int), vs = [.ref p, .int many] ∧ PenAt H p c m ∧ m < 1099511627776 ∧ 0 < many ∧ many.natAbs.log2 < 9000 ∧
  ∀ (v : Int) (o : HO), 0 ≤ v → v < many → PenAt (upd H p o) p c (m + 1) → Q (.int v) (upd H p o)
/-- what may be picked from: a list, a tuple, a text -/
inductive Some (K : PySem.W.Frag) (H : Hp) : V → List V → Prop
  | lst {l xs} : SqL K H l xs → Some K H (.ref l) xs
  | tup {l xs} : SqT K H l xs → Some K H (.ref l) xs
  | str {z} : z.length ≤ sizeLine → Some K H (.str z) (z.cps.toList.map fun c => V.str ⟨#[c]⟩)
def spPick (K : PySem.W.Frag) : Sp := fun vs H Q _ => ∃ (p c : Addr) (m : Nat) (u : V) (xs : List V), vs = [.ref p, u] ∧ PenAt H p c m ∧ Some K H u xs ∧ m < 1099511627776 ∧ 0 < xs.length ∧ xs.length < 1073741824 ∧
  ∀ (i : Nat) (v : V) (o : HO), xs[i]? = some v → PenAt (upd H p o) p c (m + 1) → Q v (upd H p o)
theorem scPen : FnScope ["_law_script", "_law_fold", "_law_cell"] ["_law_script"] (defScope sPen) := ⟨rfl, rfl, rfl, by decide +kernel, rfl, by decide +kernel, by decide +kernel⟩
theorem scDraw : FnScope ["_law_pen_here", "_law_many", "_law_cell", "_law_digit", "_law_mixed"] ["_law_pen_here", "_law_many"] (defScope sDraw) := ⟨rfl, rfl, rfl, by decide +kernel, rfl, by decide +kernel, by decide +kernel⟩
theorem scPick : FnScope ["_law_pen_here", "_law_some"] ["_law_pen_here", "_law_some"] (defScope sPick) := ⟨rfl, rfl, rfl, by decide +kernel, rfl, by decide +kernel, by decide +kernel⟩
theorem ints_at {ns : List Int} {i : Nat} {y : V} (hi : (ns.map V.int)[i]? = some y) : ∃ z, y = V.int z := by
  rw [List.getElem?_map] at hi
  cases e : ns[i]? with
  | none =>
    rw [e] at hi
    cases hi
  | some z =>
    rw [e] at hi
    exact ⟨z, (Option.some.inj hi).symm⟩
theorem ok_pen (D : DefAt K mg "_law_pen" sPen) (T : Txt K mg) : Cl P w K mg base 1 "_law_pen" (spPen K) := by
  refine cl_of D scPen (fun vs H Q E h => ?_) (fun _ _ _ _ _ _ us hl => match us, hl with | [_], _ => rfl) (fun f cdv A outer s H vs Q E hr h => ?_)
  · obtain ⟨a, ns, rfl, _⟩ := h
    rfl
  · obtain ⟨a, ns, rfl, hS, k⟩ := h
    refine ⟨_, pss_cons (ps_set (i := 1) scPen.nd rfl (Or.inl rfl) pe_int)
      (pss_cons (ps_for PassesOwn.never rfl (pi_list (pv 0)) (pg_name (i := 2) scPen.nd rfl (Or.inl rfl))
        (pss_one (ps_set (i := 1) scPen.nd rfl (Or.inl rfl) (pe_op op_mod (pe_callTy call_int1 (by rfl) (by exact T.int) PyProof.Rows.boot_int (pa_cons (pe_op op_add (pe_op op_mul (pv 1) pe_int) (pv 2)) pa_nil)) pe_int))))
      (pss_one (ps_ret (pe_disp (pps_cons pe_str (pe_callTy call_list_of (by rfl) (by exact T.list) (by decide +kernel) (pa_cons (pv 0) pa_nil)) (pps_cons pe_str pe_int (pps_cons pe_str pe_int (pps_cons pe_str pe_int (pps_cons pe_str (pv 1) pps_nil))))) (by rfl) (by rfl) (fun z => by cases z) (by decide))))), ?_⟩
    refine ⟨_, rfl, a, rfl, ⟨_, hS⟩, for_list (K := K) (a := a) (xs := ns.map V.int) (fun i σ H' => ∃ (n : Int) (v : Option V), σ = [some (.ref a), some (.int n), v] ∧ H' = H ∧ 0 ≤ n ∧ n < 1000000007)
      ⟨0, none, rfl, rfl, by decide, by decide⟩ (fun i σ H' _ ⟨_, _, _, e, _, _⟩ => by rw [e]; exact hS) ?_ ?_⟩
    · rintro i y σ H' hi ⟨n, v, rfl, rfl, h0, h1⟩
      obtain ⟨z, rfl⟩ := ints_at hi
      refine ⟨_, rfl, _, _, rfl, rfl, .inl ⟨by omega, by omega⟩, _, rfl, _, _, rfl, rfl, .inl ⟨_, rfl, _, _, rfl, rfl, (by show (0 : Int) < 1000000007; decide), ?_⟩⟩
      exact ⟨(n * 41 + z) % 1000000007, _, rfl, rfl, Int.emod_nonneg _ (by decide), Int.emod_lt_of_pos _ (by decide)⟩
    · rintro σ H' ⟨n, v, rfl, rfl, h0, h1⟩
      intro p hp
      have s1 : Same H' (upd H' p (.dK [])) := fun b o e => by rw [upd_ne (ne_of_none e hp)]; exact e
      refine ⟨_, rfl, a, _, rfl, .inl (s1.seq hS), fun l hl => ?_⟩
      have npl : p ≠ l := ne_of_none upd_same hl
      have s2 : Same H' (upd (upd (upd H' p (.dK [])) l (.lst (ns.map V.int))) p (.dK (mergeK [] (penD l 0 0 0 n)))) := fun b o e => by
        rw [upd_ne (ne_of_none e hp), upd_ne (ne_of_none (s1 b o e) hl)]
        exact s1 b o e
      refine ⟨_, rfl, by rw [upd_ne npl, upd_same], penD l 0 0 0 n, rfl, (by show 5 ≤ 15; decide), ?_⟩
      refine k p l _ hp s2 ⟨ns, 0, 0, n, 0, upd_same, ?_, by decide, by decide, by decide, h0, by omega⟩
      rw [upd_ne npl.symm, upd_same]
theorem ok_draw (D : DefAt K mg "_law_draw" sDraw) (T : Txt K mg) : Cl P w K mg base 1 "_law_draw" (spDraw K) := by
  refine cl_of D scDraw (fun vs H Q E h => ?_) (fun _ _ _ _ _ _ us hl => match us, hl with | [_, _], _ => rfl) (fun f cdv A outer s H vs Q E hr h => ?_)
  · obtain ⟨p, c, m, many, rfl, _⟩ := h
    rfl
  · obtain ⟨p, c, m, many, rfl, HP, hm, m0, m1, k⟩ := h
    obtain ⟨ns, i, d, f, n, hH, hc, hi, hd, hn, hf0, hf1⟩ := HP.ex
    have hu := hu_of hr
    refine ⟨_, pss_cons (ps_dput hu (pv 0) pe_str (pe_op op_add (pe_dget hu (pv 0) pe_str (fun _ _ => rfl)) pe_int) rfl)
      (C8.pss_cut (ps_if (PW.pt (pw_and (pt_cmpR op_eq (pe_dget hu (pv 0) pe_str (fun _ _ => rfl)) pe_int (nomark _)) (pw_and1 (pt_cmpR op_lt (pe_dget hu (pv 0) pe_str (fun _ _ => rfl)) (pe_callB call_len_seq (by rfl) (by exact T.len) PySem.boot_len (pa_cons (pe_dget hu (pv 0) pe_str (fun _ _ => rfl)) pa_nil)) (nomark _)))))
        (pss_cons (ps_set (i := 2) scDraw.nd rfl (Or.inl rfl) (pe_ix ix_list (pe_dget hu (pv 0) pe_str (fun _ _ => rfl)) (pe_dget hu (pv 0) pe_str (fun _ _ => rfl)) (fun _ _ => rfl)))
        (pss_cons (ps_dput hu (pv 0) pe_str (pe_op op_add (pe_dget hu (pv 0) pe_str (fun _ _ => rfl)) pe_int) rfl)
        (pss_one (ps_if (pt_cmpR op_ge (pv 2) (pe_op op_pow pe_int pe_int) (nomark _))
          (pss_one (ps_dput hu (pv 0) pe_str (pe_op op_sub (pv 2) (pe_op op_pow pe_int pe_int)) rfl))
          (pss_one (ps_dput hu (pv 0) pe_str (pe_op op_mod (pe_callTy call_int1 (by rfl) (by exact T.int) PyProof.Rows.boot_int (pa_cons (pe_op op_add (pe_op op_mul (pe_dget hu (pv 0) pe_str (fun _ _ => rfl)) pe_int) (pv 2)) pa_nil)) pe_int) rfl))))))
        pss_nil)
      (pss_cons (ps_if (pt_cmpR op_gt (pe_dget hu (pv 0) pe_str (fun _ _ => rfl)) pe_int (nomark _))
        (pss_cons (ps_set (i := 3) scDraw.nd rfl (Or.inl rfl) (pe_op op_modN (pe_callTy call_int1 (by rfl) (by exact T.int) PyProof.Rows.boot_int (pa_cons (pe_dget hu (pv 0) pe_str (fun _ _ => rfl)) pa_nil)) (pv 1)))
        (pss_cons (ps_dput hu (pv 0) pe_str (pe_op op_fdivW (pe_dget hu (pv 0) pe_str (fun _ _ => rfl)) (pv 1)) rfl)
        (pss_one (ps_ret (pv 3))))) pss_nil)
      (pss_cons (ps_set (i := 4) scDraw.nd rfl (Or.inl rfl) (pe_op op_add (pe_op op_add (pe_dget hu (pv 0) pe_str (fun _ _ => rfl)) (pe_op op_mul (pe_dget hu (pv 0) pe_str (fun _ _ => rfl)) pe_int)) pe_int))
      (pss_one (ps_ret (pe_op op_modN (pe_op op_fdivN (pe_callTy call_int1 (by rfl) (by exact T.int) PyProof.Rows.boot_int (pa_cons (pe_op op_modN (pe_op op_pow (pv 4) pe_int) pe_int) pa_nil)) pe_int) (pv 1))))))), ?_⟩
    -- count
    refine ⟨_, rfl, p, _, rfl, g_count hH, _, _, rfl, rfl, _, rfl, p, _, rfl, p_count hH, ?_⟩
    have S1 : ∀ o, upd H p o c = some (.lst (ns.map V.int)) := fun o => HP.lst hc
    have S0 : ∀ o, SqL K (upd H p o) c (ns.map V.int) := fun o => .inl (.inl (S1 o))
    refine ⟨fun σ H' => ∃ (i' d' f' : Int) (v : Option V), σ = [some (.ref p), some (.int many), v, none, none] ∧ H' = upd H p (.dK (penD c i' d' ((n : Int) + 1) f')) ∧ 0 ≤ i' ∧ 0 ≤ d' ∧ 0 ≤ f' ∧ f' < 2147483587, ?_, ?_⟩
    · -- the digits are used up?
      refine ⟨_, rfl, p, _, rfl, g_digits upd_same, rfl, _, rfl, ?_⟩
      refine ite2 (fun _ => ?_) (fun _ => ⟨i, d, f, none, rfl, rfl, hi, hd, hf0, hf1⟩)
      refine ⟨_, rfl, p, _, rfl, g_at upd_same, _, rfl, p, _, rfl, g_cells upd_same, c, _, rfl, .inl (S0 _), _, _, rfl, rfl, _, rfl, ?_⟩
      refine ite2 (fun hlt => ?_) (fun _ => ⟨i, d, f, none, rfl, rfl, hi, hd, hf0, hf1⟩)
      have hlt := of_decide_eq_true hlt
      rw [List.length_map] at hlt
      obtain ⟨z, hz⟩ : ∃ z, (ns.map V.int)[i.toNat]? = some (V.int z) := by
        refine ⟨ns[i.toNat]'(by omega), ?_⟩
        rw [List.getElem?_map, List.getElem?_eq_getElem (by omega)]
        rfl
      have hat : atI (ns.map V.int) i = some (V.int z) := by
        have e : i = ((i.toNat : Nat) : Int) := by omega
        rw [e]
        exact atI_nat hz
      refine ⟨_, rfl, p, _, rfl, g_cells upd_same, _, rfl, p, _, rfl, g_at upd_same, c, _, _, _, rfl, rfl, S0 _, hat, ?_⟩
      refine ⟨_, rfl, p, _, rfl, g_at upd_same, _, _, rfl, rfl, _, rfl, p, _, rfl, p_at, ?_⟩
      refine ⟨_, rfl, _, _, rfl, rfl, ⟨by decide, by decide, by decide⟩, _, _, rfl, rfl, _, rfl, ?_⟩
      refine ite2 (fun hge => ?_) (fun _ => ?_)
      · have hge := of_decide_eq_true hge
        refine ⟨_, rfl, _, _, rfl, rfl, ⟨by decide, by decide, by decide⟩, _, _, rfl, rfl, _, rfl, p, _, rfl, p_digits, ?_⟩
        exact ⟨_, _, f, _, rfl, rfl, by omega, Int.sub_nonneg.mpr hge, hf0, hf1⟩
      · refine ⟨_, rfl, p, _, rfl, g_fold upd_same, _, _, rfl, rfl, .inl ⟨by omega, by omega⟩, _, rfl, _, _, rfl, rfl, .inl ⟨_, rfl, _, _, rfl, rfl, (by show (0 : Int) < 2147483587; decide), _, rfl, p, _, rfl, p_fold, ?_⟩⟩
        exact ⟨_, _, _, _, rfl, rfl, by omega, hd, Int.emod_nonneg _ (by decide), Int.emod_lt_of_pos _ (by decide)⟩
    · rintro σ H' ⟨i', d', f', v, rfl, rfl, hi', hd', hf0', hf1'⟩
      have pen : ∀ d'', 0 ≤ d'' → PenAt (upd H p (.dK (penD c i' d'' ((n : Int) + 1) f'))) p c (m + 1) := fun d'' h0 => ⟨ns, i', d'', f', n + 1, upd_same, S1 _, hi', h0, by omega, hf0', hf1'⟩
      refine ⟨_, rfl, p, _, rfl, g_digits upd_same, _, _, rfl, rfl, _, rfl, ?_⟩
      refine ite2 (fun _ => ?_) (fun _ => ?_)
      · refine ⟨_, rfl, p, _, rfl, g_digits upd_same, .inl ⟨_, rfl, _, rfl, _, _, rfl, rfl, by omega, ?_⟩⟩
        refine ⟨_, rfl, p, _, rfl, g_digits upd_same, _, rfl, _, _, rfl, rfl, ⟨m0, m1⟩, _, rfl, p, _, rfl, p_digits, ?_⟩
        refine ⟨_, rfl, ?_⟩
        exact k _ _ (Int.fmod_nonneg_of_pos _ m0) (Int.fmod_lt_of_pos _ m0) (pen _ (Int.ediv_nonneg hd' (by omega)))
      · refine ⟨_, rfl, p, _, rfl, g_fold upd_same, _, rfl, p, _, rfl, g_count upd_same, _, _, rfl, rfl, .inl ⟨by omega, by omega⟩, _, _, rfl, rfl, _, _, rfl, rfl, ?_⟩
        refine ⟨_, rfl, _, _, rfl, rfl, ⟨by decide, by decide, by omega⟩, _, _, rfl, rfl, (by show (2305843009213693951 : Int) ≠ 0; decide), .inl ⟨_, rfl, _, _, rfl, rfl, ⟨by decide, by decide⟩, _, rfl, _, _, rfl, rfl, by omega, ?_⟩⟩
        exact k _ _ (Int.fmod_nonneg_of_pos _ m0) (Int.fmod_lt_of_pos _ m0) (pen _ hd')
theorem SqT_upd {H : Hp} {p c : Addr} {xs : List V} {kvs : List (Key × V)} {o : HO} (h : SqT K H c xs) (hp : H p = some (.dK kvs)) : SqT K (upd H p o) c xs := by
  rcases h with (h | ⟨u, h⟩) | h
  · refine .inl (.inl ?_)
    rw [upd_ne (ne_of h hp (by intro z; cases z))]
    exact h
  · refine .inl (.inr ⟨u, ?_⟩)
    rw [upd_ne (ne_of h hp (by intro z; cases z))]
    exact h
  · exact .inr h
theorem ok_pick (D : DefAt K mg "_law_pick" sPick) (T : Txt K mg) (CD : Cl P w K mg base 1 "_law_draw" (spDraw K)) : Cl P w K mg base 2 "_law_pick" (spPick K) := by
  refine cl_of D scPick (fun vs H Q E h => ?_) (fun _ _ _ _ _ _ us hl => match us, hl with | [_, _], _ => rfl) (fun f cdv A outer s H vs Q E hr h => ?_)
  · obtain ⟨p, c, m, u, xs, rfl, _⟩ := h
    rfl
  · obtain ⟨p, c, m, u, xs, rfl, HP, hS, hm, m0, m1, k⟩ := h
    refine ⟨_, pss_one (ps_ret (pe_ix ix_seq (pv 1) (pe_cl CD hr (Nat.le_refl _) rfl (pa_cons (pv 0) (pa_cons (pe_callB call_len (by rfl) (by exact T.len) PySem.boot_len (pa_cons (pv 1) pa_nil)) pa_nil))) (fun _ _ => rfl))), ?_⟩
    obtain ⟨kvs, hk⟩ := HP.dict
    have hln : LenV K u H xs.length := by
      cases hS with
      | lst h => exact .inl ⟨_, h, rfl⟩
      | tup h => exact .inr ⟨_, h, rfl⟩
      | str h => exact ⟨h, by rw [List.length_map]; exact (Array.length_toList).symm⟩
    refine ⟨_, rfl, _, rfl, _, rfl, _, _, rfl, hln, ?_⟩
    refine ⟨p, c, m, _, rfl, HP, hm, by omega, ?_, fun v o v0 v1 HP' => ?_⟩
    · have h2 : (xs.length : Int).natAbs.log2 < 30 := PySem.Flt.log2_lt_of (by decide) (by omega)
      omega
    obtain ⟨y, hv⟩ : ∃ y, xs[v.toNat]? = some y := ⟨xs[v.toNat]'(by omega), List.getElem?_eq_getElem (by omega)⟩
    have e : v = ((v.toNat : Nat) : Int) := by omega
    have hq := k v.toNat y o hv HP'
    cases hS with
    | lst h => exact .inl ⟨_, xs, v, y, rfl, rfl, SqL_upd h hk, by rw [e]; exact atI_nat hv, hq⟩
    | tup h => exact .inr (.inl ⟨_, xs, v, y, rfl, rfl, SqT_upd h hk, by rw [e]; exact atI_nat hv, hq⟩)
    | @str z h =>
      rw [List.getElem?_map] at hv
      cases ec : z.cps.toList[v.toNat]? with
      | none => rw [ec] at hv; cases hv
      | some cc =>
        rw [ec] at hv
        obtain rfl := Option.some.inj hv
        exact .inr (.inr ⟨z, v, cc, rfl, rfl, h, by rw [e]; exact atI_nat ec, hq⟩)
end
end Wq
set_option Elab.async false
set_option linter.all false
set_option maxRecDepth 100000
set_option maxHeartbeats 2000000
/-! fractions in least form -/
namespace Fr
def cc (t b : Int) : Int := if b < 0 then -((Nat.gcd t.natAbs b.natAbs : Nat) : Int) else ((Nat.gcd t.natAbs b.natAbs : Nat) : Int)
def nt (t b : Int) : Int := t.fdiv (cc t b)
def nb (t b : Int) : Int := b.fdiv (cc t b)
theorem gpos {t b : Int} (h : b ≠ 0) : 0 < Nat.gcd t.natAbs b.natAbs := Nat.gcd_pos_of_pos_right _ (Int.natAbs_pos.mpr h)
theorem cc_ne {t b : Int} (h : b ≠ 0) : cc t b ≠ 0 := by
  have := gpos (t := t) h
  unfold cc
  split <;> omega
theorem cc_dvd_t {t b : Int} : cc t b ∣ t := by
  have h : ((Nat.gcd t.natAbs b.natAbs : Nat) : Int) ∣ t := by
    rw [← Int.dvd_natAbs]
    exact Int.natCast_dvd_natCast.mpr (Nat.gcd_dvd_left _ _)
  unfold cc
  split
  · exact Int.neg_dvd.mpr h
  · exact h
theorem cc_dvd_b {t b : Int} : cc t b ∣ b := by
  have h : ((Nat.gcd t.natAbs b.natAbs : Nat) : Int) ∣ b := by
    rw [← Int.dvd_natAbs]
    exact Int.natCast_dvd_natCast.mpr (Nat.gcd_dvd_right _ _)
  unfold cc
  split
  · exact Int.neg_dvd.mpr h
  · exact h
theorem nt_mul {t b : Int} : nt t b * cc t b = t := Int.fdiv_mul_cancel cc_dvd_t
theorem nb_mul {t b : Int} : nb t b * cc t b = b := Int.fdiv_mul_cancel cc_dvd_b
theorem nb_pos {t b : Int} (h : b ≠ 0) : 0 < nb t b := by
  have e := nb_mul (t := t) (b := b)
  have g := gpos (t := t) h
  unfold cc at e
  split at e
  · rename_i hb
    rcases Int.lt_or_le 0 (nb t b) with p | p
    · exact p
    · exfalso
      have : 0 ≤ nb t b * -((Nat.gcd t.natAbs b.natAbs : Nat) : Int) := by
        rw [Int.mul_neg, ← Int.neg_mul]
        exact Int.mul_nonneg (by omega) (by omega)
      omega
  · rename_i hb
    rcases Int.lt_or_le 0 (nb t b) with p | p
    · exact p
    · exfalso
      have : nb t b * ((Nat.gcd t.natAbs b.natAbs : Nat) : Int) ≤ 0 := Int.mul_nonpos_of_nonpos_of_nonneg p (by omega)
      omega
theorem cross {t b : Int} : nt t b * b = t * nb t b := by
  have e1 := nt_mul (t := t) (b := b)
  have e2 := nb_mul (t := t) (b := b)
  calc nt t b * b = nt t b * (nb t b * cc t b) := by rw [e2]
    _ = (nt t b * cc t b) * nb t b := by rw [Int.mul_assoc, Int.mul_comm (cc t b), Int.mul_comm (nb t b) (cc t b)]
    _ = t * nb t b := by rw [e1]
theorem cc_abs {t b : Int} : (cc t b).natAbs = Nat.gcd t.natAbs b.natAbs := by
  unfold cc
  split <;> simp
theorem cop {t b : Int} (h : b ≠ 0) : Nat.gcd (nt t b).natAbs (nb t b).natAbs = 1 := by
  have e1 : (nt t b).natAbs * Nat.gcd t.natAbs b.natAbs = t.natAbs := by rw [← cc_abs, ← Int.natAbs_mul, nt_mul]
  have e2 : (nb t b).natAbs * Nat.gcd t.natAbs b.natAbs = b.natAbs := by rw [← cc_abs, ← Int.natAbs_mul, nb_mul]
  have g := gpos (t := t) h
  have e3 : Nat.gcd ((nt t b).natAbs * Nat.gcd t.natAbs b.natAbs) ((nb t b).natAbs * Nat.gcd t.natAbs b.natAbs) = Nat.gcd t.natAbs b.natAbs := by rw [e1, e2]
  rw [Nat.gcd_mul_right] at e3
  exact Nat.eq_of_mul_eq_mul_right g (by rw [e3, Nat.one_mul])
/-- in least form fractions are the same where they are equal -/
theorem uniq {t b t' b' : Int} (h : 0 < b) (h' : 0 < b') (c : Nat.gcd t.natAbs b.natAbs = 1) (c' : Nat.gcd t'.natAbs b'.natAbs = 1) (e : t * b' = t' * b) : t = t' ∧ b = b' := by
  have eN : t.natAbs * b'.natAbs = t'.natAbs * b.natAbs := by rw [← Int.natAbs_mul, ← Int.natAbs_mul, e]
  have d1 : b.natAbs ∣ b'.natAbs := by
    have : b.natAbs ∣ t.natAbs * b'.natAbs := by rw [eN]; exact Nat.dvd_mul_left _ _
    exact Nat.Coprime.dvd_of_dvd_mul_left (Nat.Coprime.symm c) this
  have d2 : b'.natAbs ∣ b.natAbs := by
    have : b'.natAbs ∣ t'.natAbs * b.natAbs := by rw [← eN]; exact Nat.dvd_mul_left _ _
    exact Nat.Coprime.dvd_of_dvd_mul_left (Nat.Coprime.symm c') this
  have eb : b = b' := by
    have := Nat.dvd_antisymm d1 d2
    omega
  subst eb
  exact ⟨Int.eq_of_mul_eq_mul_right (by omega) e, rfl⟩
theorem le_of_mul {a c n : Nat} (e : a * c = n) (h : 0 < c) : a ≤ n := by
  rw [← e]
  exact Nat.le_mul_of_pos_right a h
theorem nt_le {t b : Int} (h : b ≠ 0) : (nt t b).natAbs ≤ t.natAbs := le_of_mul (by rw [← Int.natAbs_mul, nt_mul]) (by rw [cc_abs]; exact gpos h)
theorem nb_le {t b : Int} (h : b ≠ 0) : (nb t b).natAbs ≤ b.natAbs := le_of_mul (by rw [← Int.natAbs_mul, nb_mul]) (by rw [cc_abs]; exact gpos h)
theorem cc_le {t b : Int} (h : b ≠ 0) : (cc t b).natAbs ≤ b.natAbs := by
  rw [cc_abs]
  exact Nat.gcd_le_right _ (Int.natAbs_pos.mpr h)
end Fr
set_option Elab.async false
set_option linter.all false
set_option maxRecDepth 100000
set_option maxHeartbeats 2000000
set_option exponentiation.threshold 5000
namespace Wq
open PySem PySem.Spec PyProof.Rows L2
abbrev nI (n : Nat) : V := .int (n : Int)
theorem Same.new {H : Hp} {p : Addr} {o : HO} (h : H p = none) : Same H (upd H p o) := fun b u e => by
  rw [upd_ne (ne_of_none e h)]
  exact e
theorem Same.put {H H' : Hp} {p : Addr} {o : HO} (s : Same H H') (h : H p = none) : Same H (upd H' p o) := fun b u e => by
  rw [upd_ne (ne_of_none e h)]
  exact s _ _ e
theorem pss_pre {X : Cx} {b : List Stmt} {t t' : TS} (h : PSs X b t) (i : ∀ D σ H, t' D σ H → t D σ H) : PSs X b t' := ⟨fun pins s σ H D I q => h.run pins s σ H D I (i D σ H q)⟩
/-- what is never reached -/
def tNever : TS := fun _ _ _ => False
theorem pss_never {X : Cx} {b : List Stmt} : PSs X b tNever := ⟨fun _ _ _ _ _ _ q => q.elim⟩
theorem ps_never {X : Cx} {b : Stmt} : PS X b tNever := ⟨fun _ _ _ _ _ _ q => q.elim⟩
/-- // by any divisor that is not 0 -/
def CDivB (_ j : Int) : Prop := j ≠ 0 ∧ j.natAbs.log2 < 9000
theorem op_fdivB {X : Cx} : OpR X (binaryOp .FloorDiv) (rI CDivB fun i j => .int (i.fdiv j)) := opI fun _ _ _ _ _ _ _ hc q => floordiv_int hc.1 q (.inl (PyProof.noPylong_of_log2 hc.2))
/-- callables with promises that let errors out -/
structure Cle (P : Program) (w : World) (K : PySem.W.Frag) (mg : Str → Option Value) (base : Heap) (k : Nat) (x : Str) (sp : Sp) : Prop where
  ex : ∃ (f : Addr) (fd : FuncData) (ps : List Str), FnOk P w K mg base (L2.CX P w) k f fd ps sp ∧ mg x = some (.ref f) ∧ PySem.W.keepIn K (.ref f) = true ∧ Binds K fd ps []
/-! methods -/
structure MAt (K : PySem.W.Frag) (C : Addr) (m qual : Str) (st : Stmt) : Prop where
  ex : ∃ (f : Addr) (fd : FuncData), Fun K m qual st f fd ∧ Meth K C m f
theorem m_mk {K : PySem.W.Frag} {C : Addr} {m qual : Str} {st : Stmt} {f : Addr} {oc : Value} {od an : Option Addr} {osl : Array (Option Value)} {kV doc pm cdv ct : Value}
    (a : PySem.W.findIn K (.ref C) m = some (some (.ref f))) (i : PySem.W.isFn K (.ref f) = true) (l : K.lookup f = some ⟨oc, od, .func (PySem.W.fnOf m qual (defArgs st) (defBody st) (defScope st) .none kV doc pm an cdv ct), osl⟩)
    (c : PySem.W.codeIn K cdv qual = true) (k : PySem.W.keepIn K (.ref f) = true) : MAt K C m qual st := ⟨f, _, fun_mk l c k, ⟨a, i, k⟩⟩
/-- the method m of the class at C -/
def MthX (P : Program) (w : World) (K : PySem.W.Frag) (mg : Str → Option Value) (base : Heap) (CX : CXT) (C : Addr) (m : Str) (k : Nat) (ps : List Str) (sp : Sp) : Prop :=
  ∃ f fd, Meth K C m f ∧ FnOk P w K mg base CX k f fd ps sp ∧ Binds K fd ps []
/-! errors with two fields -/
structure TxtE (K : PySem.W.Frag) (mg : Str → Option Value) (CE fI : Addr) (x f1 f2 : Str) : Prop where
  ox : OexC K CE
  n1 : PySem.W.findIn K (.ref CE) f1 = some none
  n2 : PySem.W.findIn K (.ref CE) f2 = some none
  iC : PySem.W.findIn K (.ref CE) "__init__" = some (some (.ref fI))
  tI : PySem.W.typeIn K (.ref fI) = some (.type "function")
  gC : mg x = some (.ref CE)
  xf : XfC K CE
  te : PySem.W.exmOne K (.ref CE) (.ref CE) = some true
def spE2 (CE : Addr) (f1 f2 : Str) : Sp := fun vs H Q _ => ∃ (a : Addr) (v1 v2 : V), vs = [.ref a, v1, v2] ∧ H a = some (exo a CE none) ∧ ∀ d, H d = none → d ≠ a → Q .non (upd (upd (upd H d (exd d [(f1, v1)])) a (exo a CE (some d))) d (exd d [(f2, v2), (f1, v1)]))
/-- an error is out: its fields -/
def Err2 (H H' : Hp) (d : Addr) (fs : List (Str × V)) : Prop := Same H H' ∧ H d = none ∧ H' d = some (.xd fs)
theorem err2_heap {H : Hp} {a d CE : Addr} {f1 f2 : Str} {v1 v2 : V} (ha : H a = none) (hd : (upd H a (exo a CE none)) d = none) (hda : d ≠ a) :
    Err2 H (upd (del (upd (upd (upd (upd H a (exo a CE none)) d (exd d [(f1, v1)])) a (exo a CE (some d))) d (exd d [(f2, v2), (f1, v1)])) a) d (.xd [(f2, v2), (f1, v1)])) d [(f2, v2), (f1, v1)] := by
  have hd' : H d = none := by rw [upd_ne hda] at hd; exact hd
  refine ⟨fun b o e => ?_, hd', upd_same⟩
  have hba : b ≠ a := ne_of_none e ha
  have hbd : b ≠ d := ne_of_none e hd'
  rw [upd_ne hbd, del_ne hba, upd_ne hbd, upd_ne hba, upd_ne hbd, upd_ne hba]
  exact e
abbrev sTI : Stmt := inClass (top 3) 0
abbrev sNI : Stmt := inClass (top 4) 0
theorem scTI : FnScope ["self", "line", "column"] ["self", "line", "column"] (defScope sTI) := ⟨rfl, rfl, rfl, by decide +kernel, rfl, by decide +kernel, by decide +kernel⟩
theorem scNI : FnScope ["self", "what", "number"] ["self", "what", "number"] (defScope sNI) := ⟨rfl, rfl, rfl, by decide +kernel, rfl, by decide +kernel, by decide +kernel⟩
section
variable {P : Program} {w : World} {K : PySem.W.Frag} {mg : Str → Option Value} {base : Heap} {C CE fI : Addr}
theorem ok_TI {fd : FuncData} (F : Fun K "__init__" "BadText.__init__" sTI fI fd) (T : TxtE K mg CE fI "BadText" "line" "column") : FnOk P w K mg base CX0 1 fI fd ["self", "line", "column"] (spE2 CE "line" "column") := by
  refine F.ok scTI (fun vs H Q E h => ?_) (fun cdv A outer s H vs Q E hr h => ?_)
  · obtain ⟨a, v1, v2, rfl, _⟩ := h
    rfl
  · obtain ⟨a, v1, v2, rfl, ha, k⟩ := h
    refine ⟨_, pss_cons (ps_ost (pv 0) (pv 1)) (pss_one (ps_ost (pv 0) (pv 2))), _, rfl, _, rfl, a, CE, rfl, T.ox, T.n1, .inl ⟨ha, fun dx n ne => ?_⟩⟩
    exact ⟨_, rfl, _, rfl, a, CE, rfl, T.ox, T.n2, .inr ⟨dx, _, upd_same, by rw [upd_ne ne]; exact upd_same, by show 1 ≤ 900; decide, k dx n ne⟩⟩
theorem ok_NI {fd : FuncData} (F : Fun K "__init__" "BadNumber.__init__" sNI fI fd) (T : TxtE K mg CE fI "BadNumber" "what" "number") : FnOk P w K mg base CX0 1 fI fd ["self", "what", "number"] (spE2 CE "what" "number") := by
  refine F.ok scNI (fun vs H Q E h => ?_) (fun cdv A outer s H vs Q E hr h => ?_)
  · obtain ⟨a, v1, v2, rfl, _⟩ := h
    rfl
  · obtain ⟨a, v1, v2, rfl, ha, k⟩ := h
    refine ⟨_, pss_cons (ps_ost (pv 0) (pv 1)) (pss_one (ps_ost (pv 0) (pv 2))), _, rfl, _, rfl, a, CE, rfl, T.ox, T.n1, .inl ⟨ha, fun dx n ne => ?_⟩⟩
    exact ⟨_, rfl, _, rfl, a, CE, rfl, T.ox, T.n2, .inr ⟨dx, _, upd_same, by rw [upd_ne ne]; exact upd_same, by show 1 ≤ 900; decide, k dx n ne⟩⟩
end
/-! an own ==, and != by it -/
section
variable {prog : Program} {w : World} {A : Around} {E : Value → Shared → Prop} {s : Shared} {K : PySem.W.Frag} {x C f : Addr} {ox : Obj} {od : Option Obj} {b tb : Value}
open PySem.W in
theorem ne_own {Q : Value → Shared → Prop} (hu : A.units < cLine) (hu1 : A.in1.units < cLine) (X : K.In s.heap) (I : InstAt s.heap x ox C od) (hb : Looks (model prog w) s.heap (typeOf b) tb) (hn : notFirst K C tb = true)
    (hne : findIn K (.ref C) "__ne__" = some (some (.builtin "object.__ne__"))) (hm : mroIn K C (.type "object") = some true) (hs : findIn K (.ref C) "__eq__" = some (some (.ref f))) (hf : isFn K (.ref f) = true)
    (h : wpAny (model prog w) A.in1 (call (.ref f) [.ref x, b]) (fun v s' => ∃ r, v = .bool r ∧ Q (.bool (!r)) s') E s) : wpAny (model prog w) A (richCompare .NotEq (.ref x) b) Q E s := by
  have one : wpAny (model prog w) A (tryCompare (.ref x) "__ne__" b) (fun r s' => ∃ v, r = some v ∧ Q v s') E s := by
    have cl : wpAny (model prog w) A (call (.builtin "object.__ne__") [.ref x, b]) (fun v s' => v ≠ .notImplemented ∧ Q v s') E s := by
      refine wpAny_call (codeAny_call_builtin PySem.F.slot_object_ne.plain PySem.F.entry_object_ne (check_slot (i := "object.__ne__") (owner := "object") (n := "__ne__") (by decide +kernel) (by decide +kernel) (I.type.andThen (looks_mroIn X hm)) (PySem.F.args_object_ne_2 _ _) ?_))
      unfold Builtin.«object.__ne__»
      refine wpAny_bind (m := slotArgs "__ne__" 1 _) (wpAny_pure ?_)
      refine wpAny_bind (m := cRoomFor _ _) (wpAny_cRoomFor hu1 ?_)
      refine wpAny_bind (m := callSpecialIfBound? (.ref x) (Str.ofString "__eq__") _) (ifBound_K X I hs hf (wpAny_mono h (fun v s' hq => ?_) fun _ _ y => y))
      obtain ⟨r, rfl, q⟩ := hq
      refine wpAny_bind (wpAny_truthy_bool ?_)
      exact wpAny_pure ⟨(fun z => by cases z), q⟩
    unfold tryCompare
    simp only [callSpecialIfBound?, bindSpecialIfBound?]
    refine wpAny_bind (wpAny_holding (wpAny_bind (wpAny_bind (wpAny_bind (I.type.here ((looks_findIn X hne).here ?_))))))
    refine wpAny_bind (wpAny_askSetting (wpAny_ite ?_))
    have fin : ∀ {Q' : Option Value → Shared → Prop}, (∀ v s', v ≠ .notImplemented → Q v s' → Q' (some v) s') → wpAny (model prog w) A (call (.builtin "object.__ne__") ([.ref x] ++ [b]) >>= fun v => pure (some v)) Q' E s := fun hq => wpAny_bind (wpAny_mono cl (fun v s' z => wpAny_pure (hq v s' z.1 z.2)) fun _ _ z => z)
    have out : ∀ v s', v ≠ .notImplemented → Q v s' → wpAny (model prog w) A (match some v with | some .notImplemented | none => pure none | some v => pure (some v)) (fun r s' => ∃ v, r = some v ∧ Q v s') E s' := by
      intro v s' hv hq
      cases v <;> first | exact absurd rfl hv | exact wpAny_pure ⟨_, rfl, hq⟩
    split
    · exact wpAny_bind ((Looks.of_pure (PySem.F.slot_object_ne.bind (.ref x))).here (wpAny_pure (fin out)))
    · exact wpAny_tryCatch (wpAny_bind ((Looks.of_pure (PySem.F.slot_object_ne.bind (.ref x))).here (wpAny_pure (fin out))))
  unfold richCompare
  simp only [oneThing_ref]
  refine wpAny_holding (wpAny_bind (wpAny_cRoomFor hu ?_))
  refine wpAny_bind (I.type.here (wpAny_bind (hb.here ?_)))
  split
  · rename_i q
    have e : subIn K tb (.ref C) = some false := by
      rcases Bool.or_eq_true_iff.mp hn with e | e
      · rw [beq_iff_eq.mp e] at q; simp at q
      · exact beq_iff_eq.mp e
    refine wpAny_bind ((looks_subIn X e).here ?_)
    simp only [Bool.false_eq_true, if_false]
    refine wpAny_bind (wpAny_mono one (fun r s' z => ?_) fun _ _ e => e)
    obtain ⟨v, rfl, hq⟩ := z
    exact wpAny_pure hq
  · refine wpAny_bind (wpAny_pure ?_)
    simp only [Bool.false_eq_true, if_false]
    refine wpAny_bind (wpAny_mono one (fun r s' z => ?_) fun _ _ e => e)
    obtain ⟨v, rfl, hq⟩ := z
    exact wpAny_pure hq
end
end Wq
set_option Elab.async false
set_option linter.all false
set_option maxRecDepth 100000
set_option maxHeartbeats 2000000
set_option exponentiation.threshold 5000
namespace Wq
open PySem PySem.Spec PyProof.Rows L2
/-- what an own == meets -/
def Oth (C : Addr) (H : Hp) (y : V) : Prop := (∃ b dy gs, y = .ref b ∧ H b = some (.ins C dy gs)) ∨ (∃ i, y = .int i) ∨ (∃ b, y = .bl b) ∨ (∃ s, y = .str s)
structure EqC (K : PySem.W.Frag) (C f : Addr) : Prop where
  hs : PySem.W.findIn K (.ref C) "__eq__" = some (some (.ref f))
  hf : PySem.W.isFn K (.ref f) = true
  ni : PySem.W.subIn K (.type "int") (.ref C) = some false
  nb : PySem.W.subIn K (.type "bool") (.ref C) = some false
  ns : PySem.W.subIn K (.type "str") (.ref C) = some false
  ne : PySem.W.findIn K (.ref C) "__ne__" = some (some (.builtin "object.__ne__"))
  hm : PySem.W.mroIn K C (.type "object") = some true
theorem oth_type {X : Cx} {C f : Addr} {pins : List (Addr × Obj)} {σ : L2.St} {H : Hp} {s : Shared} {y : V} {u : Value} (B : EqC X.K C f) (I : Inv X pins σ H s) (h : Oth C H y) (ry : RelV y u) :
    ∃ tb, PySem.W.Looks (model X.prog X.w) s.heap (typeOf u) tb ∧ PySem.W.notFirst X.K C tb = true := by
  rcases h with ⟨b, dy, gs, rfl, hb⟩ | ⟨i, rfl⟩ | ⟨b, rfl⟩ | ⟨z, rfl⟩
  · obtain rfl : u = Value.ref b := ry
    obtain ⟨mB, J2, _⟩ := ins_get I.hok hb
    obtain ⟨od2, J2, _⟩ := J2.look
    exact ⟨_, J2.type, by simp [PySem.W.notFirst]⟩
  · obtain ⟨t, rfl⟩ := ry
    exact ⟨_, PySem.W.Looks.of_pure rfl, by simp [PySem.W.notFirst, B.ni]⟩
  · obtain rfl : u = Value.bool b := ry
    exact ⟨_, PySem.W.Looks.of_pure rfl, by simp [PySem.W.notFirst, B.nb]⟩
  · obtain ⟨t, rfl⟩ := ry
    exact ⟨_, PySem.W.Looks.of_pure rfl, by simp [PySem.W.notFirst, B.ns]⟩
theorem not_ni {z : V} {q : Value} (rz : RelV z q) : q ≠ .notImplemented := by
  intro e
  subst e
  cases z <;> first | (obtain ⟨t, e⟩ := rz; cases e; done) | (cases rz; done)
/-- a function run below the running body -/
theorem run_sub {X : Cx} {CX : CXT} {k : Nat} {f : Addr} {fd : FuncData} {ps : List Str} {sp : Sp} {E : XK} {A : Around} {pins : List (Addr × Obj)} {σ : L2.St} {H : Hp} {s : Shared} {Q : VK} {us : List Value} {vs : List V} (F : FnOk X.prog X.w X.K X.mg X.base CX k f fd ps sp) (sb : Sub X k A) (hb : Binds X.K fd ps [])
    (hx : Passes CX X E) (I : Inv X pins σ H s) (r : Vals vs us) (h : sp vs H Q E) : wpAny (model X.prog X.w) A (call (.ref f) us) (EP X pins σ Q) X.xe s := by
  have hl : us.length = ps.length := by rw [← r.length]; exact F.len _ _ _ _ h
  have b := hb s us I.kIn (by rw [List.append_nil]; exact hl)
  rw [List.append_nil] at b
  have e0 : Env0 X.prog X.w X.K X.mg X.base A X.stack s H := by
    have e := I.env0
    exact ⟨by rw [sb.fr]; exact e.frames, e.mod, e.bs, e.bsz, e.funs, e.frf, e.hok, e.bare⟩
  refine wpAny_call (codeAny_mono (F.run A X.stack s H ⟨us, []⟩ us vs Q E sb.room e0 b r h) fun r s' hq => ?_)
  cases r with
  | error e => exact hx pins σ H s e s' I hq
  | ok fl =>
    cases fl with
    | ret u => exact I.after hq
    | next => exact False.elim hq
    | brk => exact False.elim hq
    | cont => exact False.elim hq
def rEqO (C : Addr) (sp : Sp) (E : XK) : R2 := fun x y H Q => ∃ a dx fs, x = .ref a ∧ H a = some (.ins C dx fs) ∧ Oth C H y ∧ sp [x, y] H Q E
def rNeO (C : Addr) (sp : Sp) (E : XK) : R2 := fun x y H Q => ∃ a dx fs, x = .ref a ∧ H a = some (.ins C dx fs) ∧ Oth C H y ∧ sp [x, y] H (fun v H' => ∃ r, v = .bl r ∧ Q (.bl (!r)) H') E
section
variable {X : Cx} {CX : CXT} {k : Nat} {f C : Addr} {fd : FuncData} {ps : List Str} {sp : Sp} {E : XK}
theorem op_eqO (B : EqC X.K C f) (F : FnOk X.prog X.w X.K X.mg X.base CX k f fd ps sp) (hr : Room k X.A) (hb : Binds X.K fd ps []) (hx : Passes CX X E) : OpR X (compareOp .Eq) (rEqO C sp E) := by
  intro pins s σ H x y v u Q I rx ry h
  obtain ⟨a, dx, fs, rfl, ha, hy, hsp⟩ := h
  obtain rfl : v = Value.ref a := rx
  obtain ⟨mA, J, _⟩ := ins_get I.hok ha
  obtain ⟨od, J, _⟩ := J.look
  obtain ⟨tb, ht, hn⟩ := oth_type B I hy ry
  obtain ⟨m, hF⟩ := I.fr
  show wpAny _ _ (richCompare .Eq _ _) _ _ _
  refine PySem.W.cmp_K (op := .Eq) (tb := tb) hr.units0 hF I.ok.mod.kin J ht hn B.hs B.hf ?_
  refine wpAny_mono (run_fn (us := [.ref a, u]) (vs := [.ref a, y]) F hr hb .nil hx I (.cons rfl (.cons ry .nil)) hsp) (fun v s' z => ?_) fun _ _ e => e
  obtain ⟨z, H1, I1, rz, q⟩ := z
  have nn := not_ni rz
  unfold PySem.W.CmpBack
  split
  · exact nn rfl
  · exact ⟨z, H1, I1, rz, q⟩
theorem op_neO (B : EqC X.K C f) (F : FnOk X.prog X.w X.K X.mg X.base CX k f fd ps sp) (hr : Room (k + 1) X.A) (hb : Binds X.K fd ps []) (hx : Passes CX X E) : OpR X (compareOp .NotEq) (rNeO C sp E) := by
  intro pins s σ H x y v u Q I rx ry h
  obtain ⟨a, dx, fs, rfl, ha, hy, hsp⟩ := h
  obtain rfl : v = Value.ref a := rx
  obtain ⟨mA, J, _⟩ := ins_get I.hok ha
  obtain ⟨od, J, _⟩ := J.look
  obtain ⟨tb, ht, hn⟩ := oth_type B I hy ry
  show wpAny _ _ (richCompare .NotEq _ _) _ _ _
  refine ne_own hr.units0 hr.in1.units0 I.kIn J ht hn B.ne B.hm B.hs B.hf ?_
  refine wpAny_mono (run_sub (A := X.A.in1) (us := [.ref a, u]) (vs := [.ref a, y]) F ⟨hr.in1, rfl⟩ hb hx I (.cons rfl (.cons ry .nil)) hsp) (fun v s' z => ?_) fun _ _ e => e
  obtain ⟨z, H1, I1, rz, r, rfl, q⟩ := z
  obtain rfl : v = Value.bool r := rz
  exact ⟨r, rfl, .bl (!r), H1, I1, rfl, q⟩
end
end Wq
set_option Elab.async false
set_option linter.all false
set_option maxRecDepth 100000
set_option maxHeartbeats 2000000
set_option exponentiation.threshold 5000
namespace Wq
open PySem PySem.Spec PyProof.Rows L2
open Fr (cc nt nb)
def sf (t b : Int) : List (Str × V) := [("top", .int t), ("bottom", .int b)]
theorem sf_t (t b : Int) : (sf t b).lookup ("top" : Str) = some (.int t) := by rfl
theorem sf_b (t b : Int) : (sf t b).lookup ("bottom" : Str) = some (.int b) := by rfl
theorem sf_no {m : Str} (t b : Int) (h1 : (m == ("top" : Str)) = false) (h2 : (m == ("bottom" : Str)) = false) : (sf t b).lookup m = none := by
  simp [sf, List.lookup, h1, h2]
/-- a share stands at p -/
def ShAt (C : Addr) (H : Hp) (p : Addr) (t b : Int) : Prop := ∃ dx, H p = some (.ins C dx (sf t b))
theorem ShAt.same {C : Addr} {H H' : Hp} {p : Addr} {t b : Int} (h : ShAt C H p t b) (s : Same H H') : ShAt C H' p t b := by
  obtain ⟨dx, e⟩ := h
  exact ⟨dx, s _ _ e⟩
/-- a share, or an integer: top and bottom -/
def Num (C : Addr) (H : Hp) (y : V) (u v : Int) : Prop := (y = .int u ∧ v = 1) ∨ ∃ q, y = .ref q ∧ ShAt C H q u v
def Bd (n : Int) : Prop := n.natAbs < 2 ^ 300
abbrev sSI : Stmt := inClass (top 15) 0
abbrev sSW : Stmt := inClass (top 15) 1
abbrev sSA : Stmt := inClass (top 15) 2
abbrev sSS : Stmt := inClass (top 15) 3
abbrev sSM : Stmt := inClass (top 15) 4
abbrev sSO : Stmt := inClass (top 15) 5
abbrev sSC : Stmt := inClass (top 15) 6
abbrev sSU : Stmt := inClass (top 15) 7
abbrev sSL : Stmt := inClass (top 15) 8
abbrev sSE : Stmt := inClass (top 15) 9
abbrev sIn : Stmt := top 13
abbrev sPO : Stmt := top 16
theorem scSI : FnScope ["self", "top", "bottom", "common"] ["self", "top", "bottom"] (defScope sSI) := ⟨rfl, rfl, rfl, by decide +kernel, rfl, by decide +kernel, by decide +kernel⟩
abbrev NOp : List Str := ["self", "other", "top", "bottom"]
theorem scSA : FnScope NOp ["self", "other"] (defScope sSA) := ⟨rfl, rfl, rfl, by decide +kernel, rfl, by decide +kernel, by decide +kernel⟩
theorem scSS : FnScope NOp ["self", "other"] (defScope sSS) := ⟨rfl, rfl, rfl, by decide +kernel, rfl, by decide +kernel, by decide +kernel⟩
theorem scSM : FnScope NOp ["self", "other"] (defScope sSM) := ⟨rfl, rfl, rfl, by decide +kernel, rfl, by decide +kernel, by decide +kernel⟩
theorem scSO : FnScope NOp ["self", "other"] (defScope sSO) := ⟨rfl, rfl, rfl, by decide +kernel, rfl, by decide +kernel, by decide +kernel⟩
theorem scSC : FnScope NOp ["self", "other"] (defScope sSC) := ⟨rfl, rfl, rfl, by decide +kernel, rfl, by decide +kernel, by decide +kernel⟩
theorem scSU : FnScope ["self", "other"] ["self", "other"] (defScope sSU) := ⟨rfl, rfl, rfl, by decide +kernel, rfl, by decide +kernel, by decide +kernel⟩
theorem scSL : FnScope ["self", "other"] ["self", "other"] (defScope sSL) := ⟨rfl, rfl, rfl, by decide +kernel, rfl, by decide +kernel, by decide +kernel⟩
theorem scSE : FnScope ["self", "other"] ["self", "other"] (defScope sSE) := ⟨rfl, rfl, rfl, by decide +kernel, rfl, by decide +kernel, by decide +kernel⟩
theorem scIn : FnScope ["value"] ["value"] (defScope sIn) := ⟨rfl, rfl, rfl, by decide +kernel, rfl, by decide +kernel, by decide +kernel⟩
theorem scPO : FnScope ["value"] ["value"] (defScope sPO) := ⟨rfl, rfl, rfl, by decide +kernel, rfl, by decide +kernel, by decide +kernel⟩
structure TxtS (K : PySem.W.Frag) (mg : Str → Option Value) (C : Addr) : Prop where
  cl : Cls K C
  nT : NoAttr K C "top"
  nB : NoAttr K C "bottom"
  gS : mg "Share" = some (.ref C)
  gG : mg "gcd" = some (.builtin "math.gcd")
  isi : mg "isinstance" = none
  gI : mg "int" = none
  gO : mg "bool" = none
  ha : PySem.W.findIn K (.ref C) "__class__" = some (some (.builtin "object.__class__"))
  hn : PySem.W.specialIn K (.builtin "object.__class__") "__get__" = some (some (.builtin "getset_descriptor.__get__"))
  htk : PySem.W.takesIn K (.builtin "object.__class__") = some true
  hm : PySem.W.mroIn K C (.type "object") = some true
  kI : PySem.W.kitOne K (.type "int") (.ref C) = some false
  kB : PySem.W.kitOne K (.type "bool") (.ref C) = some false
  kT : PySem.W.kitOne K (.type "str") (.ref C) = some false
theorem TxtS.ty {K : PySem.W.Frag} {mg : Str → Option Value} {C : Addr} (T : TxtS K mg C) {H : Hp} {p : Addr} {t b : Int} (h : ShAt C H p t b) : TyX K H (.ref p) (.ref C) := by
  obtain ⟨dx, e⟩ := h
  exact .base (.ins e T.cl T.ha T.hn T.htk T.hm)
theorem kit_self {K : PySem.W.Frag} {C : Addr} : PySem.W.kitOne K (.ref C) (.ref C) = some true := by
  unfold PySem.W.kitOne
  simp
def spSI (C CE : Addr) : Sp := fun vs H Q E => ∃ (p dx : Addr) (t b : Int), vs = [.ref p, .int t, .int b] ∧ H p = some (.ins C dx []) ∧ t.natAbs < 2 ^ 8000 ∧ b.natAbs < 2 ^ 8000 ∧
  (b ≠ 0 → ∀ H', (∀ a o, H a = some o → a ≠ p → H' a = some o) → ShAt C H' p (nt t b) (nb t b) → Q .non H') ∧ (b = 0 → ∀ d H', Err2 H H' d [("number", .int 0), ("what", .str "bottom")] → E (.ref CE) (some d) H')
def spPO (C : Addr) : Sp := fun vs H Q _ => ∃ (y : V) (u v : Int), vs = [y] ∧ Num C H y u v ∧ ∀ t, H t = none → Q (.ref t) (upd H t (.tup [.int u, .int v]))
/-- the making of a share out of two numbers -/
def spOp (C : Addr) (ok : Int → Int → Int → Int → Prop) (f g : Int → Int → Int → Int → Int) : Sp := fun vs H Q _ => ∃ (p : Addr) (y : V) (t b u v : Int), vs = [.ref p, y] ∧ ShAt C H p t b ∧ Num C H y u v ∧ Bd t ∧ Bd b ∧ Bd u ∧ Bd v ∧ ok t b u v ∧
  ∀ r H', H r = none → Same H H' → ShAt C H' r (nt (f t b u v) (g t b u v)) (nb (f t b u v) (g t b u v)) → Q (.ref r) H'
def spCm (C : Addr) (R : Int → V) : Sp := fun vs H Q _ => ∃ (p : Addr) (y : V) (t b u v : Int), vs = [.ref p, y] ∧ ShAt C H p t b ∧ Num C H y u v ∧ Bd t ∧ Bd b ∧ Bd u ∧ Bd v ∧ ∀ H', Same H H' → Q (R (t * v - u * b)) H'
def isIntV : V → Bool
  | .int _ => true
  | _ => false
def spIn : Sp := fun vs H Q _ => ∃ y : V, vs = [y] ∧ ((∃ i, y = .int i) ∨ (∃ b, y = .bl b) ∨ ∃ s, y = .str s) ∧ Q (.bl (isIntV y)) H
def spSE (C : Addr) : Sp := fun vs H Q _ => ∃ (p : Addr) (y : V) (t b : Int), vs = [.ref p, y] ∧ ShAt C H p t b ∧
  ((∃ q u v, y = .ref q ∧ ShAt C H q u v ∧ Q (.bl (decide (t = u) && decide (b = v))) H) ∨ (∃ i, y = .int i ∧ Q (.bl (decide (b = 1) && decide (t = i))) H) ∨ (((∃ k, y = .bl k) ∨ ∃ s, y = .str s) ∧ Q (.bl false) H))
theorem log_lt {n : Int} {k : Nat} (h : n.natAbs < 2 ^ k) (hk : 0 < k) : n.natAbs.log2 < k := PySem.Flt.log2_lt_of hk h
section
variable {P : Program} {w : World} {K : PySem.W.Frag} {mg : Str → Option Value} {base : Heap} {C CE fI : Addr}
theorem ok_SI {f : Addr} {fd fdI : FuncData} {dvs : List V} (F : FunD K "__init__" "Share.__init__" (defArgs sSI) (defBody sSI) (defScope sSI) dvs [] f fd) (T : TxtS K mg C) (TE : TxtE K mg CE fI "BadNumber" "what" "number") (GI : FnOk P w K mg base CX0 1 fI fdI ["self", "what", "number"] (spE2 CE "what" "number")) (bI : Binds K fdI ["self", "what", "number"] []) :
    FnOk P w K mg base (L2.CX P w) 3 f fd ["self", "top", "bottom"] (spSI C CE) := by
  refine F.ok scSI (fun vs H Q E h => ?_) (fun cdv A outer s H vs Q E hr h => ?_)
  · obtain ⟨p, dx, t, b, rfl, _⟩ := h
    rfl
  · obtain ⟨p, dx, t, b, rfl, hp, ht, hb, k1, k2⟩ := h
    refine ⟨_, pss_cons (ps_if (pt_cmpR op_eq (pv 2) pe_int (nomark _))
(pss_one (ps_raise rfl (takes_of rfl rfl rfl rfl) (pmk_oex TE.ox TE.iC TE.tI GI hr bI .nil pass0 rfl (by exact TE.gC) (by exact (pa_cons pe_str (pa_cons pe_int pa_nil))))))
pss_nil)
(pss_cons (ps_set (i := 3) scSI.nd rfl (Or.inl rfl) (pe_callBfun cr_gcd rfl (by exact T.gG) (pa_cons (pv 1) (pa_cons (pv 2) pa_nil))))
(C8.pss_cut (ps_if (pt_cmpR op_lt (pv 2) pe_int (nomark _))
(pss_one (ps_set (i := 3) scSI.nd rfl (Or.inl rfl) (pe_un un_neg (pv 3))))
pss_nil)
(pss_cons (ps_fld (pv 0) (pe_op op_fdivB (pv 1) (pv 3)) rfl)
(pss_one (ps_fld (pv 0) (pe_op op_fdivB (pv 2) (pv 3)) rfl))))), ?_⟩
    refine ⟨_, rfl, rfl, _, rfl, ?_⟩
    refine ite2 (fun hc => ?_) (fun hc => ?_)
    · have hc : b = 0 := V.int.inj (of_decide_eq_true hc)
      refine ⟨(by show 2 ≤ 1000; decide), fun a ha => ⟨a, _, _, rfl, upd_same, fun d hd hda => ⟨rfl, d, _, by rw [upd_ne hda.symm]; exact upd_same, upd_same, by rw [upd_ne hda] at hd; exact hd, ?_⟩⟩⟩
      exact k2 hc d _ (err2_heap ha hd hda)
    · have hc : b ≠ 0 := fun z => hc (decide_eq_true (by rw [z]))
      refine ⟨_, rfl, _, rfl, _, _, rfl, ?_⟩
      refine ⟨fun σ G => σ = [some (.ref p), some (.int t), some (.int b), some (.int (cc t b))] ∧ G = H, ?_, ?_⟩
      · refine ⟨_, rfl, _, _, rfl, rfl, _, rfl, ?_⟩
        refine ite2 (fun hl => ?_) (fun hl => ?_)
        · have hl : b < 0 := of_decide_eq_true hl
          refine ⟨_, rfl, _, rfl, ?_⟩
          refine ⟨?_, rfl⟩
          show [_, _, _, some (V.int (-((Nat.gcd t.natAbs b.natAbs : Nat) : Int)))] = _
          unfold cc
          rw [if_pos hl]
        · have hl : ¬ b < 0 := fun z => hl (decide_eq_true z)
          refine ⟨?_, rfl⟩
          show [_, _, _, some (V.int ((Nat.gcd t.natAbs b.natAbs : Nat) : Int))] = _
          unfold cc
          rw [if_neg hl]
      rintro σ G ⟨rfl, rfl⟩
      have hcb : CDivB t (cc t b) := ⟨Fr.cc_ne hc, by
        have := log_lt (n := cc t b) (Nat.lt_of_le_of_lt (Fr.cc_le hc) hb) (by decide)
        omega⟩
      refine ⟨_, rfl, _, rfl, _, _, rfl, rfl, hcb, _, rfl, p, C, dx, [], rfl, hp, T.cl, T.nT, (by show 0 < 1000; decide), ?_⟩
      refine ⟨_, rfl, _, rfl, _, _, rfl, rfl, ⟨hcb.1, hcb.2⟩, _, rfl, p, C, dx, _, rfl, upd_same, T.cl, T.nB, (by show 1 < 1000; decide), ?_⟩
      exact k1 hc _ (fun a o e n => by rw [upd_ne n, upd_ne n]; exact e) ⟨dx, upd_same⟩
theorem ok_PO (D : DefAt K mg "parts_of" sPO) (T : TxtS K mg C) : Cl P w K mg base 1 "parts_of" (spPO C) := by
  refine cl_of D scPO (fun vs H Q E h => ?_) (fun _ _ _ _ _ _ us hl => match us, hl with | [_], _ => rfl) (fun f cdv A outer s H vs Q E hr h => ?_)
  · obtain ⟨y, u, v, rfl, _⟩ := h
    rfl
  · obtain ⟨y, u, v, rfl, hy, k⟩ := h
    refine ⟨_, pss_cons (ps_if (pt_val (pe_callB call_isi (by rfl) (by exact T.isi) (by decide +kernel) (pa_cons (pv 0) (pa_cons (pe_glob rfl (by exact T.gS) (v := .ref C) rfl) pa_nil))))
(pss_one (ps_ret (pe_tup (pa_cons (pe_fld (pv 0) rfl) (pa_cons (pe_fld (pv 0) rfl) pa_nil)))))
pss_nil)
(pss_one (ps_ret (pe_tup (pa_cons (pv 0) (pa_cons pe_int pa_nil))))), ?_⟩
    rcases hy with ⟨rfl, rfl⟩ | ⟨q, rfl, hq⟩
    · refine ⟨_, rfl, _, _, _, _, _, rfl, .own C, .base (.int u), T.kI, _, rfl, ?_⟩
      refine iteF ⟨_, rfl, by show 2 ≤ sizeLine; decide, fun t ht => k t ht⟩
    · obtain ⟨dx, hq⟩ := id hq
      refine ⟨_, rfl, _, _, _, _, _, rfl, .own C, T.ty ⟨dx, hq⟩, kit_self, _, rfl, ?_⟩
      refine iteT ⟨_, rfl, q, C, dx, _, _, rfl, hq, T.cl, T.nT, sf_t u v, _, rfl, q, C, dx, _, _, rfl, hq, T.cl, T.nB, sf_b u v, by show 2 ≤ sizeLine; decide, fun t ht => k t ht⟩
end
end Wq
set_option Elab.async false
set_option linter.all false
set_option maxRecDepth 100000
set_option maxHeartbeats 2000000
set_option exponentiation.threshold 9000
namespace Wq
open PySem PySem.Spec PyProof.Rows L2
open Fr (cc nt nb)
theorem mul_bd {a b : Int} (ha : Bd a) (hb : Bd b) : (a * b).natAbs < 2 ^ 600 := by
  rw [Int.natAbs_mul]
  exact Nat.lt_of_lt_of_le (Nat.mul_lt_mul'' ha hb) (by decide)
theorem mul_w {a b : Int} (ha : Bd a) (hb : Bd b) : CMulW a b := wide_mul ha hb (by decide) (by decide) (by decide)
theorem p600 : (2 : Nat) ^ 600 ≤ 2 ^ 8000 := Nat.pow_le_pow_right (by decide) (by decide)
theorem p600x : (2 : Nat) ^ 600 + 2 ^ 600 ≤ 2 ^ 8000 := by
  have e : (2 : Nat) ^ 600 + 2 ^ 600 = 2 ^ 601 := by omega
  rw [e]
  exact Nat.pow_le_pow_right (by decide) (by decide)
theorem mul_8 {a b : Int} (ha : Bd a) (hb : Bd b) : (a * b).natAbs < 2 ^ 8000 := Nat.lt_of_lt_of_le (mul_bd ha hb) p600
theorem add_8 {x y : Int} (hx : x.natAbs < 2 ^ 600) (hy : y.natAbs < 2 ^ 600) : (x + y).natAbs < 2 ^ 8000 := by
  have := Int.natAbs_add_le x y
  have := p600x
  omega
theorem sub_8 {x y : Int} (hx : x.natAbs < 2 ^ 600) (hy : y.natAbs < 2 ^ 600) : (x - y).natAbs < 2 ^ 8000 := by
  have := Int.natAbs_sub_le x y
  have := p600x
  omega
abbrev EF : XK := fun _ _ _ => False
theorem passF {X : Cx} : Passes (L2.CX X.prog X.w) X EF := passes_call takes0 (fun _ _ _ _ h => h)
/-- the class Share is made -/
def MadeS (P : Program) (w : World) (K : PySem.W.Frag) (mg : Str → Option Value) (base : Heap) (C CE : Addr) : Prop :=
  ∃ f fd, Mk K C f ∧ FnOk P w K mg base (L2.CX P w) 3 f fd ["self", "top", "bottom"] (spSI C CE) ∧ Binds K fd ["self", "top", "bottom"] []
section
variable {P : Program} {w : World} {K : PySem.W.Frag} {mg : Str → Option Value} {base : Heap} {C CE : Addr}
/-- the end of Share(x, y) -/
theorem made {H : Hp} {Q : VK} {x y : Int} (hx : x.natAbs < 2 ^ 8000) (hy : y.natAbs < 2 ^ 8000) (h0 : y ≠ 0) (k : ∀ r H', H r = none → Same H H' → ShAt C H' r (nt x y) (nb x y) → Q (.ref r) H') :
    ∀ p dx, H p = none → H dx = none → dx ≠ p → spSI C CE (.ref p :: ([.int x, .int y] ++ [])) (upd (upd H dx (.own p)) p (.ins C dx [])) (fun v H2 => v = .non ∧ Q (.ref p) H2) EF := by
  intro p dx hp hdx hne
  refine ⟨p, dx, x, y, rfl, upd_same, hx, hy, fun _ H' keep sh => ⟨rfl, k p H' hp (fun a o e => ?_) sh⟩, fun z => absurd z h0⟩
  have n : a ≠ p := ne_of_none e hp
  exact keep a o (by rw [upd_ne n, upd_ne (ne_of_none e hdx)]; exact e) n
theorem ok_SA {f : Addr} {fd : FuncData} (F : Fun K "__add__" "Share.__add__" sSA f fd) (T : TxtS K mg C) (CP : Cl P w K mg base 1 "parts_of" (spPO C)) (M : MadeS P w K mg base C CE) :
    FnOk P w K mg base CX0 5 f fd ["self", "other"] (spOp C (fun _ b _ v => b * v ≠ 0) (fun t b u v => t * v + u * b) (fun _ b _ v => b * v)) := by
  obtain ⟨fm, fdm, MM, GM, bM⟩ := M
  refine F.ok scSA (fun vs H Q E h => ?_) (fun cdv A outer s H vs Q E hr h => ?_)
  · obtain ⟨p, y, t, b, u, v, rfl, _⟩ := h
    rfl
  · obtain ⟨p, y, t, b, u, v, rfl, hp, hy, bt, bb, bu, bv, h0, k⟩ := h
    refine ⟨_, pss_cons (ps_asg (pe_cl CP hr (by decide) rfl (pa_cons (pv 1) pa_nil)) (pg_tup (by rfl) (pgs_cons (pg_name (i := 2) scSA.nd rfl (Or.inl rfl)) (pgs_cons (pg_name (i := 3) scSA.nd rfl (Or.inl rfl)) pgs_nil))))
(pss_one (ps_ret (pe_make MM GM (hr.mono (by decide)) rfl (by exact T.gS) bM .nil passF (pa_cons (pe_op op_add (pe_op op_mulW (pe_fld (pv 0) rfl) (pv 3)) (pe_op op_mulW (pv 2) (pe_fld (pv 0) rfl))) (pa_cons (pe_op op_mulW (pe_fld (pv 0) rfl) (pv 3)) pa_nil))))), ?_⟩
    refine ⟨_, rfl, y, u, v, rfl, hy, fun q hq => ⟨q, _, rfl, .inl (.inl upd_same), rfl, _, _, rfl, _, _, rfl, rfl, ?_⟩⟩
    have s1 := Same.new (o := .tup [.int u, .int v]) hq
    obtain ⟨dx, hp1⟩ := hp.same s1
    refine ⟨_, rfl, p, C, dx, _, _, rfl, hp1, T.cl, T.nT, sf_t t b, _, rfl, _, _, rfl, rfl, mul_w bt bv, _, rfl, _, rfl, p, C, dx, _, _, rfl, hp1, T.cl, T.nB, sf_b t b, _, _, rfl, rfl, mul_w bu bb, _, _, rfl, rfl,
      _, rfl, p, C, dx, _, _, rfl, hp1, T.cl, T.nB, sf_b t b, _, rfl, _, _, rfl, rfl, mul_w bb bv, made (add_8 (mul_bd bt bv) (mul_bd bu bb)) (mul_8 bb bv) h0 fun r H' hr' s2 sh => k r H' (s1.free hr') (s1.trans s2) sh⟩
theorem ok_SS {f : Addr} {fd : FuncData} (F : Fun K "__sub__" "Share.__sub__" sSS f fd) (T : TxtS K mg C) (CP : Cl P w K mg base 1 "parts_of" (spPO C)) (M : MadeS P w K mg base C CE) :
    FnOk P w K mg base CX0 5 f fd ["self", "other"] (spOp C (fun _ b _ v => b * v ≠ 0) (fun t b u v => t * v - u * b) (fun _ b _ v => b * v)) := by
  obtain ⟨fm, fdm, MM, GM, bM⟩ := M
  refine F.ok scSS (fun vs H Q E h => ?_) (fun cdv A outer s H vs Q E hr h => ?_)
  · obtain ⟨p, y, t, b, u, v, rfl, _⟩ := h
    rfl
  · obtain ⟨p, y, t, b, u, v, rfl, hp, hy, bt, bb, bu, bv, h0, k⟩ := h
    refine ⟨_, pss_cons (ps_asg (pe_cl CP hr (by decide) rfl (pa_cons (pv 1) pa_nil)) (pg_tup (by rfl) (pgs_cons (pg_name (i := 2) scSS.nd rfl (Or.inl rfl)) (pgs_cons (pg_name (i := 3) scSS.nd rfl (Or.inl rfl)) pgs_nil))))
(pss_one (ps_ret (pe_make MM GM (hr.mono (by decide)) rfl (by exact T.gS) bM .nil passF (pa_cons (pe_op op_sub (pe_op op_mulW (pe_fld (pv 0) rfl) (pv 3)) (pe_op op_mulW (pv 2) (pe_fld (pv 0) rfl))) (pa_cons (pe_op op_mulW (pe_fld (pv 0) rfl) (pv 3)) pa_nil))))), ?_⟩
    refine ⟨_, rfl, y, u, v, rfl, hy, fun q hq => ⟨q, _, rfl, .inl (.inl upd_same), rfl, _, _, rfl, _, _, rfl, rfl, ?_⟩⟩
    have s1 := Same.new (o := .tup [.int u, .int v]) hq
    obtain ⟨dx, hp1⟩ := hp.same s1
    refine ⟨_, rfl, p, C, dx, _, _, rfl, hp1, T.cl, T.nT, sf_t t b, _, rfl, _, _, rfl, rfl, mul_w bt bv, _, rfl, _, rfl, p, C, dx, _, _, rfl, hp1, T.cl, T.nB, sf_b t b, _, _, rfl, rfl, mul_w bu bb, _, _, rfl, rfl,
      _, rfl, p, C, dx, _, _, rfl, hp1, T.cl, T.nB, sf_b t b, _, rfl, _, _, rfl, rfl, mul_w bb bv, made (sub_8 (mul_bd bt bv) (mul_bd bu bb)) (mul_8 bb bv) h0 fun r H' hr' s2 sh => k r H' (s1.free hr') (s1.trans s2) sh⟩
theorem ok_SM {f : Addr} {fd : FuncData} (F : Fun K "__mul__" "Share.__mul__" sSM f fd) (T : TxtS K mg C) (CP : Cl P w K mg base 1 "parts_of" (spPO C)) (M : MadeS P w K mg base C CE) :
    FnOk P w K mg base CX0 5 f fd ["self", "other"] (spOp C (fun _ b _ v => b * v ≠ 0) (fun t _ u _ => t * u) (fun _ b _ v => b * v)) := by
  obtain ⟨fm, fdm, MM, GM, bM⟩ := M
  refine F.ok scSM (fun vs H Q E h => ?_) (fun cdv A outer s H vs Q E hr h => ?_)
  · obtain ⟨p, y, t, b, u, v, rfl, _⟩ := h
    rfl
  · obtain ⟨p, y, t, b, u, v, rfl, hp, hy, bt, bb, bu, bv, h0, k⟩ := h
    refine ⟨_, pss_cons (ps_asg (pe_cl CP hr (by decide) rfl (pa_cons (pv 1) pa_nil)) (pg_tup (by rfl) (pgs_cons (pg_name (i := 2) scSM.nd rfl (Or.inl rfl)) (pgs_cons (pg_name (i := 3) scSM.nd rfl (Or.inl rfl)) pgs_nil))))
(pss_one (ps_ret (pe_make MM GM (hr.mono (by decide)) rfl (by exact T.gS) bM .nil passF (pa_cons (pe_op op_mulW (pe_fld (pv 0) rfl) (pv 2)) (pa_cons (pe_op op_mulW (pe_fld (pv 0) rfl) (pv 3)) pa_nil))))), ?_⟩
    refine ⟨_, rfl, y, u, v, rfl, hy, fun q hq => ⟨q, _, rfl, .inl (.inl upd_same), rfl, _, _, rfl, _, _, rfl, rfl, ?_⟩⟩
    have s1 := Same.new (o := .tup [.int u, .int v]) hq
    obtain ⟨dx, hp1⟩ := hp.same s1
    refine ⟨_, rfl, p, C, dx, _, _, rfl, hp1, T.cl, T.nT, sf_t t b, _, rfl, _, _, rfl, rfl, mul_w bt bu,
      _, rfl, p, C, dx, _, _, rfl, hp1, T.cl, T.nB, sf_b t b, _, rfl, _, _, rfl, rfl, mul_w bb bv, made (mul_8 bt bu) (mul_8 bb bv) h0 fun r H' hr' s2 sh => k r H' (s1.free hr') (s1.trans s2) sh⟩
theorem ok_SO {f : Addr} {fd : FuncData} (F : Fun K "over" "Share.over" sSO f fd) (T : TxtS K mg C) (CP : Cl P w K mg base 1 "parts_of" (spPO C)) (M : MadeS P w K mg base C CE) :
    FnOk P w K mg base CX0 5 f fd ["self", "other"] (spOp C (fun _ b u _ => b * u ≠ 0) (fun t _ _ v => t * v) (fun _ b u _ => b * u)) := by
  obtain ⟨fm, fdm, MM, GM, bM⟩ := M
  refine F.ok scSO (fun vs H Q E h => ?_) (fun cdv A outer s H vs Q E hr h => ?_)
  · obtain ⟨p, y, t, b, u, v, rfl, _⟩ := h
    rfl
  · obtain ⟨p, y, t, b, u, v, rfl, hp, hy, bt, bb, bu, bv, h0, k⟩ := h
    refine ⟨_, pss_cons (ps_asg (pe_cl CP hr (by decide) rfl (pa_cons (pv 1) pa_nil)) (pg_tup (by rfl) (pgs_cons (pg_name (i := 2) scSO.nd rfl (Or.inl rfl)) (pgs_cons (pg_name (i := 3) scSO.nd rfl (Or.inl rfl)) pgs_nil))))
(pss_one (ps_ret (pe_make MM GM (hr.mono (by decide)) rfl (by exact T.gS) bM .nil passF (pa_cons (pe_op op_mulW (pe_fld (pv 0) rfl) (pv 3)) (pa_cons (pe_op op_mulW (pe_fld (pv 0) rfl) (pv 2)) pa_nil))))), ?_⟩
    refine ⟨_, rfl, y, u, v, rfl, hy, fun q hq => ⟨q, _, rfl, .inl (.inl upd_same), rfl, _, _, rfl, _, _, rfl, rfl, ?_⟩⟩
    have s1 := Same.new (o := .tup [.int u, .int v]) hq
    obtain ⟨dx, hp1⟩ := hp.same s1
    refine ⟨_, rfl, p, C, dx, _, _, rfl, hp1, T.cl, T.nT, sf_t t b, _, rfl, _, _, rfl, rfl, mul_w bt bv,
      _, rfl, p, C, dx, _, _, rfl, hp1, T.cl, T.nB, sf_b t b, _, rfl, _, _, rfl, rfl, mul_w bb bu, made (mul_8 bt bv) (mul_8 bb bu) h0 fun r H' hr' s2 sh => k r H' (s1.free hr') (s1.trans s2) sh⟩
theorem ok_SC {f : Addr} {fd : FuncData} (F : Fun K "compared" "Share.compared" sSC f fd) (T : TxtS K mg C) (CP : Cl P w K mg base 1 "parts_of" (spPO C)) :
    FnOk P w K mg base CX0 2 f fd ["self", "other"] (spCm C V.int) := by
  refine F.ok scSC (fun vs H Q E h => ?_) (fun cdv A outer s H vs Q E hr h => ?_)
  · obtain ⟨p, y, t, b, u, v, rfl, _⟩ := h
    rfl
  · obtain ⟨p, y, t, b, u, v, rfl, hp, hy, bt, bb, bu, bv, k⟩ := h
    refine ⟨_, pss_cons (ps_asg (pe_cl CP hr (by decide) rfl (pa_cons (pv 1) pa_nil)) (pg_tup (by rfl) (pgs_cons (pg_name (i := 2) scSC.nd rfl (Or.inl rfl)) (pgs_cons (pg_name (i := 3) scSC.nd rfl (Or.inl rfl)) pgs_nil))))
(pss_one (ps_ret (pe_op op_sub (pe_op op_mulW (pe_fld (pv 0) rfl) (pv 3)) (pe_op op_mulW (pv 2) (pe_fld (pv 0) rfl))))), ?_⟩
    refine ⟨_, rfl, y, u, v, rfl, hy, fun q hq => ⟨q, _, rfl, .inl (.inl upd_same), rfl, _, _, rfl, _, _, rfl, rfl, ?_⟩⟩
    have s1 := Same.new (o := .tup [.int u, .int v]) hq
    obtain ⟨dx, hp1⟩ := hp.same s1
    exact ⟨_, rfl, p, C, dx, _, _, rfl, hp1, T.cl, T.nT, sf_t t b, _, rfl, _, _, rfl, rfl, mul_w bt bv, _, rfl, _, rfl, p, C, dx, _, _, rfl, hp1, T.cl, T.nB, sf_b t b, _, _, rfl, rfl, mul_w bu bb, _, _, rfl, rfl, k _ s1⟩
theorem ok_SU {f fC : Addr} {fd fdC : FuncData} (F : Fun K "under" "Share.under" sSU f fd) (T : TxtS K mg C) (MC : Meth K C "compared" fC) (GC : FnOk P w K mg base CX0 2 fC fdC ["self", "other"] (spCm C V.int)) (bC : Binds K fdC ["self", "other"] []) :
    FnOk P w K mg base CX0 3 f fd ["self", "other"] (spCm C fun i => .bl (decide (i < 0))) := by
  refine F.ok scSU (fun vs H Q E h => ?_) (fun cdv A outer s H vs Q E hr h => ?_)
  · obtain ⟨p, y, t, b, u, v, rfl, _⟩ := h
    rfl
  · obtain ⟨p, y, t, b, u, v, rfl, hp, hy, bt, bb, bu, bv, k⟩ := h
    obtain ⟨dx, hp1⟩ := id hp
    refine ⟨_, pss_one (ps_ret (pe_cmpR op_lt (pe_meth (pv 0) T.cl MC GC hr bC .nil pass0 (pa_cons (pv 1) pa_nil)) pe_int (nomark _))), ?_⟩
    exact ⟨_, rfl, p, dx, _, rfl, hp1, sf_no t b (by decide +kernel) (by decide +kernel), _, rfl, p, y, t, b, u, v, rfl, hp, hy, bt, bb, bu, bv, fun H' s' => ⟨_, _, rfl, rfl, k H' s'⟩⟩
theorem ok_SL {f fC : Addr} {fd fdC : FuncData} (F : Fun K "at_most" "Share.at_most" sSL f fd) (T : TxtS K mg C) (MC : Meth K C "compared" fC) (GC : FnOk P w K mg base CX0 2 fC fdC ["self", "other"] (spCm C V.int)) (bC : Binds K fdC ["self", "other"] []) :
    FnOk P w K mg base CX0 3 f fd ["self", "other"] (spCm C fun i => .bl (decide (i ≤ 0))) := by
  refine F.ok scSL (fun vs H Q E h => ?_) (fun cdv A outer s H vs Q E hr h => ?_)
  · obtain ⟨p, y, t, b, u, v, rfl, _⟩ := h
    rfl
  · obtain ⟨p, y, t, b, u, v, rfl, hp, hy, bt, bb, bu, bv, k⟩ := h
    obtain ⟨dx, hp1⟩ := id hp
    refine ⟨_, pss_one (ps_ret (pe_cmpR op_le (pe_meth (pv 0) T.cl MC GC hr bC .nil pass0 (pa_cons (pv 1) pa_nil)) pe_int (nomark _))), ?_⟩
    exact ⟨_, rfl, p, dx, _, rfl, hp1, sf_no t b (by decide +kernel) (by decide +kernel), _, rfl, p, y, t, b, u, v, rfl, hp, hy, bt, bb, bu, bv, fun H' s' => ⟨_, _, rfl, rfl, k H' s'⟩⟩
theorem ok_In (D : DefAt K mg "is_integer" sIn) (T : TxtS K mg C) : Cl P w K mg base 1 "is_integer" spIn := by
  refine cl_of D scIn (fun vs H Q E h => ?_) (fun _ _ _ _ _ _ us hl => match us, hl with | [_], _ => rfl) (fun f cdv A outer s H vs Q E hr h => ?_)
  · obtain ⟨y, rfl, _⟩ := h
    rfl
  · obtain ⟨y, rfl, hy, k⟩ := h
    refine ⟨_, pss_one (ps_ret (pe_and (pe_callB call_isi (by rfl) (by exact T.isi) (by decide +kernel) (pa_cons (pv 0) (pa_cons (pe_bltn rfl (by exact T.gI) (by decide +kernel) (v := .ty "int") rfl) pa_nil))) (pe_one (pe_not (pe_callB call_isi (by rfl) (by exact T.isi) (by decide +kernel) (pa_cons (pv 0) (pa_cons (pe_bltn rfl (by exact T.gO) (by decide +kernel) (v := .ty "bool") rfl) pa_nil))))))), ?_⟩
    rcases hy with ⟨i, rfl⟩ | ⟨b, rfl⟩ | ⟨z, rfl⟩
    · refine ⟨_, rfl, _, _, _, _, true, rfl, .ty "int", .base (.int i), kit_ty (by decide +kernel), true, rfl, ?_⟩
      refine (if_pos rfl).mpr ?_
      exact ⟨_, rfl, _, _, _, _, false, rfl, .ty "bool", .base (.int i), kit_ty (by decide +kernel), false, rfl, k⟩
    · refine ⟨_, rfl, _, _, _, _, true, rfl, .ty "int", .base (.bl b), kit_ty (by decide +kernel), true, rfl, ?_⟩
      refine (if_pos rfl).mpr ?_
      exact ⟨_, rfl, _, _, _, _, true, rfl, .ty "bool", .base (.bl b), kit_ty (by decide +kernel), true, rfl, k⟩
    · refine ⟨_, rfl, _, _, _, _, false, rfl, .ty "int", .base (.str z), kit_ty (by decide +kernel), false, rfl, ?_⟩
      exact (if_neg (by decide)).mpr k
theorem ok_SE {f : Addr} {fd : FuncData} (F : Fun K "__eq__" "Share.__eq__" sSE f fd) (T : TxtS K mg C) (CI : Cl P w K mg base 1 "is_integer" spIn) : FnOk P w K mg base CX0 2 f fd ["self", "other"] (spSE C) := by
  refine F.ok scSE (fun vs H Q E h => ?_) (fun cdv A outer s H vs Q E hr h => ?_)
  · obtain ⟨p, y, t, b, rfl, _⟩ := h
    rfl
  · obtain ⟨p, y, t, b, rfl, hp, hy⟩ := h
    obtain ⟨dx, hp1⟩ := id hp
    refine ⟨_, pss_cons (ps_if (pt_val (pe_callB call_isi (by rfl) (by exact T.isi) (by decide +kernel) (pa_cons (pv 1) (pa_cons (pe_glob rfl (by exact T.gS) (v := .ref C) rfl) pa_nil))))
(pss_one (ps_ret (pe_and (pe_cmpR op_eq (pe_fld (pv 0) rfl) (pe_fld (pv 1) rfl) (nomark _)) (pe_one (pe_cmpR op_eq (pe_fld (pv 0) rfl) (pe_fld (pv 1) rfl) (nomark _))))))
pss_nil)
(pss_one (ps_ret (pe_and (pe_cl CI hr (by decide) rfl (pa_cons (pv 1) pa_nil)) (pe_and (pe_cmpR op_eq (pe_fld (pv 0) rfl) pe_int (nomark _)) (pe_one (pe_cmpR op_eq (pe_fld (pv 0) rfl) (pv 1) (nomark _))))))), ?_⟩
    rcases hy with ⟨q, u, v, rfl, hq, k⟩ | ⟨i, rfl, k⟩ | ⟨hy, k⟩
    · obtain ⟨dy, hq1⟩ := id hq
      refine ⟨_, rfl, _, _, _, _, _, rfl, .own C, T.ty hq, kit_self, _, rfl, ?_⟩
      refine iteT ?_
      refine ⟨_, rfl, p, C, dx, _, _, rfl, hp1, T.cl, T.nT, sf_t t b, _, rfl, q, C, dy, _, _, rfl, hq1, T.cl, T.nT, sf_t u v, rfl, _, rfl, ?_⟩
      refine ite2 (fun h1 => ?_) (fun h1 => ?_)
      · have h1 : t = u := V.int.inj (of_decide_eq_true h1)
        refine ⟨_, rfl, p, C, dx, _, _, rfl, hp1, T.cl, T.nB, sf_b t b, _, rfl, q, C, dy, _, _, rfl, hq1, T.cl, T.nB, sf_b u v, rfl, ?_⟩
        have e : decide (V.int b = V.int v) = (decide (t = u) && decide (b = v)) := by
          rw [decide_eq_true h1, Bool.true_and]
          by_cases h : b = v
          · rw [h]; simp
          · rw [decide_eq_false h, decide_eq_false fun z => h (V.int.inj z)]
        rw [← e] at k
        exact k
      · have h1 : ¬ t = u := fun z => h1 (decide_eq_true (by rw [z]))
        rw [decide_eq_false h1, Bool.false_and] at k
        exact k
    · refine ⟨_, rfl, _, _, _, _, _, rfl, .own C, .base (.int i), T.kI, _, rfl, ?_⟩
      refine iteF ?_
      refine ⟨_, rfl, _, rfl, .inl ⟨i, rfl⟩, true, rfl, ?_⟩
      refine (if_pos rfl).mpr ?_
      refine ⟨_, rfl, p, C, dx, _, _, rfl, hp1, T.cl, T.nB, sf_b t b, rfl, _, rfl, ?_⟩
      refine ite2 (fun h1 => ?_) (fun h1 => ?_)
      · have h1 : b = 1 := V.int.inj (of_decide_eq_true h1)
        refine ⟨_, rfl, p, C, dx, _, _, rfl, hp1, T.cl, T.nT, sf_t t b, _, rfl, rfl, ?_⟩
        have e : decide (V.int t = V.int i) = (decide (b = 1) && decide (t = i)) := by
          rw [decide_eq_true h1, Bool.true_and]
          by_cases h : t = i
          · rw [h]; simp
          · rw [decide_eq_false h, decide_eq_false fun z => h (V.int.inj z)]
        rw [← e] at k
        exact k
      · have h1 : ¬ b = 1 := fun z => h1 (decide_eq_true (by rw [z]))
        rw [decide_eq_false h1, Bool.false_and] at k
        exact k
    · have hz : (∃ i, y = .int i) ∨ (∃ b, y = .bl b) ∨ ∃ s, y = .str s := .inr hy
      have hf : isIntV y = false := by rcases hy with ⟨k, rfl⟩ | ⟨z, rfl⟩ <;> rfl
      have ty : ∃ t, TyX K H y t ∧ PySem.W.kitOne K t (.ref C) = some false := by
        rcases hy with ⟨k, rfl⟩ | ⟨z, rfl⟩
        · exact ⟨_, .base (.bl k), T.kB⟩
        · exact ⟨_, .base (.str z), T.kT⟩
      obtain ⟨tt, ht, hk⟩ := ty
      refine ⟨_, rfl, _, _, _, _, _, rfl, .own C, ht, hk, _, rfl, ?_⟩
      refine iteF ?_
      refine ⟨_, rfl, y, rfl, hz, isIntV y, rfl, ?_⟩
      rw [hf]
      exact (if_neg (by decide)).mpr k
end
end Wq
set_option Elab.async false
set_option linter.all false
set_option maxRecDepth 100000
set_option maxHeartbeats 2000000
set_option exponentiation.threshold 9000
namespace Wq
open PySem PySem.Spec PyProof.Rows L2
open SX (S S_len S_cat S_beq_eq)
/-- the text of an integer -/
def dg (n : Int) : List Nat := if n < 0 then 45 :: TL.numL n.natAbs else TL.numL n.natAbs
theorem dg_neg {n : Int} (h : n < 0) : dg n = 45 :: TL.numL n.natAbs := if_pos h
theorem dg_pos {n : Int} (h : ¬ n < 0) : dg n = TL.numL n.natAbs := if_neg h
def Bt (n : Int) : Prop := n.natAbs < 2 ^ 1900
theorem num_len {n : Nat} (h : n < 2 ^ 1900) : (TL.numL n).length ≤ 600 := TL.numL_len (by decide) (Nat.lt_of_lt_of_le h (by decide +kernel))
theorem dg_len {n : Int} (h : Bt n) : (dg n).length ≤ 601 := by
  have := num_len h
  unfold dg
  split
  · rw [List.length_cons]; omega
  · omega
abbrev sTN : Stmt := top 9
abbrev sNF : Stmt := top 10
abbrev sEF : Stmt := top 18
theorem scTN : FnScope ["number", "groups", "last"] ["number"] (defScope sTN) := ⟨rfl, rfl, rfl, by decide +kernel, rfl, by decide +kernel, by decide +kernel⟩
theorem scNF : FnScope ["figures", "many", "rest", "at"] ["figures"] (defScope sNF) := ⟨rfl, rfl, rfl, by decide +kernel, rfl, by decide +kernel, by decide +kernel⟩
theorem scEF : FnScope ["text", "begin", "at"] ["text", "begin"] (defScope sEF) := ⟨rfl, rfl, rfl, by decide +kernel, rfl, by decide +kernel, by decide +kernel⟩
theorem scSW : FnScope ["self"] ["self"] (defScope sSW) := ⟨rfl, rfl, rfl, by decide +kernel, rfl, by decide +kernel, by decide +kernel⟩
structure TxtT (mg : Str → Option Value) : Prop where
  str : mg "str" = none
  sb : ∃ t, mg "SHORT_BITS" = some (.int 10000 t)
  sg : ∃ t, mg "SHORT_FIGURES" = some (.int 3000 t)
  fg : ∃ t, mg "FIGURES" = some (.str (S [48, 49, 50, 51, 52, 53, 54, 55, 56, 57]) t)
def spTP : Sp := fun vs H Q _ => ∃ n : Int, vs = [.int n] ∧ ¬ n < 0 ∧ Bt n ∧ Q (.str (S (dg n))) H
def spTN : Sp := fun vs H Q _ => ∃ n : Int, vs = [.int n] ∧ Bt n ∧ Q (.str (S (dg n))) H
def isD (c : Nat) : Bool := decide (48 ≤ c) && decide (c ≤ 57)
def spNF : Sp := fun vs H Q _ => ∃ a : List Nat, vs = [.str (S a)] ∧ a.all isD = true ∧ a ≠ [] ∧ a.length ≤ 600 ∧ Q (.int ((NumText.digitsVal a : Nat) : Int)) H
theorem pgi {X : Cx} {x : Str} {n : Int} {t : Tok} {pos : Pos} (hm : X.mg x = some (.int n t)) (hg : Gl X x := by rfl) (hd : (x == ("__debug__" : Str)) = false := by decide) : PE X (.Name x pos) (tC (.int n)) := pe_glob hg hm ⟨_, rfl⟩ hd
theorem pgs {X : Cx} {x : Str} {z : Str} {t : Tok} {pos : Pos} (hm : X.mg x = some (.str z t)) (hg : Gl X x := by rfl) (hd : (x == ("__debug__" : Str)) = false := by decide) : PE X (.Name x pos) (tC (.str z)) := pe_glob hg hm ⟨_, rfl⟩ hd
theorem bits_ok {n : Int} (h : Bt n) : (Builtin.Int.intBits n : Nat) ≤ 10000 := by
  have h2 : n.natAbs.log2 < 1900 := log_lt h (by decide)
  unfold Builtin.Int.intBits
  split <;> omega
section
variable {P : Program} {w : World} {K : PySem.W.Frag} {mg : Str → Option Value} {base : Heap} {C : Addr}
theorem ok_TP (D : DefAt K mg "told_number" sTN) (TT : TxtT mg) : Cl P w K mg base 1 "told_number" spTP := by
  obtain ⟨tb, hb⟩ := TT.sb
  refine cl_of D scTN (fun vs H Q E h => ?_) (fun _ _ _ _ _ _ us hl => match us, hl with | [_], _ => rfl) (fun f cdv A outer s H vs Q E hr h => ?_)
  · obtain ⟨n, rfl, _⟩ := h
    rfl
  · obtain ⟨n, rfl, h0, hB, k⟩ := h
    refine ⟨_, pss_cons (ps_if (pt_cmpR op_lt (pv 0) pe_int (nomark _)) pss_never pss_nil)
(pss_cons (ps_if (pt_cmpR op_le (pe_bits (pv 0)) (pgi (by exact hb)) (nomark _))
(pss_one (ps_ret (pe_callTy call_str_int (by rfl) (by exact TT.str) (by decide +kernel) (pa_cons (pv 0) pa_nil))))
pss_nil)
pss_never), ?_⟩
    refine ⟨_, rfl, _, _, rfl, rfl, _, rfl, ?_⟩
    refine (if_neg (by rw [decide_eq_false h0]; decide)).mpr ?_
    refine ⟨_, rfl, n, rfl, _, _, rfl, rfl, _, rfl, ?_⟩
    have hbt := bits_ok hB
    refine (if_pos (decide_eq_true (by omega))).mpr ?_
    refine ⟨_, rfl, n, rfl, by have := log_lt hB (by decide); omega, ?_⟩
    have e : (Str.ofString (toString n)) = S (dg n) := by
      rw [dg_pos h0]
      have e1 : n = ((n.natAbs : Nat) : Int) := by omega
      have e2 := SX.num_S n.natAbs
      rw [← e1] at e2
      exact e2
    show Q (.str (Str.ofString (toString n))) H
    rw [e]
    exact k
theorem ok_TN (D : DefAt K mg "told_number" sTN) (TT : TxtT mg) (CP : Cl P w K mg base 1 "told_number" spTP) : Cl P w K mg base 2 "told_number" spTN := by
  obtain ⟨tb, hb⟩ := TT.sb
  refine cl_of D scTN (fun vs H Q E h => ?_) (fun _ _ _ _ _ _ us hl => match us, hl with | [_], _ => rfl) (fun f cdv A outer s H vs Q E hr h => ?_)
  · obtain ⟨n, rfl, _⟩ := h
    rfl
  · obtain ⟨n, rfl, hB, k⟩ := h
    refine ⟨_, pss_cons (ps_if (pt_cmpR op_lt (pv 0) pe_int (nomark _))
(pss_one (ps_ret (pe_op op_add_str pe_str (pe_cl CP hr (by decide) rfl (pa_cons (pe_un un_neg (pv 0)) pa_nil)))))
pss_nil)
(pss_cons (ps_if (pt_cmpR op_le (pe_bits (pv 0)) (pgi (by exact hb)) (nomark _))
(pss_one (ps_ret (pe_callTy call_str_int (by rfl) (by exact TT.str) (by decide +kernel) (pa_cons (pv 0) pa_nil))))
pss_nil)
pss_never), ?_⟩
    refine ⟨_, rfl, _, _, rfl, rfl, _, rfl, ?_⟩
    refine ite2 (fun h0 => ?_) (fun h0 => ?_)
    · have h0 : n < 0 := of_decide_eq_true h0
      have hB2 : Bt (-n) := by unfold Bt; rw [Int.natAbs_neg]; exact hB
      refine ⟨_, rfl, _, rfl, -n, rfl, by omega, hB2, ?_⟩
      have hl := dg_len hB2
      refine ⟨S [45], _, rfl, rfl, by rw [S_len, S_len, sizeLine_eq]; show 1 + _ ≤ _; omega, ?_⟩
      rw [S_cat, dg_pos (by omega), Int.natAbs_neg]
      rw [dg_neg h0] at k
      exact k
    · have h0 : ¬ n < 0 := fun z => h0 (decide_eq_true z)
      refine ⟨_, rfl, n, rfl, _, _, rfl, rfl, _, rfl, ?_⟩
      have hbt := bits_ok hB
      refine (if_pos (decide_eq_true (by omega))).mpr ?_
      refine ⟨_, rfl, n, rfl, by have := log_lt hB (by decide); omega, ?_⟩
      have e : (Str.ofString (toString n)) = S (dg n) := by
        rw [dg_pos h0]
        have e1 : n = ((n.natAbs : Nat) : Int) := by omega
        have e2 := SX.num_S n.natAbs
        rw [← e1] at e2
        exact e2
      show Q (.str (Str.ofString (toString n))) H
      rw [e]
      exact k
theorem ok_NF (D : DefAt K mg "number_of" sNF) (T : Txt K mg) (TT : TxtT mg) : Cl P w K mg base 1 "number_of" spNF := by
  obtain ⟨tb, hb⟩ := TT.sg
  refine cl_of D scNF (fun vs H Q E h => ?_) (fun _ _ _ _ _ _ us hl => match us, hl with | [_], _ => rfl) (fun f cdv A outer s H vs Q E hr h => ?_)
  · obtain ⟨a, rfl, _⟩ := h
    rfl
  · obtain ⟨a, rfl, had, hne, hal, k⟩ := h
    refine ⟨_, pss_cons (ps_if (pt_cmpR op_le (pe_callB call_len_str (by rfl) (by exact T.len) PySem.boot_len (pa_cons (pv 0) pa_nil)) (pgi (by exact hb)) (nomark _))
(pss_one (ps_ret (pe_callTy call_int_str (by rfl) (by exact T.int) PyProof.Rows.boot_int (pa_cons (pv 0) pa_nil))))
pss_nil)
pss_never, ?_⟩
    refine ⟨_, rfl, _, rfl, by rw [S_len, sizeLine_eq]; omega, _, _, rfl, rfl, _, rfl, ?_⟩
    refine (if_pos (decide_eq_true (by rw [S_len]; omega))).mpr ?_
    exact ⟨_, rfl, S a, _, rfl, SX.int_S had hne (by omega), by rw [S_len]; omega, k⟩
/-- a share's text -/
def wr (t b : Int) : List Nat := if b = 1 then dg t else dg t ++ 47 :: dg b
def spSW (C : Addr) : Sp := fun vs H Q _ => ∃ (p : Addr) (t b : Int), vs = [.ref p] ∧ ShAt C H p t b ∧ Bt t ∧ Bt b ∧ Q (.str (S (wr t b))) H
theorem ok_SW {f : Addr} {fd : FuncData} (F : Fun K "written" "Share.written" sSW f fd) (T : TxtS K mg C) (CT : Cl P w K mg base 2 "told_number" spTN) : FnOk P w K mg base CX0 3 f fd ["self"] (spSW C) := by
  refine F.ok scSW (fun vs H Q E h => ?_) (fun cdv A outer s H vs Q E hr h => ?_)
  · obtain ⟨p, t, b, rfl, _⟩ := h
    rfl
  · obtain ⟨p, t, b, rfl, ⟨dx, hp⟩, bt, bb, k⟩ := h
    refine ⟨_, pss_cons (ps_if (pt_cmpR op_eq (pe_fld (pv 0) rfl) pe_int (nomark _))
(pss_one (ps_ret (pe_cl CT hr (by decide) rfl (pa_cons (pe_fld (pv 0) rfl) pa_nil))))
pss_nil)
(pss_one (ps_ret (pe_op op_add_str (pe_op op_add_str (pe_cl CT hr (by decide) rfl (pa_cons (pe_fld (pv 0) rfl) pa_nil)) pe_str) (pe_cl CT hr (by decide) rfl (pa_cons (pe_fld (pv 0) rfl) pa_nil))))), ?_⟩
    refine ⟨_, rfl, p, C, dx, _, _, rfl, hp, T.cl, T.nB, sf_b t b, rfl, _, rfl, ?_⟩
    refine ite2 (fun h1 => ?_) (fun h1 => ?_)
    · have h1 : b = 1 := V.int.inj (of_decide_eq_true h1)
      refine ⟨_, rfl, p, C, dx, _, _, rfl, hp, T.cl, T.nT, sf_t t b, t, rfl, bt, ?_⟩
      unfold wr at k
      rw [if_pos h1] at k
      exact k
    · have h1 : ¬ b = 1 := fun z => h1 (decide_eq_true (by rw [z]))
      have l1 := dg_len bt
      have l2 := dg_len bb
      refine ⟨_, rfl, p, C, dx, _, _, rfl, hp, T.cl, T.nT, sf_t t b, t, rfl, bt, S (dg t), S [47], rfl, rfl, by rw [S_len, S_len, sizeLine_eq]; show _ + 1 ≤ _; omega, ?_⟩
      rw [S_cat]
      refine ⟨_, rfl, p, C, dx, _, _, rfl, hp, T.cl, T.nB, sf_b t b, b, rfl, bb, _, _, rfl, rfl, ?_, ?_⟩
      · rw [S_len, S_len, List.length_append, sizeLine_eq]
        show _ + 1 + _ ≤ _
        omega
      · rw [S_cat]
        unfold wr at k
        rw [if_neg h1] at k
        rw [List.append_assoc]
        exact k
end
end Wq
set_option Elab.async false
set_option linter.all false
set_option maxRecDepth 100000
set_option maxHeartbeats 2000000
set_option exponentiation.threshold 9000
namespace Wq
open PySem PySem.Spec PyProof.Rows L2
open SX (S S_len S_cat S_beq_eq)
open Fr (cc nt nb)
/-! cuts of texts -/
theorem cut_S (l : List Nat) {i j : Nat} (h : i ≤ j) : cutS (S l) (some (i : Int)) (some (j : Int)) = S ((l.drop i).take (j - i)) := by
  unfold cutS
  rw [HT.sIx_nat, HT.sIx_nat, S_len]
  show S ((l.drop (min i l.length)).take (min j l.length - min i l.length)) = _
  congr 1
  by_cases hi : i ≤ l.length
  · rw [Nat.min_eq_left hi]
    by_cases hj : j ≤ l.length
    · rw [Nat.min_eq_left hj]
    · rw [Nat.min_eq_right (by omega), List.take_of_length_le (by rw [List.length_drop]; omega), List.take_of_length_le (by rw [List.length_drop]; omega)]
  · rw [Nat.min_eq_right (show l.length ≤ i by omega), List.drop_eq_nil_of_le (Nat.le_refl _), List.drop_eq_nil_of_le (by omega), List.take_nil, List.take_nil]
theorem cut_to (l : List Nat) (j : Nat) : cutS (S l) none (some (j : Int)) = S (l.take j) := by
  have e := cut_S l (Nat.zero_le j)
  rw [List.drop_zero, Nat.sub_zero] at e
  rw [← e]
  rfl
theorem cut_from (l : List Nat) (i : Nat) : cutS (S l) (some (i : Int)) none = S (l.drop i) := by
  unfold cutS
  rw [HT.sIx_nat, S_len]
  show S ((l.drop (min i l.length)).take (l.length - min i l.length)) = _
  congr 1
  by_cases hi : i ≤ l.length
  · rw [Nat.min_eq_left hi, List.take_of_length_le (by rw [List.length_drop]; omega)]
  · rw [Nat.min_eq_right (by omega), List.drop_eq_nil_of_le (Nat.le_refl _), List.drop_eq_nil_of_le (by omega), List.take_nil]
theorem dec_S (a b : List Nat) : decide (V.str (S a) = V.str (S b)) = decide (a = b) := by
  by_cases h : a = b
  · rw [h]; simp
  · rw [decide_eq_false h, decide_eq_false fun z => h (SX.S_inj (V.str.inj z))]
theorem take1 (l : List Nat) (i c : Nat) : ((l.drop i).take 1 = [c]) ↔ l[i]? = some c := by
  have e : (l.drop i)[0]? = l[i]? := by rw [List.getElem?_drop, Nat.add_zero]
  rw [← e]
  cases l.drop i with
  | nil => simp
  | cons a r => simp
/-! figures -/
def cnt : List Nat → Nat
  | [] => 0
  | c :: r => if isD c = true then cnt r + 1 else 0
theorem cnt_drop {l : List Nat} {i c : Nat} (h : l[i]? = some c) : cnt (l.drop i) = if isD c = true then cnt (l.drop (i + 1)) + 1 else 0 := by
  have hi := (List.getElem?_eq_some_iff.mp h).1
  have e : l.drop i = c :: l.drop (i + 1) := by
    rw [List.drop_eq_getElem_cons hi]
    congr 1
    exact (List.getElem?_eq_some_iff.mp h).2
  rw [e]
  rfl
theorem cnt_out {l : List Nat} {i : Nat} (h : l.length ≤ i) : cnt (l.drop i) = 0 := by
  rw [List.drop_eq_nil_of_le h]
  rfl
theorem cnt_le (l : List Nat) : cnt l ≤ l.length := by
  induction l with
  | nil => exact Nat.le_refl _
  | cons c r ih =>
    unfold cnt
    split
    · rw [List.length_cons]; omega
    · omega
theorem cnt_digits (l : List Nat) : (l.take (cnt l)).all isD = true := by
  induction l with
  | nil => rfl
  | cons c r ih =>
    unfold cnt
    by_cases h : isD c = true
    · rw [if_pos h, List.take_succ_cons, List.all_cons, h, ih]
      rfl
    · rw [if_neg h]
      rfl
/-- where the figures that begin at a place end -/
def eof (l : List Nat) (i : Nat) : Nat := if l[i]? = some 48 then i + 1 else i + cnt (l.drop i)
theorem eof_ge (l : List Nat) (i : Nat) : i ≤ eof l i := by
  unfold eof
  split <;> omega
theorem eof_le {l : List Nat} {i : Nat} (h : i ≤ l.length) : eof l i ≤ l.length := by
  unfold eof
  split
  · rename_i e
    have := (List.getElem?_eq_some_iff.mp e).1
    omega
  · have := cnt_le (l.drop i)
    rw [List.length_drop] at this
    omega
theorem eof_digits (l : List Nat) (i : Nat) : ((l.drop i).take (eof l i - i)).all isD = true := by
  unfold eof
  split
  · rename_i e
    have h := (take1 l i 48).mpr e
    have e2 : i + 1 - i = 1 := by omega
    rw [e2, h]
    decide
  · have e2 : i + cnt (l.drop i) - i = cnt (l.drop i) := by omega
    rw [e2]
    exact cnt_digits _
def spEF : Sp := fun vs H Q _ => ∃ (l : List Nat) (i : Nat), vs = [.str (S l), nI i] ∧ i ≤ l.length ∧ l.length ≤ 1000 ∧ Q (nI (eof l i)) H
section
variable {P : Program} {w : World} {K : PySem.W.Frag} {mg : Str → Option Value} {base : Heap} {C : Addr}
theorem fig_in (c : Nat) : decide (c ∈ ([48, 49, 50, 51, 52, 53, 54, 55, 56, 57] : List Nat)) = isD c := by
  unfold isD
  by_cases h : 48 ≤ c ∧ c ≤ 57
  · rw [decide_eq_true h.1, decide_eq_true h.2]
    refine decide_eq_true ?_
    have : c = 48 ∨ c = 49 ∨ c = 50 ∨ c = 51 ∨ c = 52 ∨ c = 53 ∨ c = 54 ∨ c = 55 ∨ c = 56 ∨ c = 57 := by omega
    rcases this with h | h | h | h | h | h | h | h | h | h <;> rw [h] <;> decide
  · have e : (decide (48 ≤ c) && decide (c ≤ 57)) = false := by
      by_cases h1 : 48 ≤ c
      · rw [decide_eq_false (show ¬ c ≤ 57 by omega), Bool.and_false]
      · rw [decide_eq_false h1, Bool.false_and]
    rw [e]
    refine decide_eq_false fun hm => ?_
    simp at hm
    omega
theorem ok_EF (D : DefAt K mg "end_of_figures" sEF) (T : Txt K mg) (TT : TxtT mg) : Cl P w K mg base 1 "end_of_figures" spEF := by
  obtain ⟨tf, hf⟩ := TT.fg
  refine cl_of D scEF (fun vs H Q E h => ?_) (fun _ _ _ _ _ _ us hl => match us, hl with | [_, _], _ => rfl) (fun f cdv A outer s H vs Q E hr h => ?_)
  · obtain ⟨l, i, rfl, _⟩ := h
    rfl
  · obtain ⟨l, i, rfl, hi, hl, k⟩ := h
    have hz : (S l).length ≤ sizeLine := by rw [S_len, sizeLine_eq]; omega
    refine ⟨_, pss_cons (ps_if (pt_cmpR op_eq (pe_slice sl_str (pv 0) (po_some (pv 1)) (po_some (pe_op op_add (pv 1) pe_int))) pe_str (nomark _))
(pss_one (ps_ret (pe_op op_add (pv 1) pe_int)))
pss_nil)
(pss_cons (ps_set (i := 2) scEF.nd rfl (Or.inl rfl) (pv 1))
(pss_cons (ps_while PassesOwn.never (PW.pt (pw_and (pt_cmpR op_lt (pv 2) (pe_callB call_len_str (by rfl) (by exact T.len) PySem.boot_len (pa_cons (pv 0) pa_nil)) (nomark _)) (pw_and1 (pt_cmpR op_in_str (pe_ix ix_str (pv 0) (pv 2) (fun _ _ => rfl)) (pgs (by exact hf)) rfl))))
(pss_one (ps_aug (i := 2) scEF.nd rfl (Or.inl rfl) pe_int ip_add)))
(pss_one (ps_ret (pv 2))))), ?_⟩
    have ec : cutS (S l) (some (i : Int)) (some ((i : Int) + 1)) = S ((l.drop i).take 1) := by
      have e := cut_S l (show i ≤ i + 1 by omega)
      have e1 : i + 1 - i = 1 := by omega
      rw [e1] at e
      exact e
    refine ⟨_, rfl, _, rfl, _, rfl, _, rfl, _, _, rfl, rfl, _, rfl, S l, rfl, hz, rfl, _, rfl, ?_⟩
    refine ite2 (fun hc => ?_) (fun hc => ?_)
    · have hc := of_decide_eq_true hc
      rw [ec] at hc
      have h48 : l[i]? = some 48 := (take1 l i 48).mp (SX.S_inj (V.str.inj hc))
      refine ⟨_, rfl, _, _, rfl, rfl, ?_⟩
      have e : eof l i = i + 1 := if_pos h48
      rw [e] at k
      exact k
    · have h48 : ¬ l[i]? = some 48 := fun z => hc (decide_eq_true (by rw [ec, (take1 l i 48).mpr z]; rfl))
      have ee : eof l i = i + cnt (l.drop i) := if_neg h48
      refine ⟨_, rfl, ?_⟩
      refine while_by (fun σ G => ∃ k : Nat, σ = [some (.str (S l)), some (nI i), some (nI (i + k))] ∧ G = H ∧ i + k ≤ l.length ∧ k + cnt (l.drop (i + k)) = cnt (l.drop i)) (fun σ G => match σ with | [_, _, some (.int y)] => l.length - y.toNat | _ => 0)
        ⟨0, rfl, rfl, by omega, by simp⟩ ?_ ?_
      · rintro σ G ⟨k', rfl, rfl, hk, hcn⟩
        refine ⟨_, rfl, _, rfl, _, rfl, hz, _, _, rfl, rfl, _, rfl, ?_⟩
        refine ite2 (fun hlt => ?_) (fun hlt => ?_)
        · have hlt : i + k' < l.length := by
            have := of_decide_eq_true hlt
            rw [S_len] at this
            omega
          obtain ⟨c, hcc⟩ : ∃ c, l[i + k']? = some c := ⟨l[i + k'], List.getElem?_eq_getElem hlt⟩
          refine ⟨_, rfl, _, rfl, S l, _, c, rfl, rfl, hz, atI_nat hcc, _, _, rfl, rfl, _, rfl, ?_⟩
          have ein : (!(Builtin.Str.occurrences (S [48, 49, 50, 51, 52, 53, 54, 55, 56, 57]) (⟨#[c]⟩ : Str) 0 (S [48, 49, 50, 51, 52, 53, 54, 55, 56, 57]).length 1).isEmpty) = isD c := by
            rw [← fig_in]
            exact SX.in_one _ c
          rw [ein]
          refine ite2 (fun hd => ?_) (fun hd => ?_)
          · refine ⟨_, rfl, _, _, rfl, rfl, ?_⟩
            have ec := cnt_drop hcc
            rw [if_pos hd] at ec
            refine ⟨⟨k' + 1, rfl, rfl, by omega, ?_⟩, ?_⟩
            · rw [← Nat.add_assoc]
              omega
            · show l.length - ((((i + k' : Nat) : Int) + 1).toNat) < l.length - (((i + k' : Nat) : Int).toNat)
              omega
          · have ec := cnt_drop hcc
            rw [if_neg hd] at ec
            refine ⟨_, rfl, ?_⟩
            have e : i + k' = eof l i := by omega
            rw [e]
            exact k
        · have hge : ¬ i + k' < l.length := by
            intro z
            refine hlt (decide_eq_true ?_)
            rw [S_len]
            omega
          refine iteF ?_
          refine ⟨_, rfl, ?_⟩
          have := cnt_out (l := l) (i := i + k') (by omega)
          have e : i + k' = eof l i := by omega
          rw [e]
          exact k
      · intro σ G Q' Q'' hq h
        obtain ⟨v, h1, v0, h0, z, ez, hz, i1, j1, e1, e2, k', e3, h⟩ := h
        refine ⟨v, h1, v0, h0, z, ez, hz, i1, j1, e1, e2, k', e3, ?_⟩
        cases k' with
        | false =>
          have h : Q' false G := by simpa using h
          exact iteF (hq _ _ h)
        | true =>
          rw [if_pos rfl] at h
          refine iteT ?_
          obtain ⟨v2, h2, v3, h3, z2, i2, c2, f1, f2, f3, f4, i3, j3, f5, f6, k2, f7, h⟩ := h
          exact ⟨v2, h2, v3, h3, z2, i2, c2, f1, f2, f3, f4, i3, j3, f5, f6, k2, f7, hq _ _ h⟩
end
end Wq
set_option Elab.async false
set_option linter.all false
set_option maxRecDepth 100000
set_option maxHeartbeats 4000000
set_option exponentiation.threshold 9000
namespace Wq
open PySem PySem.Spec PyProof.Rows L2
open SX (S S_len S_cat S_beq_eq)
open Fr (cc nt nb)
def bgn (l : List Nat) : Nat := if l[0]? = some 45 then 1 else 0
def topOf (l : List Nat) : Int := if bgn l = 1 then -((NumText.digitsVal ((l.drop (bgn l)).take (eof l (bgn l) - bgn l)) : Nat) : Int) else ((NumText.digitsVal ((l.drop (bgn l)).take (eof l (bgn l) - bgn l)) : Nat) : Int)
/-- a text read: the wrong column, or top and bottom -/
def rdS (l : List Nat) : Nat ⊕ (Int × Int) :=
  if eof l (bgn l) = bgn l ∨ l.take 2 = [45, 48] then .inl (bgn l + 1) else
  if eof l (bgn l) = l.length then .inr (topOf l, 1) else
  if l[eof l (bgn l)]? ≠ some 47 then .inl (eof l (bgn l) + 1) else
  if eof l (eof l (bgn l) + 1) = eof l (bgn l) + 1 ∨ l[eof l (bgn l) + 1]? = some 48 then .inl (eof l (bgn l) + 2) else
  if eof l (eof l (bgn l) + 1) < l.length then .inl (eof l (eof l (bgn l) + 1) + 1) else .inr (topOf l, ((NumText.digitsVal (l.drop (eof l (bgn l) + 1)) : Nat) : Int))
theorem sw (l : List Nat) : Txt.startswith (S l) (S [45]) = decide (l[0]? = some 45) := by
  cases l with
  | nil => decide
  | cons c r =>
    unfold Txt.startswith Builtin.Str.subAt
    simp [Str.length]
    by_cases h : c = 45 <;> simp [h]
theorem dv_lt_aux : ∀ (l : List Nat) (a k : Nat), l.all isD = true → a < 10 ^ k → l.foldl (fun acc c => acc * 10 + (c - 48)) a < 10 ^ (k + l.length)
  | [], a, k, _, h => h
  | c :: r, a, k, hl, h => by
    rw [List.all_cons, Bool.and_eq_true] at hl
    have hc : c ≤ 57 := by
      have := hl.1
      unfold isD at this
      rw [Bool.and_eq_true, decide_eq_true_eq, decide_eq_true_eq] at this
      exact this.2
    have h2 : a * 10 + (c - 48) < 10 ^ (k + 1) := by rw [Nat.pow_succ]; omega
    have e := dv_lt_aux r (a * 10 + (c - 48)) (k + 1) hl.2 h2
    rw [List.foldl_cons, List.length_cons]
    have e2 : k + (r.length + 1) = k + 1 + r.length := by omega
    rw [e2]
    exact e
theorem dv_lt {l : List Nat} (h : l.all isD = true) : NumText.digitsVal l < 10 ^ l.length := by
  have e := dv_lt_aux l 0 0 h (by decide)
  rw [Nat.zero_add] at e
  exact e
theorem dv_pos_aux : ∀ (l : List Nat) (a : Nat), 0 < a → 0 < l.foldl (fun acc c => acc * 10 + (c - 48)) a
  | [], a, h => h
  | c :: r, a, h => by
    rw [List.foldl_cons]
    exact dv_pos_aux r _ (by omega)
theorem dv_pos {c : Nat} {r : List Nat} (h : 48 < c) : 0 < NumText.digitsVal (c :: r) := by
  show 0 < (c :: r).foldl _ 0
  rw [List.foldl_cons]
  exact dv_pos_aux r _ (by omega)
theorem big_ok {n k : Nat} (h : n < 10 ^ k) (hk : k ≤ 600) : n < 2 ^ 8000 := Nat.lt_of_lt_of_le h (Nat.le_trans (Nat.pow_le_pow_right (by decide) hk) (by decide +kernel))
abbrev sSH : Stmt := top 17
abbrev NSH : List Str := ["text", "begin", "stop", "top", "end"]
theorem scSH : FnScope NSH ["text"] (defScope sSH) := ⟨rfl, rfl, rfl, by decide +kernel, rfl, by decide +kernel, by decide +kernel⟩
def spSH (C CT : Addr) : Sp := fun vs H Q E => ∃ l : List Nat, vs = [.str (S l)] ∧ l.length ≤ 600 ∧ (∀ t b, rdS l = .inr (t, b) → b ≠ 0 → ∀ r H', H r = none → Same H H' → ShAt C H' r (nt t b) (nb t b) → Q (.ref r) H') ∧
  (∀ c, rdS l = .inl c → ∀ d H', Err2 H H' d [("column", nI c), ("line", .int 1)] → E (.ref CT) (some d) H')
section
variable {P : Program} {w : World} {K : PySem.W.Frag} {mg : Str → Option Value} {base : Heap} {C CE CT fT : Addr}
theorem passFx {X : Cx} {W : WX} (tk : Takes X W) : Passes (L2.CX X.prog X.w) X EF := passes_call tk (fun _ _ _ _ h => h.elim)
theorem ok_SH (D : DefAt K mg "share_of" sSH) (T : Txt K mg) (TS : TxtS K mg C) (TE : TxtE K mg CT fT "BadText" "line" "column") {fdT : FuncData} (GI : FnOk P w K mg base CX0 1 fT fdT ["self", "line", "column"] (spE2 CT "line" "column")) (bI : Binds K fdT ["self", "line", "column"] [])
    (CF : Cl P w K mg base 1 "end_of_figures" spEF) (CN : Cl P w K mg base 1 "number_of" spNF)
    {fm : Addr} {fdm : FuncData} (MM : Mk K C fm) (GM : FnOk P w K mg base (L2.CX P w) 3 fm fdm ["self", "top", "bottom"] (spSI C CE)) (bM : Binds K fdm ["self", "top", "bottom"] []) {tk1 : Tok} (bD : Binds K fdm ["self", "top", "bottom"] [Value.int 1 tk1]) :
    Cle P w K mg base 5 "share_of" (spSH C CT) := by
  obtain ⟨f, fd, F, hm⟩ := D.ex
  refine ⟨f, fd, ["text"], F.okX scSH (fun vs H Q E h => ?_) (fun cdv A outer s H vs Q E hr h => ?_), hm, F.kp, F.binds fun _ _ _ _ _ _ us hl => match us, hl with | [_], _ => rfl⟩
  · obtain ⟨l, rfl, _⟩ := h
    rfl
  · obtain ⟨l, rfl, hl, k1, k2⟩ := h
    have hz : (S l).length ≤ sizeLine := by rw [S_len, sizeLine_eq]; omega
    refine ⟨_, pss_cons (ps_set (i := 1) scSH.nd rfl (Or.inl rfl) pe_int)
(C8.pss_cut (ps_if (pt_val (pe_bmS PySem.F.plainAttrs_str PySem.F.slot_str_startswith PySem.F.type_str_startswith mt_startswith (pv 0) (pa_cons pe_str pa_nil)))
(pss_one (ps_set (i := 1) scSH.nd rfl (Or.inl rfl) pe_int))
pss_nil)
(pss_cons (ps_set (i := 2) scSH.nd rfl (Or.inl rfl) (pe_cl CF hr (by decide) rfl (pa_cons (pv 0) (pa_cons (pv 1) pa_nil))))
(pss_cons (ps_if (PW.pt (pw_or (pt_cmpR op_eq (pv 2) (pv 1) (nomark _)) (pw_or1 (pt_cmpR op_eq (pe_slice sl_str (pv 0) po_none (po_some pe_int)) pe_str (nomark _)))))
(pss_one (ps_raise rfl (takes_of rfl rfl rfl rfl) (pmk_oex TE.ox TE.iC TE.tI GI (hr.mono (by decide)) bI .nil pass0 rfl (by exact TE.gC) (by exact (pa_cons pe_int (pa_cons (pe_op op_add (pv 1) pe_int) pa_nil))))))
pss_nil)
(pss_cons (ps_set (i := 3) scSH.nd rfl (Or.inl rfl) (pe_cl CN hr (by decide) rfl (pa_cons (pe_slice sl_str (pv 0) (po_some (pv 1)) (po_some (pv 2))) pa_nil)))
(C8.pss_cut (ps_if (pt_cmpR op_eq (pv 1) pe_int (nomark _))
(pss_one (ps_set (i := 3) scSH.nd rfl (Or.inl rfl) (pe_un un_neg (pv 3))))
pss_nil)
(pss_cons (ps_if (pt_cmpR op_eq (pv 2) (pe_callB call_len_str (by rfl) (by exact T.len) PySem.boot_len (pa_cons (pv 0) pa_nil)) (nomark _))
(pss_one (ps_ret (pe_make MM GM (hr.mono (by decide)) rfl (by exact TS.gS) bD (.cons ⟨tk1, rfl⟩ .nil : Vals [V.int 1] _) (passFx (takes_of rfl rfl rfl rfl)) (pa_cons (pv 3) pa_nil))))
pss_nil)
(pss_cons (ps_if (pt_cmpR op_ne (pe_ix ix_str (pv 0) (pv 2) (fun _ _ => rfl)) pe_str (nomark _))
(pss_one (ps_raise rfl (takes_of rfl rfl rfl rfl) (pmk_oex TE.ox TE.iC TE.tI GI (hr.mono (by decide)) bI .nil pass0 rfl (by exact TE.gC) (by exact (pa_cons pe_int (pa_cons (pe_op op_add (pv 2) pe_int) pa_nil))))))
pss_nil)
(pss_cons (ps_set (i := 4) scSH.nd rfl (Or.inl rfl) (pe_cl CF hr (by decide) rfl (pa_cons (pv 0) (pa_cons (pe_op op_add (pv 2) pe_int) pa_nil))))
(pss_cons (ps_if (PW.pt (pw_or (pt_cmpR op_eq (pv 4) (pe_op op_add (pv 2) pe_int) (nomark _)) (pw_or1 (pt_cmpR op_eq (pe_ix ix_str (pv 0) (pe_op op_add (pv 2) pe_int) (fun _ _ => rfl)) pe_str (nomark _)))))
(pss_one (ps_raise rfl (takes_of rfl rfl rfl rfl) (pmk_oex TE.ox TE.iC TE.tI GI (hr.mono (by decide)) bI .nil pass0 rfl (by exact TE.gC) (by exact (pa_cons pe_int (pa_cons (pe_op op_add (pv 2) pe_int) pa_nil))))))
pss_nil)
(pss_cons (ps_if (pt_cmpR op_lt (pv 4) (pe_callB call_len_str (by rfl) (by exact T.len) PySem.boot_len (pa_cons (pv 0) pa_nil)) (nomark _))
(pss_one (ps_raise rfl (takes_of rfl rfl rfl rfl) (pmk_oex TE.ox TE.iC TE.tI GI (hr.mono (by decide)) bI .nil pass0 rfl (by exact TE.gC) (by exact (pa_cons pe_int (pa_cons (pe_op op_add (pv 4) pe_int) pa_nil))))))
pss_nil)
(pss_one (ps_ret (pe_make MM GM (hr.mono (by decide)) rfl (by exact TS.gS) bM .nil (passFx (takes_of rfl rfl rfl rfl)) (pa_cons (pv 3) (pa_cons (pe_cl CN hr (by decide) rfl (pa_cons (pe_slice sl_str (pv 0) (po_some (pe_op op_add (pv 2) pe_int)) po_none) pa_nil)) pa_nil))))))))))))))), ?_⟩
    have hb1 : bgn l = 0 ∨ bgn l = 1 := by unfold bgn; split <;> simp
    have hbl : bgn l ≤ l.length := by
      unfold bgn
      split
      · rename_i h
        have := (List.getElem?_eq_some_iff.mp h).1
        omega
      · omega
    have ge1 := eof_ge l (bgn l)
    have le1 := eof_le hbl
    have dig1 := eof_digits l (bgn l)
    have hrd : rdS l = rdS l := rfl
    conv at hrd => rhs; unfold rdS
    have etop : ∀ σ3 : Option V, True := fun _ => trivial
    refine ⟨fun σ G => σ = [some (.str (S l)), some (nI (bgn l)), none, none, none] ∧ G = H, ?_, ?_⟩
    · refine ⟨_, rfl, rfl, S l, S [45], rfl, rfl, _, rfl, ?_⟩
      rw [sw]
      refine ite2 (fun h => ?_) (fun h => ?_)
      · have h := of_decide_eq_true h
        refine ⟨?_, rfl⟩
        rw [show bgn l = 1 from if_pos h]
        rfl
      · have h : ¬ l[0]? = some 45 := fun z => h (decide_eq_true z)
        refine ⟨?_, rfl⟩
        rw [show bgn l = 0 from if_neg h]
        rfl
    rintro σ G ⟨rfl, rfl⟩
    unfold topOf at hrd
    generalize hB : bgn l = b at *
    refine ⟨_, rfl, _, rfl, l, b, rfl, hbl, by omega, ?_⟩
    generalize hST : eof l b = st at *
    have out1 : ∀ c : Nat, rdS l = .inl c → ∀ a, G a = none → spE2 CT "line" "column" (.ref a :: ([V.int 1, nI c] ++ [])) (upd G a (exo a CT none)) (fun v H2 => v = .non ∧ ∃ (d : Addr) (fs : List (Str × V)), H2 a = some (exo a CT (some d)) ∧ H2 d = some (exd d fs) ∧ G d = none ∧ E (.ref CT) (some d) (upd (del H2 a) d (.xd fs))) (fun _ _ _ => False) := by
      intro c hc a ha
      refine ⟨a, _, _, rfl, upd_same, fun d hd hda => ⟨rfl, d, _, by rw [upd_ne hda.symm]; exact upd_same, upd_same, by rw [upd_ne hda] at hd; exact hd, ?_⟩⟩
      exact k2 c hc d _ (err2_heap ha hd hda)
    have e2 : cutS (S l) none (some 2) = S (l.take 2) := cut_to l 2
    refine ⟨_, rfl, _, rfl, rfl, _, rfl, ?_⟩
    refine ite2 (fun h1 => ?_) (fun h1 => ?_)
    · have h1 : st = b := Int.ofNat_inj.mp (V.int.inj (of_decide_eq_true h1))
      refine iteT ?_
      rw [if_pos (Or.inl h1)] at hrd
      exact ⟨_, rfl, _, _, rfl, rfl, (by show 2 ≤ 1000; decide), out1 (b + 1) hrd⟩
    have h1 : ¬ st = b := fun z => h1 (decide_eq_true (by rw [z]))
    refine ⟨_, rfl, _, rfl, S l, rfl, hz, rfl, _, rfl, ?_⟩
    refine ite2 (fun h2 => ?_) (fun h2 => ?_)
    · have h2 := of_decide_eq_true h2
      rw [e2] at h2
      have h2 : l.take 2 = [45, 48] := SX.S_inj (V.str.inj h2)
      rw [if_pos (Or.inr h2)] at hrd
      exact ⟨_, rfl, _, _, rfl, rfl, (by show 2 ≤ 1000; decide), out1 (b + 1) hrd⟩
    have h2 : ¬ l.take 2 = [45, 48] := fun z => h2 (decide_eq_true (by rw [e2, z]; rfl))
    rw [if_neg (fun z => z.elim h1 h2)] at hrd
    have hlen : ((l.drop b).take (st - b)).length = st - b := by rw [List.length_take, List.length_drop]; omega
    refine ⟨_, rfl, _, rfl, _, rfl, _, rfl, _, rfl, S l, rfl, hz, (l.drop b).take (st - b), by rw [cut_S l ge1]; rfl, dig1, (fun z => by rw [z] at hlen; simp at hlen; omega), by omega, ?_⟩
    have dlt := dv_lt dig1
    rw [hlen] at dlt
    generalize hT : NumText.digitsVal ((l.drop b).take (st - b)) = tv at *
    obtain ⟨tp, htp⟩ : ∃ tp : Int, tp = if b = 1 then -((tv : Nat) : Int) else ((tv : Nat) : Int) := ⟨_, rfl⟩
    rw [← htp] at hrd
    have tp8 : tp.natAbs < 2 ^ 8000 := by
      have e : tp.natAbs = tv := by rw [htp]; split <;> simp
      rw [e]
      exact big_ok dlt (by omega)
    refine ⟨fun σ G' => σ = [some (.str (S l)), some (nI b), some (nI st), some (.int tp), none] ∧ G' = G, ?_, ?_⟩
    · refine ⟨_, rfl, rfl, _, rfl, ?_⟩
      refine ite2 (fun h => ?_) (fun h => ?_)
      · have h : b = 1 := Int.ofNat_inj.mp (V.int.inj (of_decide_eq_true h))
        refine ⟨_, rfl, _, rfl, ?_⟩
        refine ⟨?_, rfl⟩
        rw [if_pos h] at htp
        rw [htp]
        rfl
      · have h : ¬ b = 1 := fun z => h (decide_eq_true (by rw [z]; rfl))
        refine ⟨?_, rfl⟩
        rw [if_neg h] at htp
        rw [htp]
        rfl
    rintro σ G' ⟨rfl, rfl⟩
    refine ⟨_, rfl, _, rfl, _, rfl, hz, rfl, _, rfl, ?_⟩
    refine ite2 (fun h3 => ?_) (fun h3 => ?_)
    · have h3 : st = l.length := by
        have := V.int.inj (of_decide_eq_true h3)
        rw [S_len] at this
        omega
      rw [if_pos h3] at hrd
      exact ⟨_, rfl, made (C := C) (CE := CE) (y := 1) tp8 (Nat.one_lt_two_pow (by decide)) (by decide) fun r H' hr' s2 sh => k1 tp 1 hrd (by decide) r H' hr' s2 sh⟩
    have h3 : ¬ st = l.length := by
      intro z
      refine h3 (decide_eq_true ?_)
      rw [S_len, z]
    rw [if_neg h3] at hrd
    have hst : st < l.length := by omega
    obtain ⟨c, hc⟩ : ∃ c, l[st]? = some c := ⟨l[st], List.getElem?_eq_getElem hst⟩
    have ec : decide (V.str (⟨#[c]⟩ : Str) = V.str "/") = decide (c = 47) := by
      have e := dec_S [c] [47]
      have e3 : decide ([c] = [47]) = decide (c = 47) := by
        by_cases h : c = 47
        · rw [h]; decide
        · rw [decide_eq_false h, decide_eq_false (fun z => h (by simpa using z))]
      rw [← e3, ← e]
      rfl
    refine ⟨_, rfl, _, rfl, S l, _, c, rfl, rfl, hz, atI_nat hc, rfl, _, rfl, ?_⟩
    refine ite2 (fun h4 => ?_) (fun h4 => ?_)
    · rw [ec] at h4
      have h4 : ¬ c = 47 := by
        intro z
        rw [decide_eq_true z] at h4
        cases h4
      rw [if_pos (by rw [hc]; intro z; exact h4 (Option.some.inj z))] at hrd
      exact ⟨_, rfl, _, _, rfl, rfl, (by show 2 ≤ 1000; decide), out1 (st + 1) hrd⟩
    have h4 : c = 47 := by
      rw [ec] at h4
      by_cases h : c = 47
      · exact h
      · exact absurd (by rw [decide_eq_false h]; rfl) h4
    rw [if_neg (by rw [hc, h4]; simp)] at hrd
    refine ⟨_, rfl, _, rfl, _, _, rfl, rfl, l, st + 1, rfl, by omega, by omega, ?_⟩
    have ge2 := eof_ge l (st + 1)
    have le2 := eof_le (l := l) (i := st + 1) (by omega)
    have dig2 := eof_digits l (st + 1)
    generalize hEN : eof l (st + 1) = en at *
    refine ⟨_, rfl, _, rfl, _, _, rfl, rfl, rfl, _, rfl, ?_⟩
    refine ite2 (fun h5 => ?_) (fun h5 => ?_)
    · have h5 : en = st + 1 := by
        have := V.int.inj (of_decide_eq_true h5)
        omega
      refine iteT ?_
      rw [if_pos (Or.inl h5)] at hrd
      exact ⟨_, rfl, _, _, rfl, rfl, (by show 2 ≤ 1000; decide), out1 (st + 2) hrd⟩
    have h5 : ¬ en = st + 1 := fun z => h5 (decide_eq_true (by rw [z]; rfl))
    have hst1 : st + 1 < l.length := by omega
    obtain ⟨c1, hc1⟩ : ∃ c, l[st + 1]? = some c := ⟨l[st + 1], List.getElem?_eq_getElem hst1⟩
    have ec1 : decide (V.str (⟨#[c1]⟩ : Str) = V.str "0") = decide (c1 = 48) := by
      have e := dec_S [c1] [48]
      have e3 : decide ([c1] = [48]) = decide (c1 = 48) := by
        by_cases h : c1 = 48
        · rw [h]; decide
        · rw [decide_eq_false h, decide_eq_false (fun z => h (by simpa using z))]
      rw [← e3, ← e]
      rfl
    have at1 : atI (S l).cps.toList ((st : Int) + 1) = some c1 := by
      have e : (st : Int) + 1 = ((st + 1 : Nat) : Int) := by omega
      rw [e]
      exact atI_nat hc1
    refine ⟨_, rfl, _, rfl, _, _, rfl, rfl, S l, _, c1, rfl, rfl, hz, at1, rfl, _, rfl, ?_⟩
    refine ite2 (fun h6 => ?_) (fun h6 => ?_)
    · rw [ec1] at h6
      have h6 := of_decide_eq_true h6
      rw [if_pos (Or.inr (by rw [hc1, h6]))] at hrd
      exact ⟨_, rfl, _, _, rfl, rfl, (by show 2 ≤ 1000; decide), out1 (st + 2) hrd⟩
    have h6 : ¬ c1 = 48 := fun z => h6 (by rw [ec1]; exact decide_eq_true z)
    rw [if_neg (fun z => z.elim h5 (fun y => h6 (by rw [hc1] at y; exact Option.some.inj y)))] at hrd
    refine ⟨_, rfl, _, rfl, _, rfl, hz, _, _, rfl, rfl, _, rfl, ?_⟩
    refine ite2 (fun h7 => ?_) (fun h7 => ?_)
    · have h7 : en < l.length := by
        have := of_decide_eq_true h7
        rw [S_len] at this
        omega
      rw [if_pos h7] at hrd
      exact ⟨_, rfl, _, _, rfl, rfl, (by show 2 ≤ 1000; decide), out1 (en + 1) hrd⟩
    have h7 : ¬ en < l.length := by
      intro z
      refine h7 (decide_eq_true ?_)
      rw [S_len]
      omega
    rw [if_neg h7] at hrd
    have hdl : (l.drop (st + 1)).length = l.length - (st + 1) := List.length_drop
    have hall : (l.drop (st + 1)).all isD = true := by
      rw [List.take_of_length_le (by omega)] at dig2
      exact dig2
    have hdr : l.drop (st + 1) = c1 :: l.drop (st + 1 + 1) := by
      rw [List.drop_eq_getElem_cons hst1]
      congr 1
      exact (List.getElem?_eq_some_iff.mp hc1).2
    have hc48 : 48 < c1 := by
      rw [hdr, List.all_cons, Bool.and_eq_true] at hall
      have := hall.1
      unfold isD at this
      rw [Bool.and_eq_true, decide_eq_true_eq] at this
      omega
    have hpos : 0 < NumText.digitsVal (l.drop (st + 1)) := by rw [hdr]; exact dv_pos hc48
    have hblt := dv_lt hall
    rw [hdl] at hblt
    have ecf : cutS (S l) (some ((st : Int) + 1)) none = S (l.drop (st + 1)) := cut_from l (st + 1)
    refine ⟨_, rfl, _, rfl, _, rfl, _, _, rfl, rfl, _, rfl, S l, rfl, hz, l.drop (st + 1), by rw [ecf]; rfl, hall, (fun z => by rw [hdr] at z; cases z), by omega, ?_⟩
    exact made (C := C) (CE := CE) tp8 (by rw [Int.natAbs_natCast]; exact big_ok hblt (by omega)) (by omega) fun r H' hr' s2 sh => k1 tp _ hrd (by omega) r H' hr' s2 sh
end
end Wq
set_option Elab.async false
set_option linter.all false
set_option maxRecDepth 100000
set_option maxHeartbeats 2000000
set_option exponentiation.threshold 9000
namespace Wq
open PySem PySem.Spec PyProof.Rows L2
open SX (S S_len S_cat S_beq_eq)
/-- only p is another one -/
def But (l : Addr) (H H' : Hp) : Prop := ∀ b o, H b = some o → b ≠ l → H' b = some o
theorem But.trans {l : Addr} {H H1 H2 : Hp} (a : But l H H1) (b : But l H1 H2) : But l H H2 := fun c o h n => b c o (a c o h n) n
theorem But.up (l : Addr) (H : Hp) (o : HO) : But l H (upd H l o) := fun b u h n => by rw [upd_ne n]; exact h
theorem But.same {l : Addr} {H H1 : Hp} (a : Same H H1) : But l H H1 := fun c o h _ => a c o h
abbrev sIg : Stmt := top 23
abbrev sIS : Stmt := top 24
theorem scIg : FnScope ["_law_pen_here", "_law_way"] ["_law_pen_here"] (defScope sIg) := ⟨rfl, rfl, rfl, by decide +kernel, rfl, by decide +kernel, by decide +kernel⟩
theorem scIS : FnScope ["_law_told", "_law_top", "_law_bottom", "_law_one", "_law_two"] ["_law_told", "_law_top", "_law_bottom"] (defScope sIS) := ⟨rfl, rfl, rfl, by decide +kernel, rfl, by decide +kernel, by decide +kernel⟩
def spIg : Sp := fun vs H Q _ => ∃ (p c : Addr) (m : Nat), vs = [.ref p] ∧ PenAt H p c m ∧ m < 1000000 ∧ ∀ (v : Int) (H' : Hp), v.natAbs < 2 ^ 60 → But p H H' → PenAt H' p c (m + 10) → Q (.int v) H'
def spIS (C : Addr) : Sp := fun vs H Q _ => ∃ (p : Addr) (t b T B : Int), vs = [.ref p, .int T, .int B] ∧ ShAt C H p t b ∧ 0 < b ∧ Bd t ∧ Bd b ∧ Bd T ∧ Bd B ∧ t * B = T * b ∧ Nat.gcd t.natAbs b.natAbs = 1 ∧ Q (.bl true) H
section
variable {P : Program} {w : World} {K : PySem.W.Frag} {mg : Str → Option Value} {base : Heap} {C : Addr}
theorem ok_Ig (D : DefAt K mg "_law_integer" sIg) (CD : Cl P w K mg base 1 "_law_draw" (spDraw K)) : Cl P w K mg base 2 "_law_integer" spIg := by
  refine cl_of D scIg (fun vs H Q E h => ?_) (fun _ _ _ _ _ _ us hl => match us, hl with | [_], _ => rfl) (fun f cdv A outer s H vs Q E hr h => ?_)
  · obtain ⟨p, c, m, rfl, _⟩ := h
    rfl
  · obtain ⟨p, c, m, rfl, HP, hm, k⟩ := h
    refine ⟨_, pss_cons (ps_set (i := 1) scIg.nd rfl (Or.inl rfl) (pe_cl CD hr (by decide) rfl (pa_cons (pv 0) (pa_cons pe_int pa_nil))))
(pss_cons (ps_if (pt_cmpR op_lt (pv 1) pe_int (nomark _))
(pss_one (ps_ret (pe_op op_sub (pe_cl CD hr (by decide) rfl (pa_cons (pv 0) (pa_cons pe_int pa_nil))) pe_int)))
pss_nil)
(pss_cons (ps_if (pt_cmpR op_eq (pv 1) pe_int (nomark _))
(pss_one (ps_ret (pe_op op_mul (pe_op op_mul (pe_op op_sub (pe_cl CD hr (by decide) rfl (pa_cons (pv 0) (pa_cons pe_int pa_nil))) pe_int) (pe_op op_add pe_int (pe_cl CD hr (by decide) rfl (pa_cons (pv 0) (pa_cons pe_int pa_nil))))) (pe_op op_add pe_int (pe_cl CD hr (by decide) rfl (pa_cons (pv 0) (pa_cons pe_int pa_nil)))))))
pss_nil)
(pss_one (ps_ret (pe_op op_mul (pe_op op_add (pe_op op_mul (pe_cl CD hr (by decide) rfl (pa_cons (pv 0) (pa_cons (pe_op op_pow pe_int pe_int) pa_nil))) (pe_op op_pow pe_int pe_int)) (pe_cl CD hr (by decide) rfl (pa_cons (pv 0) (pa_cons (pe_op op_pow pe_int pe_int) pa_nil)))) (pe_op op_sub pe_int (pe_op op_mul pe_int (pe_cl CD hr (by decide) rfl (pa_cons (pv 0) (pa_cons pe_int pa_nil)))))))))), ?_⟩
    refine ⟨_, rfl, p, c, m, _, rfl, HP, by omega, by decide, by decide, fun v1 o1 a1 b1 HP1 => ?_⟩
    have B1 := But.up p H o1
    generalize upd H p o1 = H1 at *
    refine ⟨_, rfl, _, _, rfl, rfl, _, rfl, ?_⟩
    refine ite2 (fun _ => ?_) (fun _ => ?_)
    · refine ⟨_, rfl, p, c, _, _, rfl, HP1, by omega, by decide, by decide, fun v2 o2 a2 b2 HP2 => ⟨_, _, rfl, rfl, ?_⟩⟩
      refine k _ _ ?_ (B1.trans (But.up p H1 o2)) (HP2.mono (by omega))
      have : (v2 - 6).natAbs < 100 := by omega
      exact Nat.lt_of_lt_of_le this (by decide)
    refine ⟨_, rfl, rfl, _, rfl, ?_⟩
    refine ite2 (fun _ => ?_) (fun _ => ?_)
    · refine ⟨_, rfl, p, c, _, _, rfl, HP1, by omega, by decide, by decide, fun v2 o2 a2 b2 HP2 => ⟨_, _, rfl, rfl, ?_⟩⟩
      have B2 := B1.trans (But.up p H1 o2)
      generalize upd H1 p o2 = H2 at *
      refine ⟨_, rfl, p, c, _, _, rfl, HP2, by omega, by decide, by decide, fun v3 o3 a3 b3 HP3 => ⟨_, _, rfl, rfl, _, _, rfl, rfl, .inl ⟨by omega, by omega⟩, ?_⟩⟩
      have B3 := B2.trans (But.up p H2 o3)
      generalize upd H2 p o3 = H3 at *
      refine ⟨_, rfl, p, c, _, _, rfl, HP3, by omega, by decide, by decide, fun v4 o4 a4 b4 HP4 => ⟨_, _, rfl, rfl, _, _, rfl, rfl, .inr ⟨by omega, by omega⟩, ?_⟩⟩
      refine k _ _ ?_ (B3.trans (But.up p H3 o4)) (HP4.mono (by omega))
      have h1 : (v2 - 4).natAbs ≤ 4 := by omega
      have h2 : (1 + v3).natAbs ≤ 9 := by omega
      have h3 : (1 + v4).natAbs ≤ 9 := by omega
      show ((v2 - 4) * (1 + v3) * (1 + v4)).natAbs < 2 ^ 60
      rw [Int.natAbs_mul, Int.natAbs_mul]
      exact Nat.lt_of_le_of_lt (Nat.mul_le_mul (Nat.mul_le_mul h1 h2) h3) (by decide)
    · refine ⟨_, rfl, _, _, rfl, rfl, ⟨by decide, by decide, by decide⟩, p, c, _, _, rfl, HP1, by omega, by decide, by decide, fun v2 o2 a2 b2 HP2 => ⟨_, _, rfl, rfl, ⟨by decide, by decide, by decide⟩, _, _, rfl, rfl, .inr ⟨by decide, by decide⟩, ?_⟩⟩
      have B2 := B1.trans (But.up p H1 o2)
      generalize upd H1 p o2 = H2 at *
      refine ⟨_, rfl, _, _, rfl, rfl, ⟨by decide, by decide, by decide⟩, p, c, _, _, rfl, HP2, by omega, by decide, by decide, fun v3 o3 a3 b3 HP3 => ⟨_, _, rfl, rfl, ?_⟩⟩
      have B3 := B2.trans (But.up p H2 o3)
      generalize upd H2 p o3 = H3 at *
      refine ⟨_, rfl, p, c, _, _, rfl, HP3, by omega, by decide, by decide, fun v4 o4 a4 b4 HP4 => ⟨_, _, rfl, rfl, .inl ⟨by decide, by decide⟩, _, _, rfl, rfl, _, _, rfl, rfl, .inr ⟨by omega, by omega⟩, ?_⟩⟩
      refine k _ _ ?_ (B3.trans (But.up p H3 o4)) (HP4.mono (by omega))
      have e9 : (10 : Int) ^ Int.toNat 9 = 1000000000 := by decide
      show ((v2 * 10 ^ Int.toNat 9 + v3) * (1 - 2 * v4)).natAbs < 2 ^ 60
      have b2' : v2 < 1000000000 := by rw [← e9]; exact b2
      have b3' : v3 < 1000000000 := by rw [← e9]; exact b3
      rw [e9, Int.natAbs_mul]
      have h1 : (v2 * 1000000000 + v3).natAbs ≤ 1000000000000000000 := by omega
      have h2 : (1 - 2 * v4).natAbs ≤ 1 := by omega
      exact Nat.lt_of_le_of_lt (Nat.mul_le_mul h1 h2) (by decide)
theorem ok_IS (D : DefAt K mg "_law_is_share" sIS) (T : Txt K mg) (TS : TxtS K mg C) (habs : mg "abs" = none) : Cl P w K mg base 1 "_law_is_share" (spIS C) := by
  refine cl_of D scIS (fun vs H Q E h => ?_) (fun _ _ _ _ _ _ us hl => match us, hl with | [_, _, _], _ => rfl) (fun f cdv A outer s H vs Q E hr h => ?_)
  · obtain ⟨p, t, b, T', B', rfl, _⟩ := h
    rfl
  · obtain ⟨p, t, b, T', B', rfl, hp, hb, bt, bb, bT, bB, hx, hg, k⟩ := h
    obtain ⟨dx, hp1⟩ := id hp
    refine ⟨_, pss_cons (ps_if (PW.pt (pw_or (pt_not (pt_val (pe_callB call_isi (by rfl) (by exact TS.isi) (by decide +kernel) (pa_cons (pv 0) (pa_cons (pe_glob rfl (by exact TS.gS) (v := .ref C) rfl) pa_nil))))) (pw_or (pt_cmpR op_lt (pe_fld (pv 0) rfl) pe_int (nomark _)) (pw_or1 (pt_cmpR op_ne (pe_op op_mulW (pe_fld (pv 0) rfl) (pv 2)) (pe_op op_mulW (pv 1) (pe_fld (pv 0) rfl)) (nomark _))))))
(pss_one (ps_ret pe_bl))
pss_nil)
(pss_cons (ps_par (i := 3) (j := 4) (by rfl) scIS.nd rfl rfl (by decide) rfl rfl  (pa_cons (pe_callB call_abs (by rfl) (by exact habs) (by decide +kernel) (pa_cons (pe_fld (pv 0) rfl) pa_nil)) (pa_cons (pe_fld (pv 0) rfl) pa_nil)) (by rfl))
(pss_cons (ps_while PassesOwn.never (pt_cmpR op_ne (pv 4) pe_int (nomark _))
(pss_one (ps_par (i := 3) (j := 4) (by rfl) scIS.nd rfl rfl (by decide) rfl rfl  (pa_cons (pv 4) (pa_cons (pe_op op_modN (pe_callTy call_int1 (by rfl) (by exact T.int) PyProof.Rows.boot_int (pa_cons (pv 3) pa_nil)) (pv 4)) pa_nil)) (by rfl))))
(pss_one (ps_ret (pe_cmpR op_eq (pv 3) pe_int (nomark _)))))), ?_⟩
    refine ⟨_, rfl, _, _, _, _, _, rfl, .own C, TS.ty hp, kit_self, _, rfl, ?_⟩
    refine iteF ?_
    refine ⟨_, rfl, p, C, dx, _, _, rfl, hp1, TS.cl, TS.nB, sf_b t b, _, _, rfl, rfl, _, rfl, ?_⟩
    refine (if_neg (by rw [decide_eq_false (show ¬ b < 1 by omega)]; decide)).mpr ?_
    refine ⟨_, rfl, p, C, dx, _, _, rfl, hp1, TS.cl, TS.nT, sf_t t b, _, rfl, _, _, rfl, rfl, mul_w bt bB, _, rfl, _, rfl, p, C, dx, _, _, rfl, hp1, TS.cl, TS.nB, sf_b t b, _, _, rfl, rfl, mul_w bT bb, rfl, _, rfl, ?_⟩
    have ex : decide (V.int (t * B') = V.int (T' * b)) = true := decide_eq_true (by rw [hx])
    refine (if_neg (show ¬ (!decide (V.int (t * B') = V.int (T' * b))) = true by rw [ex]; decide)).mpr ?_
    refine ⟨_, rfl, p, C, dx, _, _, rfl, hp1, TS.cl, TS.nT, sf_t t b, t, rfl, _, rfl, p, C, dx, _, _, rfl, hp1, TS.cl, TS.nB, sf_b t b, _, _, rfl, ?_⟩
    have ea : V.int (if t < 0 then -t else t) = nI t.natAbs := congrArg V.int (by split <;> omega)
    have eb : V.int b = nI b.natAbs := congrArg V.int (by omega)
    refine while_by (fun σ G => ∃ x y : Nat, σ = [some (.ref p), some (.int T'), some (.int B'), some (nI x), some (nI y)] ∧ G = H ∧ Nat.gcd x y = 1) (fun σ G => match σ with | [_, _, _, _, some (.int y)] => y.toNat | _ => 0)
      ⟨t.natAbs, b.natAbs, ?_, rfl, hg⟩ ?_ ?_
    · rw [← ea, ← eb]
      rfl
    · rintro σ G ⟨x, y, rfl, rfl, hxy⟩
      refine ⟨_, rfl, rfl, _, rfl, ?_⟩
      refine ite2 (fun h => ?_) (fun h => ?_)
      · have h : y ≠ 0 := by
          intro z
          rw [z] at h
          exact absurd h (by decide)
        refine ⟨_, rfl, _, rfl, .inl ⟨_, rfl, _, rfl, _, _, rfl, rfl, by omega, _, _, rfl, ?_⟩⟩
        have em : V.int (Int.fmod (x : Int) (y : Int)) = nI (x % y) := congrArg V.int (by
          rw [Int.fmod_eq_emod_of_nonneg _ (by omega)]
          rfl)
        refine ⟨⟨y, x % y, ?_, rfl, ?_⟩, ?_⟩
        · rw [← em]
          rfl
        · rw [Nat.gcd_comm, ← Nat.gcd_rec, Nat.gcd_comm]
          exact hxy
        · show (Int.fmod (x : Int) (y : Int)).toNat < ((y : Nat) : Int).toNat
          rw [V.int.inj em, Int.toNat_natCast, Int.toNat_natCast]
          exact Nat.mod_lt _ (by omega)
      · have h : y = 0 := by
          by_cases z : y = 0
          · exact z
          · exact absurd (show (!decide (nI y = V.int 0)) = true by rw [decide_eq_false (show ¬ nI y = V.int 0 from fun q => z (Int.ofNat_inj.mp (V.int.inj q)))]; rfl) h
        subst h
        rw [Nat.gcd_zero_right] at hxy
        subst hxy
        exact ⟨_, rfl, rfl, k⟩
    · intro σ G Q' Q'' hq h
      obtain ⟨v, h1, e1, k', e3, h⟩ := h
      exact ⟨v, h1, e1, k', e3, hq _ _ h⟩
end
end Wq
set_option Elab.async false
set_option linter.all false
set_option maxRecDepth 100000
set_option maxHeartbeats 2000000
set_option exponentiation.threshold 9000
namespace Wq
open PySem PySem.Spec PyProof.Rows L2
open SX (S S_len S_cat S_beq_eq)
def sgns (z : Str) : List V := z.cps.toList.map fun c => V.str ⟨#[c]⟩
theorem vals_sgns : ∀ (cs : List Nat) (vs : List Value), vs.length = cs.length → (∀ (j : Nat) (v : Value), vs[j]? = some v → ∃ c u, cs[j]? = some c ∧ v = .str ⟨#[c]⟩ u) → Vals (cs.map fun c => V.str ⟨#[c]⟩) vs
  | [], [], _, _ => .nil
  | [], _ :: _, h, _ => by cases h
  | _ :: _, [], h, _ => by cases h
  | c :: cs, v :: vs, h, k => by
    obtain ⟨c', u, e1, e2⟩ := k 0 v rfl
    have ec : c = c' := Option.some.inj e1
    subst ec e2
    exact .cons ⟨u, rfl⟩ (vals_sgns cs vs (by simpa using h) fun j v hv => k (j + 1) v hv)
/-- tuple(text) -/
theorem call_tupS {X : Cx} (hc : X.calm = true) : CallR X (.type "tuple") (fun xs H Q => ∃ z : Str, xs = [.str z] ∧ z.length ≤ sizeLine ∧ ∀ l, H l = none → Q (.ref l) (upd H l (.tup (sgns z)))) := by
  intro pins s σ H xs us Q I r h
  obtain ⟨z, rfl, hz, q⟩ := h
  obtain ⟨u, rfl, rx⟩ := vals1 r
  obtain ⟨t, rfl⟩ := rx
  refine call_tuple_str (I.ok.hd hc) z t (fun h' tk acc kp hacc => ?_) hz
  have I1 : Inv X pins σ H { s with heap := h', toks := tk } := I.kept (t' := tk) kp
  have hv : Vals (sgns z) acc.toList := by
    refine vals_sgns _ _ (by rw [Array.length_toList, Array.length_toList]; exact hacc.1) fun j v e => ?_
    rw [Array.getElem?_toList] at e
    obtain ⟨c, u, e1, e2⟩ := hacc.2 j v e
    exact ⟨c, u, by rw [Array.getElem?_toList]; exact e1, e2⟩
  have ha : acc.toList.toArray = acc := by simp
  have I2 : Inv X pins σ (upd H h'.objs.size (.tup (sgns z))) { s with heap := h'.push { cls := .type "tuple", data := .seq acc }, toks := tk } :=
    I1.laid (t' := tk) (fun b o e => Heap.get?_push_of_some _ e) (Nat.le_refl _) (show ObjOk X.prog X.w _ _ _ (.tup (sgns z)) from ⟨by unfold sgns; rw [List.length_map]; exact hz, acc.toList, hv, by rw [ha]; exact IsTup.new _ _⟩)
  exact ⟨.ref h'.objs.size, _, I2, rfl, q _ (I1.hok.fresh (Nat.le_refl _))⟩
end Wq
set_option Elab.async false
set_option linter.all false
set_option maxRecDepth 100000
set_option maxHeartbeats 4000000
set_option exponentiation.threshold 9000
namespace Wq
open PySem PySem.Spec PyProof.Rows L2
open SX (S S_len S_cat S_beq_eq)
/-- the column that the law tells -/
def wc (l : List Nat) : Nat := match rdS l with
  | .inl c => c
  | .inr _ => 0
def at1 (l : List Nat) (i : Nat) (p : Nat → Bool) : Bool := match l[i]? with
  | some c => p c
  | none => false
theorem in_sgns (l : List Nat) (i : Nat) (ds : List Nat) : inV (.str (S ((l.drop i).take 1))) (sgns (S ds)) = at1 l i fun c => decide (c ∈ ds) := by
  unfold inV sgns at1
  have e0 : (l.drop i)[0]? = l[i]? := by rw [List.getElem?_drop, Nat.add_zero]
  rw [← e0]
  have key : ∀ (a : List Nat) (c : Nat), eqV (.str ⟨#[c]⟩) (.str (S a)) = decide ([c] = a) := fun a c => by
    show ((S [c]) == (S a)) = _
    exact S_beq_eq
  cases l.drop i with
  | nil =>
    show List.any _ _ = false
    rw [List.any_eq_false]
    intro x hx
    obtain ⟨c, _, rfl⟩ := List.mem_map.mp hx
    rw [key]
    simp
  | cons d r =>
    show List.any _ _ = decide (d ∈ ds)
    by_cases h : d ∈ ds
    · rw [decide_eq_true h, List.any_eq_true]
      refine ⟨.str ⟨#[d]⟩, List.mem_map.mpr ⟨d, h, rfl⟩, ?_⟩
      rw [key]
      simp
    · rw [decide_eq_false h, List.any_eq_false]
      intro x hx
      obtain ⟨c, hc, rfl⟩ := List.mem_map.mp hx
      rw [key]
      simp
      intro z
      subst z
      exact h hc
theorem sgns_flat (z : Str) : (sgns z).all flatV = true := by
  rw [List.all_eq_true]
  intro x hx
  obtain ⟨c, _, rfl⟩ := List.mem_map.mp hx
  rfl
def isD1 (c : Nat) : Bool := decide (49 ≤ c) && decide (c ≤ 57)
theorem fig1_in (c : Nat) : decide (c ∈ ([49, 50, 51, 52, 53, 54, 55, 56, 57] : List Nat)) = isD1 c := by
  unfold isD1
  by_cases h : 49 ≤ c ∧ c ≤ 57
  · rw [decide_eq_true h.1, decide_eq_true h.2]
    refine decide_eq_true ?_
    have : c = 49 ∨ c = 50 ∨ c = 51 ∨ c = 52 ∨ c = 53 ∨ c = 54 ∨ c = 55 ∨ c = 56 ∨ c = 57 := by omega
    rcases this with h | h | h | h | h | h | h | h | h <;> rw [h] <;> decide
  · have e : (decide (49 ≤ c) && decide (c ≤ 57)) = false := by
      by_cases h1 : 49 ≤ c
      · rw [decide_eq_false (show ¬ c ≤ 57 by omega), Bool.and_false]
      · rw [decide_eq_false h1, Bool.false_and]
    rw [e]
    refine decide_eq_false fun hm => ?_
    simp at hm
    omega
theorem cut1 (l : List Nat) (i : Nat) : cutS (S l) (some (i : Int)) (some ((i : Int) + 1)) = S ((l.drop i).take 1) := by
  have e := cut_S l (show i ≤ i + 1 by omega)
  have e1 : i + 1 - i = 1 := by omega
  rw [e1] at e
  exact e
theorem inD (l : List Nat) (i : Nat) : inV (.str (cutS (S l) (some (i : Int)) (some ((i : Int) + 1)))) (sgns "0123456789") = at1 l i isD := by
  rw [cut1]
  have e := in_sgns l i [48, 49, 50, 51, 52, 53, 54, 55, 56, 57]
  have ef : (fun c => decide (c ∈ ([48, 49, 50, 51, 52, 53, 54, 55, 56, 57] : List Nat))) = isD := funext fig_in
  rw [ef] at e
  exact e
theorem inD1 (l : List Nat) (i : Nat) : inV (.str (cutS (S l) (some ((i : Int) + 1)) (some ((i : Int) + 2)))) (sgns "123456789") = at1 l (i + 1) isD1 := by
  have ec : cutS (S l) (some ((i : Int) + 1)) (some ((i : Int) + 2)) = S ((l.drop (i + 1)).take 1) := cut1 l (i + 1)
  rw [ec]
  have e := in_sgns l (i + 1) [49, 50, 51, 52, 53, 54, 55, 56, 57]
  have ef : (fun c => decide (c ∈ ([49, 50, 51, 52, 53, 54, 55, 56, 57] : List Nat))) = isD1 := funext fig1_in
  rw [ef] at e
  exact e
theorem at1_true {l : List Nat} {i : Nat} {p : Nat → Bool} (h : at1 l i p = true) : ∃ c, l[i]? = some c ∧ p c = true := by
  unfold at1 at h
  cases e : l[i]? with
  | none => rw [e] at h; cases h
  | some c => rw [e] at h; exact ⟨c, rfl, h⟩
theorem eof_stay {l : List Nat} {i : Nat} (h : at1 l i isD = false) : eof l i = i := by
  unfold at1 at h
  unfold eof
  cases e : l[i]? with
  | none =>
    rw [if_neg (by simp), cnt_out (List.getElem?_eq_none_iff.mp e)]
    rfl
  | some c =>
    rw [e] at h
    have h : isD c = false := h
    rw [cnt_drop e, if_neg (show ¬ isD c = true by rw [h]; decide), if_neg (by intro z; rw [Option.some.inj z] at h; exact absurd h (by decide))]
    rfl
theorem eof_go {l : List Nat} {i c : Nat} (e : l[i]? = some c) (h : isD c = true) : eof l i = if c = 48 then i + 1 else i + 1 + cnt (l.drop (i + 1)) := by
  unfold eof
  rw [e, cnt_drop e, if_pos h]
  by_cases hc : c = 48
  · rw [if_pos hc, if_pos (by rw [hc])]
  · rw [if_neg hc, if_neg (fun z => hc (Option.some.inj z))]
    omega
theorem dec1 (c d : Nat) (t : Str) (ht : t = S [d]) : decide (V.str (⟨#[c]⟩ : Str) = V.str t) = decide (c = d) := by
  rw [ht]
  have e := dec_S [c] [d]
  have e3 : decide ([c] = [d]) = decide (c = d) := by
    by_cases h : c = d
    · rw [h]; simp
    · rw [decide_eq_false h, decide_eq_false (fun z => h (by simpa using z))]
  rw [← e3, ← e]
theorem take2 (l : List Nat) : l.take 2 = [45, 48] ↔ l[0]? = some 45 ∧ l[1]? = some 48 := by
  match l with
  | [] => simp
  | [a] => simp
  | a :: b :: r => simp
abbrev sWC : Stmt := top 25
theorem scWC : FnScope ["_law_text", "_law_at", "_law_end"] ["_law_text"] (defScope sWC) := ⟨rfl, rfl, rfl, by decide +kernel, rfl, by decide +kernel, by decide +kernel⟩
def spWC : Sp := fun vs H Q _ => ∃ l : List Nat, vs = [.str (S l)] ∧ l.length ≤ 600 ∧ ∀ H', Same H H' → Q (nI (wc l)) H'
section
variable {P : Program} {w : World} {K : PySem.W.Frag} {mg : Str → Option Value} {base : Heap} {C : Addr}
theorem ok_WC (D : DefAt K mg "_law_wrong_column" sWC) (T : Txt K mg) : Cl P w K mg base 1 "_law_wrong_column" spWC := by
  refine cl_of D scWC (fun vs H Q E h => ?_) (fun _ _ _ _ _ _ us hl => match us, hl with | [_], _ => rfl) (fun f cdv A outer s H vs Q E hr h => ?_)
  · obtain ⟨l, rfl, _⟩ := h
    rfl
  · obtain ⟨l, rfl, hl, k⟩ := h
    have hz : (S l).length ≤ sizeLine := by rw [S_len, sizeLine_eq]; omega
    refine ⟨_, pss_cons (ps_set (i := 1) scWC.nd rfl (Or.inl rfl) (pe_callTy call_int1 (by rfl) (by exact T.int) PyProof.Rows.boot_int (pa_cons (pe_cmpR op_eq (pe_slice sl_str (pv 0) po_none (po_some pe_int)) pe_str (nomark _)) pa_nil)))
(C8.pss_cut (ps_if (PW.pt (pw_or (pt_cmpR op_notIn_seq (pe_slice sl_str (pv 0) (po_some (pv 1)) (po_some (pe_op op_add (pv 1) pe_int))) (pe_callTy (call_tupS rfl) (by rfl) (by exact T.tuple) (by decide +kernel) (pa_cons pe_str pa_nil)) rfl) (pw_or1 (PW.pt (pw_and (pt_cmpR op_eq (pv 1) pe_int (nomark _)) (pw_and1 (pt_cmpR op_eq (pe_ix ix_str (pv 0) pe_int (fun _ _ => rfl)) pe_str (nomark _))))))))
(pss_one (ps_ret (pe_op op_add (pv 1) pe_int)))
pss_nil)
(pss_cons (ps_set (i := 2) scWC.nd rfl (Or.inl rfl) (pe_op op_add (pv 1) pe_int))
(C8.pss_cut (ps_while PassesOwn.never (PW.pt (pw_and (pt_cmpR op_ne (pe_ix ix_str (pv 0) (pv 1) (fun _ _ => rfl)) pe_str (nomark _)) (pw_and (pt_cmpR op_lt (pv 2) (pe_callB call_len_str (by rfl) (by exact T.len) PySem.boot_len (pa_cons (pv 0) pa_nil)) (nomark _)) (pw_and1 (pt_cmpR op_in_str (pe_ix ix_str (pv 0) (pv 2) (fun _ _ => rfl)) pe_str rfl)))))
(pss_one (ps_set (i := 2) scWC.nd rfl (Or.inl rfl) (pe_op op_add (pv 2) pe_int))))
(pss_cons (ps_if (pt_cmpR op_eq (pv 2) (pe_callB call_len_str (by rfl) (by exact T.len) PySem.boot_len (pa_cons (pv 0) pa_nil)) (nomark _))
(pss_one (ps_ret pe_int))
pss_nil)
(pss_cons (ps_if (PW.pt (pw_or (pt_cmpR op_ne (pe_ix ix_str (pv 0) (pv 2) (fun _ _ => rfl)) pe_str (nomark _)) (pw_or1 (pt_cmpR op_notIn_seq (pe_slice sl_str (pv 0) (po_some (pe_op op_add (pv 2) pe_int)) (po_some (pe_op op_add (pv 2) pe_int))) (pe_callTy (call_tupS rfl) (by rfl) (by exact T.tuple) (by decide +kernel) (pa_cons pe_str pa_nil)) rfl))))
(pss_one (ps_ret (pe_op op_add (pe_op op_add (pv 2) pe_int) (pe_callTy call_int1 (by rfl) (by exact T.int) PyProof.Rows.boot_int (pa_cons (pe_cmpR op_eq (pe_ix ix_str (pv 0) (pv 2) (fun _ _ => rfl)) pe_str (nomark _)) pa_nil)))))
pss_nil)
(pss_cons (ps_set (i := 2) scWC.nd rfl (Or.inl rfl) (pe_op op_add (pv 2) pe_int))
(C8.pss_cut (ps_while PassesOwn.never (PW.pt (pw_and (pt_cmpR op_lt (pv 2) (pe_callB call_len_str (by rfl) (by exact T.len) PySem.boot_len (pa_cons (pv 0) pa_nil)) (nomark _)) (pw_and1 (pt_cmpR op_in_str (pe_ix ix_str (pv 0) (pv 2) (fun _ _ => rfl)) pe_str rfl))))
(pss_one (ps_set (i := 2) scWC.nd rfl (Or.inl rfl) (pe_op op_add (pv 2) pe_int))))
(pss_one (ps_ret (pe_ifExp (pt_cmpR op_eq (pv 2) (pe_callB call_len_str (by rfl) (by exact T.len) PySem.boot_len (pa_cons (pv 0) pa_nil)) (nomark _)) pe_int (pe_op op_add (pv 2) pe_int))))))))))), ?_⟩
    have hb1 : bgn l = 0 ∨ bgn l = 1 := by unfold bgn; split <;> simp
    have hbl : bgn l ≤ l.length := by
      unfold bgn
      split
      · rename_i h
        have := (List.getElem?_eq_some_iff.mp h).1
        omega
      · omega
    have hb45 : bgn l = 1 ↔ l[0]? = some 45 := by
      unfold bgn
      split
      · rename_i h; exact ⟨fun _ => h, fun _ => rfl⟩
      · rename_i h; exact ⟨(fun z => by cases z), fun z => absurd z h⟩
    have e1 : V.int (if decide (V.str (cutS (S l) none (some 1)) = V.str "-") = true then 1 else 0) = nI (bgn l) := by
      have ec : cutS (S l) none (some 1) = S (l.take 1) := cut_to l 1
      rw [ec]
      have e : decide (V.str (S (l.take 1)) = V.str (S [45])) = decide (l.take 1 = [45]) := dec_S _ _
      have e2 : decide (V.str (S (l.take 1)) = V.str "-") = decide (l.take 1 = [45]) := e
      rw [e2]
      unfold bgn
      have e3 : l.take 1 = [45] ↔ l[0]? = some 45 := by
        have := take1 l 0 45
        rw [List.drop_zero] at this
        exact this
      by_cases h : l.take 1 = [45]
      · rw [decide_eq_true h, if_pos rfl, if_pos (e3.mp h)]
        rfl
      · rw [decide_eq_false h, if_neg (by decide), if_neg (fun z => h (e3.mpr z))]
        rfl
    have hwc : wc l = wc l := rfl
    conv at hwc => rhs; unfold wc rdS
    refine ⟨_, rfl, _, rfl, S l, rfl, hz, rfl, .inr ⟨_, rfl, ?_⟩⟩
    have go : ∀ (R : V → Prop), R (nI (bgn l)) → R (V.int (if decide (V.str (cutS (S l) none (some 1)) = V.str "-") = true then 1 else 0)) := fun R h => by rw [e1]; exact h
    refine go (fun v => gName 1 v _ _ _) ?_
    generalize bgn l = b at *
    refine ⟨fun σ G => σ = [some (.str (S l)), some (nI b), none] ∧ Same H G ∧ at1 l b isD = true ∧ ¬ l.take 2 = [45, 48], ?_, ?_⟩
    · refine ⟨_, rfl, _, rfl, _, rfl, _, rfl, _, _, rfl, rfl, _, rfl, S l, rfl, hz, "0123456789", rfl, by decide +kernel, fun T hT => ⟨T, _, rfl, .inr (.inl (.inl upd_same)), rfl, sgns_flat _, _, rfl, ?_⟩⟩
      have s1 := Same.new (o := .tup (sgns "0123456789")) hT
      have eD := inD l b
      have ret : (∀ G, Same H G → Q (nI (b + 1)) G) ∨ True := .inr trivial
      refine ite2 (fun h1 => ?_) (fun h1 => ?_)
      · have h1 : at1 l b isD = false := by
          have h1 : (!inV (.str (cutS (S l) (some (b : Int)) (some ((b : Int) + 1)))) (sgns "0123456789")) = true := h1
          rw [eD] at h1
          cases e : at1 l b isD with
          | false => rfl
          | true => rw [e] at h1; cases h1
        refine iteT ⟨_, rfl, _, _, rfl, rfl, ?_⟩
        have k' := k _ s1
        rw [if_pos (.inl (eof_stay h1))] at hwc
        rw [hwc] at k'
        exact k'
      have h1 : at1 l b isD = true := by
        cases e : at1 l b isD with
        | true => rfl
        | false =>
          refine absurd ?_ h1
          show (!inV (.str (cutS (S l) (some (b : Int)) (some ((b : Int) + 1)))) (sgns "0123456789")) = true
          rw [eD, e]
          rfl
      refine ⟨_, rfl, rfl, _, rfl, ?_⟩
      refine ite2 (fun h2 => ?_) (fun h2 => ?_)
      · have h2 : b = 1 := Int.ofNat_inj.mp (V.int.inj (of_decide_eq_true h2))
        obtain ⟨c, hc, _⟩ := at1_true h1
        rw [h2] at hc
        refine ⟨_, rfl, S l, 1, c, rfl, rfl, hz, atI_nat (j := 1) hc, rfl, _, rfl, ?_⟩
        have ed := dec1 c 48 "0" rfl
        refine ite2 (fun h3 => ?_) (fun h3 => ?_)
        · rw [ed] at h3
          have h3 := of_decide_eq_true h3
          refine ⟨_, rfl, _, _, rfl, rfl, ?_⟩
          have k' := k _ s1
          rw [if_pos (.inr ((take2 l).mpr ⟨hb45.mp h2, by rw [hc, h3]⟩))] at hwc
          rw [hwc] at k'
          exact k'
        · have h3 : ¬ c = 48 := fun z => h3 (by rw [ed]; exact decide_eq_true z)
          refine ⟨rfl, s1, h1, fun z => h3 ?_⟩
          have := ((take2 l).mp z).2
          rw [hc] at this
          exact Option.some.inj this
      · have h2 : ¬ b = 1 := fun z => h2 (decide_eq_true (by rw [z]; rfl))
        refine iteF ⟨rfl, s1, h1, fun z => h2 (hb45.mpr ((take2 l).mp z).1)⟩
    rintro σ G ⟨rfl, s1, h1, h2⟩
    obtain ⟨c0, hc0, hd0⟩ := at1_true h1
    have hblt := (List.getElem?_eq_some_iff.mp hc0).1
    have est := eof_go hc0 hd0
    rw [if_neg (fun z => z.elim (fun y => by rw [est] at y; split at y <;> omega) h2)] at hwc
    have dig : ∀ c : Nat, (!(Builtin.Str.occurrences "0123456789" (⟨#[c]⟩ : Str) 0 ("0123456789" : Str).length 1).isEmpty) = isD c := fun c => by
      rw [← fig_in]
      exact SX.in_one [48, 49, 50, 51, 52, 53, 54, 55, 56, 57] c
    refine ⟨_, rfl, _, _, rfl, rfl, ?_⟩
    generalize eST : eof l b = st at *
    have hstl : st ≤ l.length := by
      rw [← eST]
      exact eof_le hbl
    have hstb : b < st := by rw [est]; split <;> omega
    refine ⟨fun σ G' => σ = [some (.str (S l)), some (nI b), some (nI st)] ∧ G' = G, ?_, ?_⟩
    · refine while_by (fun σ G' => ∃ e : Nat, σ = [some (.str (S l)), some (nI b), some (nI e)] ∧ G' = G ∧ e ≤ l.length ∧ (c0 = 48 → e = st) ∧ (c0 ≠ 48 → e + cnt (l.drop e) = st)) (fun σ G => match σ with | [_, _, some (.int y)] => l.length - y.toNat | _ => 0)
        ⟨b + 1, rfl, rfl, by omega, fun z => by rw [est, if_pos z], fun z => by rw [est, if_neg z]⟩ ?_ ?_
      · rintro σ G' ⟨e, rfl, rfl, hel, hA, hB⟩
        have ed := dec1 c0 48 "0" rfl
        refine ⟨_, rfl, _, rfl, S l, _, c0, rfl, rfl, hz, atI_nat hc0, rfl, _, rfl, ?_⟩
        refine ite2 (fun hn => ?_) (fun hn => ?_)
        · have hn : c0 ≠ 48 := by
            intro z
            rw [ed, decide_eq_true z] at hn
            cases hn
          have hB := hB hn
          refine ⟨_, rfl, _, rfl, _, rfl, hz, _, _, rfl, rfl, _, rfl, ?_⟩
          refine ite2 (fun hlt => ?_) (fun hlt => ?_)
          · have hlt : e < l.length := by
              have := of_decide_eq_true hlt
              rw [S_len] at this
              omega
            obtain ⟨c, hcc⟩ : ∃ c, l[e]? = some c := ⟨l[e], List.getElem?_eq_getElem hlt⟩
            refine ⟨_, rfl, _, rfl, S l, _, c, rfl, rfl, hz, atI_nat hcc, _, _, rfl, rfl, _, rfl, ?_⟩
            rw [dig]
            have ec := cnt_drop hcc
            refine ite2 (fun hd => ?_) (fun hd => ?_)
            · rw [if_pos hd] at ec
              refine ⟨_, rfl, _, _, rfl, rfl, ?_⟩
              refine ⟨⟨e + 1, rfl, rfl, by omega, fun z => absurd z hn, fun _ => by omega⟩, ?_⟩
              show l.length - (((e : Int) + 1).toNat) < l.length - ((e : Int).toNat)
              omega
            · rw [if_neg hd] at ec
              have ee : e = st := by omega
              rw [ee]
              exact ⟨rfl, rfl⟩
          · have hge : ¬ e < l.length := by
              intro z
              refine hlt (decide_eq_true ?_)
              rw [S_len]
              omega
            have := cnt_out (l := l) (i := e) (by omega)
            have ee : e = st := by omega
            rw [ee]
            exact iteF ⟨rfl, rfl⟩
        · have hn : c0 = 48 := by
            rw [ed] at hn
            by_cases z : c0 = 48
            · exact z
            · exact absurd (by rw [decide_eq_false z]; rfl) hn
          rw [hA hn]
          exact iteF ⟨rfl, rfl⟩
      · intro σ G Q' Q'' hq h
        obtain ⟨v, h1, v0, h0, z, i1, c1, f1, f2, f3, f4, f5, k', e3, h⟩ := h
        refine ⟨v, h1, v0, h0, z, i1, c1, f1, f2, f3, f4, f5, k', e3, ?_⟩
        cases k' with
        | false => exact iteF (hq _ _ (by simpa using h))
        | true =>
          rw [if_pos rfl] at h
          refine iteT ?_
          obtain ⟨v, h1, v0, h0, z, ez, hz, i1, j1, e1, e2, k', e3, h⟩ := h
          refine ⟨v, h1, v0, h0, z, ez, hz, i1, j1, e1, e2, k', e3, ?_⟩
          cases k' with
          | false => exact iteF (hq _ _ (by simpa using h))
          | true =>
            rw [if_pos rfl] at h
            refine iteT ?_
            obtain ⟨v2, h2, v3, h3, z2, i2, c2, f1, f2, f3, f4, i3, j3, f5, f6, k2, f7, h⟩ := h
            exact ⟨v2, h2, v3, h3, z2, i2, c2, f1, f2, f3, f4, i3, j3, f5, f6, k2, f7, hq _ _ h⟩
    rintro σ G' ⟨rfl, rfl⟩
    refine ⟨_, rfl, _, rfl, _, rfl, hz, rfl, _, rfl, ?_⟩
    refine ite2 (fun h3 => ?_) (fun h3 => ?_)
    · have h3 : st = l.length := by
        have := V.int.inj (of_decide_eq_true h3)
        rw [S_len] at this
        omega
      have k' := k _ s1
      rw [if_pos h3] at hwc
      rw [hwc] at k'
      exact k'
    have h3 : ¬ st = l.length := by
      intro z
      refine h3 (decide_eq_true ?_)
      rw [S_len, z]
    rw [if_neg h3] at hwc
    have hst : st < l.length := by omega
    obtain ⟨c, hc⟩ : ∃ c, l[st]? = some c := ⟨l[st], List.getElem?_eq_getElem hst⟩
    have ed := dec1 c 47 "/" rfl
    refine ⟨_, rfl, _, rfl, S l, _, c, rfl, rfl, hz, atI_nat hc, rfl, _, rfl, ?_⟩
    refine ite2 (fun h4 => ?_) (fun h4 => ?_)
    · have h4 : ¬ c = 47 := by
        intro z
        rw [ed, decide_eq_true z] at h4
        cases h4
      refine iteT ⟨_, rfl, _, _, rfl, rfl, _, rfl, _, rfl, S l, _, c, rfl, rfl, hz, atI_nat hc, rfl, .inr ⟨_, rfl, _, _, rfl, rfl, ?_⟩⟩
      rw [ed, decide_eq_false h4]
      have k' := k _ s1
      rw [if_pos (by rw [hc]; intro z; exact h4 (Option.some.inj z))] at hwc
      rw [hwc] at k'
      exact k'
    have h4 : c = 47 := by
      rw [ed] at h4
      by_cases h : c = 47
      · exact h
      · exact absurd (by rw [decide_eq_false h]; rfl) h4
    rw [if_neg (by rw [hc, h4]; simp)] at hwc
    refine ⟨_, rfl, _, rfl, _, _, rfl, rfl, _, rfl, _, rfl, _, _, rfl, rfl, _, rfl, S l, rfl, hz, "123456789", rfl, by decide +kernel, fun T hT => ⟨T, _, rfl, .inr (.inl (.inl upd_same)), rfl, sgns_flat _, _, rfl, ?_⟩⟩
    have s2 := s1.trans (Same.new (o := .tup (sgns "123456789")) hT)
    generalize upd G' T (.tup (sgns "123456789")) = G2 at *
    have eD := inD1 l st
    have est2 : ∀ c1, l[st + 1]? = some c1 → isD1 c1 = true → eof l (st + 1) = st + 1 + 1 + cnt (l.drop (st + 1 + 1)) ∧ c1 ≠ 48 := by
      intro c1 hc1 hd
      unfold isD1 at hd
      rw [Bool.and_eq_true, decide_eq_true_eq, decide_eq_true_eq] at hd
      have e := eof_go hc1 (show isD c1 = true by unfold isD; rw [Bool.and_eq_true, decide_eq_true_eq, decide_eq_true_eq]; omega)
      rw [if_neg (show ¬ c1 = 48 by omega)] at e
      exact ⟨e, by omega⟩
    refine ite2 (fun h5 => ?_) (fun h5 => ?_)
    · have h5 : at1 l (st + 1) isD1 = false := by
        have h5 : (!inV (.str (cutS (S l) (some ((st : Int) + 1)) (some ((st : Int) + 2)))) (sgns "123456789")) = true := h5
        rw [eD] at h5
        cases e : at1 l (st + 1) isD1 with
        | false => rfl
        | true => rw [e] at h5; cases h5
      refine ⟨_, rfl, _, _, rfl, rfl, _, rfl, _, rfl, S l, _, c, rfl, rfl, hz, atI_nat hc, rfl, .inr ⟨_, rfl, _, _, rfl, rfl, ?_⟩⟩
      rw [ed, decide_eq_true h4]
      have k' := k _ s2
      have hcond : eof l (st + 1) = st + 1 ∨ l[st + 1]? = some 48 := by
        by_cases h48 : l[st + 1]? = some 48
        · exact .inr h48
        · left
          refine eof_stay ?_
          unfold at1 at h5 ⊢
          cases e : l[st + 1]? with
          | none => rfl
          | some c1 =>
            rw [e] at h5 h48
            have h5 : isD1 c1 = false := h5
            show isD c1 = false
            have hn : c1 ≠ 48 := fun z => h48 (by rw [z])
            unfold isD1 at h5
            unfold isD
            rcases Bool.and_eq_false_iff.mp h5 with h | h
            · have h := of_decide_eq_false h
              rw [decide_eq_false (show ¬ 48 ≤ c1 by omega), Bool.false_and]
            · rw [h, Bool.and_false]
      rw [if_pos hcond] at hwc
      rw [hwc] at k'
      exact k'
    have h5 : at1 l (st + 1) isD1 = true := by
      cases e : at1 l (st + 1) isD1 with
      | true => rfl
      | false =>
        refine absurd ?_ h5
        show (!inV (.str (cutS (S l) (some ((st : Int) + 1)) (some ((st : Int) + 2)))) (sgns "123456789")) = true
        rw [eD, e]
        rfl
    obtain ⟨c1, hc1, hd1⟩ := at1_true h5
    obtain ⟨een, hn48⟩ := est2 c1 hc1 hd1
    have hst1 := (List.getElem?_eq_some_iff.mp hc1).1
    generalize eof l (st + 1) = en at *
    rw [if_neg (fun z => z.elim (fun y => by omega) (fun y => by rw [hc1] at y; exact hn48 (Option.some.inj y)))] at hwc
    refine ⟨_, rfl, _, _, rfl, rfl, ?_⟩
    refine ⟨fun σ G' => σ = [some (.str (S l)), some (nI b), some (nI en)] ∧ G' = G2 ∧ en ≤ l.length, ?_, ?_⟩
    · refine while_by (fun σ G' => ∃ e : Nat, σ = [some (.str (S l)), some (nI b), some (nI e)] ∧ G' = G2 ∧ e ≤ l.length ∧ e + cnt (l.drop e) = en) (fun σ G => match σ with | [_, _, some (.int y)] => l.length - y.toNat | _ => 0)
        ⟨st + 2, rfl, rfl, by omega, by rw [een]⟩ ?_ ?_
      · rintro σ G' ⟨e, rfl, rfl, hel, hB⟩
        refine ⟨_, rfl, _, rfl, _, rfl, hz, _, _, rfl, rfl, _, rfl, ?_⟩
        refine ite2 (fun hlt => ?_) (fun hlt => ?_)
        · have hlt : e < l.length := by
            have := of_decide_eq_true hlt
            rw [S_len] at this
            omega
          obtain ⟨c, hcc⟩ : ∃ c, l[e]? = some c := ⟨l[e], List.getElem?_eq_getElem hlt⟩
          refine ⟨_, rfl, _, rfl, S l, _, c, rfl, rfl, hz, atI_nat hcc, _, _, rfl, rfl, _, rfl, ?_⟩
          rw [dig]
          have ec := cnt_drop hcc
          refine ite2 (fun hd => ?_) (fun hd => ?_)
          · rw [if_pos hd] at ec
            refine ⟨_, rfl, _, _, rfl, rfl, ?_⟩
            refine ⟨⟨e + 1, rfl, rfl, by omega, by omega⟩, ?_⟩
            show l.length - (((e : Int) + 1).toNat) < l.length - ((e : Int).toNat)
            omega
          · rw [if_neg hd] at ec
            have ee : e = en := by omega
            rw [← ee]
            exact ⟨rfl, rfl, hel⟩
        · have hge : ¬ e < l.length := by
            intro z
            refine hlt (decide_eq_true ?_)
            rw [S_len]
            omega
          have := cnt_out (l := l) (i := e) (by omega)
          have ee : e = en := by omega
          rw [← ee]
          exact iteF ⟨rfl, rfl, hel⟩
      · intro σ G Q' Q'' hq h
        obtain ⟨v, h1, v0, h0, z, ez, hz, i1, j1, e1, e2, k', e3, h⟩ := h
        refine ⟨v, h1, v0, h0, z, ez, hz, i1, j1, e1, e2, k', e3, ?_⟩
        cases k' with
        | false => exact iteF (hq _ _ (by simpa using h))
        | true =>
          rw [if_pos rfl] at h
          refine iteT ?_
          obtain ⟨v2, h2, v3, h3, z2, i2, c2, f1, f2, f3, f4, i3, j3, f5, f6, k2, f7, h⟩ := h
          exact ⟨v2, h2, v3, h3, z2, i2, c2, f1, f2, f3, f4, i3, j3, f5, f6, k2, f7, hq _ _ h⟩
    rintro σ G' ⟨rfl, rfl, hen⟩
    refine ⟨_, rfl, _, rfl, _, rfl, hz, rfl, _, rfl, ?_⟩
    have k' := k _ s2
    refine ite2 (fun h6 => ?_) (fun h6 => ?_)
    · have h6 : en = l.length := by
        have := V.int.inj (of_decide_eq_true h6)
        rw [S_len] at this
        omega
      rw [if_neg (by omega)] at hwc
      rw [hwc] at k'
      exact k'
    · have h6 : ¬ en = l.length := by
        intro z
        refine h6 (decide_eq_true ?_)
        rw [S_len, z]
      rw [if_pos (by omega)] at hwc
      rw [hwc] at k'
      exact ⟨_, rfl, _, _, rfl, rfl, k'⟩
end
end Wq
set_option Elab.async false
set_option linter.all false
set_option maxRecDepth 100000
set_option maxHeartbeats 4000000
set_option exponentiation.threshold 9000
namespace Wq
open PySem PySem.Spec PyProof.Rows L2
open SX (S S_len S_cat S_beq_eq)
abbrev sTC : Stmt := top 26
theorem scTC : FnScope ["_law_text", "e"] ["_law_text"] (defScope sTC) := ⟨rfl, rfl, rfl, by decide +kernel, rfl, by decide +kernel, by decide +kernel⟩
def spTC : Sp := fun vs H Q _ => ∃ l : List Nat, vs = [.str (S l)] ∧ l.length ≤ 600 ∧ ∀ H', Same H H' → Q (nI (wc l)) H'
def bTc (CT : Addr) (W : WX) : TS := fun D σ H => ∃ l : List Nat, σ = [some (.str (S l)), none] ∧ l.length ≤ 600 ∧ (∀ H', Same H H' → wc l = 0 → D.nx σ H') ∧ (∀ c, wc l = c → ∀ d H', Err2 H H' d [("column", nI c), ("line", .int 1)] → W (.ref CT) (some d) σ H')
def cTc (CT : Addr) (a : Addr) (cls : Value) (d : Option Addr) : TS := fun D σ H => ∃ (dd : Addr) (c : Nat), cls = .ref CT ∧ d = some dd ∧ σ[1]? = some (some (.ref a)) ∧ H dd = some (.xd [("column", nI c), ("line", .int 1)]) ∧ D.rt (nI c) H
section
variable {P : Program} {w : World} {K : PySem.W.Frag} {mg : Str → Option Value} {base : Heap} {C CE CT fT : Addr}
theorem ok_TC (D : DefAt K mg "_law_told_column" sTC) (TE : TxtE K mg CT fT "BadText" "line" "column") (SH : Cle P w K mg base 5 "share_of" (spSH C CT)) : Cl P w K mg base 6 "_law_told_column" spTC := by
  obtain ⟨f, fd, ps, F, hm, kp, hb⟩ := SH.ex
  refine cl_of D scTC (fun vs H Q E h => ?_) (fun _ _ _ _ _ _ us hl => match us, hl with | [_], _ => rfl) (fun f cdv A outer s H vs Q E hr h => ?_)
  · obtain ⟨l, rfl, _⟩ := h
    rfl
  · obtain ⟨l, rfl, hl, k⟩ := h
    refine ⟨_, pss_cons (ps_try_as (i := 1) (tb := fun W => bTc CT W) (ts := cTc CT) (Wout := fun _ _ _ _ => False) rfl rfl scTC.nd rfl rfl ⟨rfl, by decide, Or.inl TE.gC⟩ takes0
      (fun W pn xe tk _ => pss_pre (pss_one (ps_expr (pe_callS F hr rfl hm kp hb (fun σ => passAt tk σ) (pa_cons (pv 0) pa_nil)))) (fun D σ H hb => ?_))
      (fun a oe cls d pn hz hf => pss_pre (pss_one (ps_ret (pe_ifExp (pt_cmpR op_eq (pe_xf TE.xf TE.n1 hz hf (pv 1)) pe_int (nomark _)) (pe_xf TE.xf TE.n2 hz hf (pv 1)) (pe_un un_neg pe_int)))) (fun D σ H hb => ?_)))
      (pss_one (ps_ret pe_int)), ?_⟩
    · obtain ⟨l, rfl, hl, k1, k2⟩ := hb
      refine ⟨_, rfl, l, rfl, hl, fun t b e _ r H' _ s _ => k1 H' s (by unfold wc; rw [e]), fun c e d H' hE => k2 c (by unfold wc; rw [e]) d H' hE⟩
    · obtain ⟨dd, c, rfl, rfl, hs, hd, kk⟩ := hb
      refine ⟨_, hs, rfl, rfl, dd, _, _, rfl, hd, (by rfl), rfl, _, rfl, ?_⟩
      refine (if_pos (by decide)).mpr ?_
      exact ⟨_, hs, rfl, rfl, dd, _, _, rfl, hd, (by rfl), kk⟩
    · refine ⟨l, rfl, hl, fun H' s e => ?_, fun c e d H' hE => ?_⟩
      · have k' := k H' s
        rw [e] at k'
        exact k'
      · obtain ⟨s1, hd0, hd⟩ := hE
        refine ⟨true, TE.te, fun _ a ha => ⟨d, c, rfl, rfl, rfl, hd, ?_⟩, fun z => by cases z⟩
        have k' := k H' s1
        rw [e] at k'
        exact k'
end
end Wq
set_option Elab.async false
set_option linter.all false
set_option maxRecDepth 100000
set_option maxHeartbeats 4000000
set_option exponentiation.threshold 9000
namespace Wq
open PySem PySem.Spec PyProof.Rows L2
open SX (S S_len S_cat S_beq_eq)
open TL (numL)
theorem numL_all (n : Nat) : (numL n).all isD = true := by
  rw [List.all_eq_true]
  intro c hc
  have := TL.numL_digits n c hc
  unfold isD
  rw [Bool.and_eq_true, decide_eq_true_eq, decide_eq_true_eq]
  exact this
theorem numL_head (n : Nat) : 0 < n → ∃ c r, numL n = c :: r ∧ 48 < c := by
  induction n using Nat.strongRecOn with
  | _ n ih =>
    intro h0
    by_cases h : n < 10
    · rw [TL.numL_lt h]
      exact ⟨48 + n, [], rfl, by omega⟩
    · rw [TL.numL_step (by omega)]
      obtain ⟨c, r, e, hc⟩ := ih (n / 10) (by omega) (by omega)
      exact ⟨c, r ++ [48 + n % 10], by rw [e]; rfl, hc⟩
theorem cnt_app : ∀ (l r : List Nat), l.all isD = true → cnt (l ++ r) = l.length + cnt r
  | [], r, _ => by simp
  | c :: l, r, h => by
    rw [List.all_cons, Bool.and_eq_true] at h
    show (if isD c = true then cnt (l ++ r) + 1 else 0) = _
    rw [if_pos h.1, cnt_app l r h.2, List.length_cons]
    omega
/-- where a number's figures end -/
theorem eof_num (p : List Nat) (n : Nat) (r : List Nat) (hr : cnt r = 0) : eof (p ++ (numL n ++ r)) p.length = p.length + (numL n).length := by
  have ed : (p ++ (numL n ++ r)).drop p.length = numL n ++ r := List.drop_left
  have e0 : (p ++ (numL n ++ r))[p.length]? = (numL n ++ r)[0]? := by
    rw [List.getElem?_append_right (Nat.le_refl _), Nat.sub_self]
  unfold eof
  rw [ed, e0, cnt_app _ _ (numL_all n), hr]
  rcases Nat.eq_zero_or_pos n with h | h
  · subst h
    have e : numL 0 = [48] := TL.numL_lt (by decide)
    rw [e]
    rfl
  · obtain ⟨c, r', e, hc⟩ := numL_head n h
    rw [e]
    have e2 : ¬ ((c :: r') ++ r)[0]? = some 48 := fun z => by
      have : c = 48 := Option.some.inj z
      omega
    rw [if_neg e2]
    rfl
theorem bgn_dg (t : Int) (r : List Nat) : bgn (dg t ++ r) = if t < 0 then 1 else 0 := by
  unfold bgn
  by_cases h : t < 0
  · rw [dg_neg h, if_pos h, if_pos (by rfl)]
  · rw [dg_pos h, if_neg h]
    refine if_neg fun z => ?_
    cases e : numL t.natAbs with
    | nil => exact TL.numL_ne _ e
    | cons c r' =>
      rw [e] at z
      have hc : c = 45 := Option.some.inj z
      have := TL.numL_digits t.natAbs c (by rw [e]; exact List.mem_cons_self)
      omega
/-- the sign of a text -/
def sgL (t : Int) : List Nat := if t < 0 then [45] else []
theorem dg_eq (t : Int) : dg t = sgL t ++ numL t.natAbs := by
  unfold dg sgL
  split <;> rfl
theorem sgL_len (t : Int) : (sgL t).length = if t < 0 then 1 else 0 := by
  unfold sgL
  split <;> rfl
theorem eof_dg (t : Int) (r : List Nat) (hr : cnt r = 0) : eof (dg t ++ r) (bgn (dg t ++ r)) = (dg t).length := by
  have e := eof_num (sgL t) t.natAbs r hr
  rw [← List.append_assoc, ← dg_eq] at e
  rw [bgn_dg, ← sgL_len, e, dg_eq, List.length_append]
theorem top_dg (t : Int) (r : List Nat) (hr : cnt r = 0) : topOf (dg t ++ r) = t := by
  have hd : ((dg t ++ r).drop (bgn (dg t ++ r))).take (eof (dg t ++ r) (bgn (dg t ++ r)) - bgn (dg t ++ r)) = numL t.natAbs := by
    rw [eof_dg t r hr, bgn_dg, ← sgL_len]
    have e1 : (dg t ++ r).drop (sgL t).length = numL t.natAbs ++ r := by
      rw [dg_eq, List.append_assoc]
      exact List.drop_left
    have e2 : (dg t).length - (sgL t).length = (numL t.natAbs).length := by
      rw [dg_eq, List.length_append]
      omega
    rw [e1, e2]
    exact List.take_left
  unfold topOf
  rw [hd, TL.numL_val, bgn_dg]
  by_cases h : t < 0
  · rw [if_pos h, if_pos rfl]
    omega
  · rw [if_neg h, if_neg (by decide)]
    omega
theorem dg_two (t : Int) (r : List Nat) (h : t = 0 ∨ t < 0 ∨ 0 < t) : ¬ (dg t ++ r).take 2 = [45, 48] := by
  intro z
  have z := (take2 _).mp z
  by_cases ht : t < 0
  · rw [dg_neg ht] at z
    obtain ⟨c, r', e, hc⟩ := numL_head t.natAbs (by omega)
    rw [e] at z
    have : c = 48 := Option.some.inj z.2
    omega
  · have b := bgn_dg t r
    rw [if_neg ht] at b
    unfold bgn at b
    rw [if_pos z.1] at b
    cases b
/-- what is written is read back -/
theorem read_wr {t b : Int} (hb : 0 < b) : rdS (wr t b) = .inr (t, b) := by
  unfold wr
  by_cases h1 : b = 1
  · rw [if_pos h1]
    have e0 : dg t = dg t ++ [] := (List.append_nil _).symm
    have hE := eof_dg t [] rfl
    have hT := top_dg t [] rfl
    have hB := bgn_dg t []
    have h2 := dg_two t [] (by omega)
    rw [← e0] at hE hT hB h2
    have hl : bgn (dg t) < (dg t).length := by
      rw [hB, ← sgL_len, dg_eq, List.length_append]
      have := List.length_pos_iff.mpr (TL.numL_ne t.natAbs)
      omega
    unfold rdS
    rw [hE, if_neg (fun z => z.elim (by omega) h2), if_pos rfl, hT, h1]
  · rw [if_neg h1]
    have hr : cnt (47 :: dg b) = 0 := rfl
    have hE := eof_dg t (47 :: dg b) hr
    have hT := top_dg t (47 :: dg b) hr
    have hB := bgn_dg t (47 :: dg b)
    have h2 := dg_two t (47 :: dg b) (by omega)
    have hl : bgn (dg t ++ 47 :: dg b) < (dg t).length := by
      rw [hB, ← sgL_len, dg_eq, List.length_append]
      have := List.length_pos_iff.mpr (TL.numL_ne t.natAbs)
      omega
    have hdb : dg b = numL b.natAbs := dg_pos (by omega)
    have e1 : dg t ++ 47 :: dg b = (dg t ++ [47]) ++ (numL b.natAbs ++ []) := by rw [hdb, List.append_nil, List.append_assoc]; rfl
    have hl1 : (dg t ++ [47]).length = (dg t).length + 1 := by rw [List.length_append]; rfl
    have hE2 : eof (dg t ++ 47 :: dg b) ((dg t).length + 1) = (dg t).length + 1 + (numL b.natAbs).length := by
      rw [e1, ← hl1]
      exact eof_num _ _ [] rfl
    have hlen : (dg t ++ 47 :: dg b).length = (dg t).length + 1 + (numL b.natAbs).length := by
      rw [List.length_append, List.length_cons, hdb]
      omega
    have hat : (dg t ++ 47 :: dg b)[(dg t).length]? = some 47 := by
      rw [List.getElem?_append_right (Nat.le_refl _), Nat.sub_self]
      rfl
    obtain ⟨c, r', ec, hc⟩ := numL_head b.natAbs (by omega)
    have hat2 : (dg t ++ 47 :: dg b)[(dg t).length + 1]? = some c := by
      rw [List.getElem?_append_right (by omega), show (dg t).length + 1 - (dg t).length = 1 by omega, hdb, ec]
      rfl
    have hdrop : (dg t ++ 47 :: dg b).drop ((dg t).length + 1) = numL b.natAbs := by
      rw [e1, ← hl1, List.append_nil]
      exact List.drop_left
    have hnl := List.length_pos_iff.mpr (TL.numL_ne b.natAbs)
    unfold rdS
    rw [hE, if_neg (fun z => z.elim (by omega) h2), if_neg (by omega), hat, if_neg (by simp), hE2, hat2, if_neg (fun z => z.elim (by omega) (fun y => by have := Option.some.inj y; omega)), if_neg (by omega), hT, hdrop, TL.numL_val]
    have eb : ((b.natAbs : Nat) : Int) = b := by omega
    rw [eb]
end Wq
set_option Elab.async false
set_option linter.all false
set_option maxRecDepth 100000
set_option maxHeartbeats 4000000
set_option exponentiation.threshold 9000
namespace Wq
open PySem PySem.Spec PyProof.Rows L2
open SX (S S_len S_cat S_beq_eq)
open TL (numL)
/-- a text, once or not at all -/
theorem op_rep01 {X : Cx} : OpR X (binaryOp .Mult) (fun x y H Q => ∃ (z : Str) (k : Bool), x = .str z ∧ y = .int (if k = true then 1 else 0) ∧ z.length ≤ 1000 ∧ Q (.str (if k = true then z else Str.empty)) H) := by
  intro pins s σ H x y v u Q I rx ry h
  obtain ⟨z, k, rfl, rfl, hz, q⟩ := h
  obtain ⟨t, rfl⟩ := rx
  obtain ⟨t', rfl⟩ := ry
  have h1000 : 1000 ≤ sizeLine := by rw [sizeLine_eq]; decide
  cases k with
  | false =>
    refine PySem.P.mul_str ?_ (fun h1 _ => ?_) (fun _ _ => ?_) ?_
    · decide
    · exact absurd h1 (by decide)
    · have e : z.length * ((if false = true then (1 : Int) else 0)).toNat = 0 := by
        show z.length * 0 = 0
        rw [Nat.mul_zero]
      rw [e]
      exact decide_eq_false (by omega)
    · rw [if_pos (by decide)]
      exact ⟨by decide, ⟨.str Str.empty, H, I.tok _, ⟨_, rfl⟩, q⟩⟩
  | true =>
    refine PySem.P.mul_str ?_ (fun h1 _ => ?_) (fun _ _ => ?_) ?_
    · decide
    · show ¬ (((z.length : Nat) : Int) > (2 ^ 63 - 1) / 1)
      omega
    · have e : z.length * ((if true = true then (1 : Int) else 0)).toNat = z.length := by
        show z.length * 1 = _
        rw [Nat.mul_one]
      rw [e]
      exact decide_eq_false (by omega)
    · rw [if_neg (by decide)]
      rw [if_pos (show ((if true = true then (1 : Int) else 0) == 1 || z.length == 0) = true from rfl)]
      exact ⟨.str z, H, I, ⟨_, rfl⟩, q⟩
theorem ofS (s : String) : Str.ofString ("-" ++ s) = S (45 :: (Str.ofString s).cps.toList) := by
  rw [Str.ofString_eq_toList, Str.ofString_eq_toList, String.toList_append]
  rfl
theorem str_dg (t : Int) : Str.ofString (toString t) = S (dg t) := by
  by_cases h : t < 0
  · rw [dg_neg h]
    obtain ⟨m, rfl⟩ : ∃ m : Nat, t = Int.negSucc m := ⟨t.natAbs - 1, by omega⟩
    have e1 : toString (Int.negSucc m) = "-" ++ toString (((m + 1 : Nat) : Int)) := rfl
    have e2 := SX.num_S (m + 1)
    rw [e1, ofS, e2]
    rfl
  · rw [dg_pos h]
    have e1 : t = ((t.natAbs : Nat) : Int) := by omega
    have e2 := SX.num_S t.natAbs
    rw [← e1] at e2
    exact e2
theorem numl91 {n : Nat} (h : n < 2 ^ 300) : (numL n).length ≤ 91 := TL.numL_len (by decide) (Nat.lt_of_lt_of_le h (by decide +kernel))
theorem wr_len {t b : Int} (ht : Bd t) (hb : Bd b) : (wr t b).length ≤ 185 := by
  have h1 := numl91 ht
  have h2 := numl91 hb
  have d : ∀ n : Int, (dg n).length ≤ (numL n.natAbs).length + 1 := fun n => by
    unfold dg
    split
    · rw [List.length_cons]; omega
    · omega
  have d1 := d t
  have d2 := d b
  unfold wr
  split
  · omega
  · rw [List.length_append, List.length_cons]; omega
abbrev sTR : Stmt := top 27
abbrev NTR : List Str := ["_law_pen_here", "_law_one", "_law_text", "_law_turn", "_law_at", "_law_sign"]
theorem scTR : FnScope NTR ["_law_pen_here", "_law_one"] (defScope sTR) := ⟨rfl, rfl, rfl, by decide +kernel, rfl, by decide +kernel, by decide +kernel⟩
def spTR (C : Addr) : Sp := fun vs H Q _ => ∃ (p c q : Addr) (m : Nat) (t b : Int), vs = [.ref p, .ref q] ∧ PenAt H p c m ∧ m < 1000000 ∧ ShAt C H q t b ∧ 0 < b ∧ Bd t ∧ Bd b ∧ Nat.gcd t.natAbs b.natAbs = 1 ∧ ∀ H', But p H H' → PenAt H' p c (m + 100) → Q (.bl true) H'
theorem picks8 {i : Nat} {v : V} (h : ([V.str "0", V.str "1", V.str "/", V.str "-", V.str "+", V.str " ", V.str "a", V.str ""] : List V)[i]? = some v) : ∃ a : List Nat, v = .str (S a) ∧ a.length ≤ 1 := by
  match i, h with
  | 0, h => exact ⟨[48], (Option.some.inj h).symm, by decide⟩
  | 1, h => exact ⟨[49], (Option.some.inj h).symm, by decide⟩
  | 2, h => exact ⟨[47], (Option.some.inj h).symm, by decide⟩
  | 3, h => exact ⟨[45], (Option.some.inj h).symm, by decide⟩
  | 4, h => exact ⟨[43], (Option.some.inj h).symm, by decide⟩
  | 5, h => exact ⟨[32], (Option.some.inj h).symm, by decide⟩
  | 6, h => exact ⟨[97], (Option.some.inj h).symm, by decide⟩
  | 7, h => exact ⟨[], (Option.some.inj h).symm, by decide⟩
  | n + 8, h => cases h
theorem norm_id {t b : Int} (hb : 0 < b) (g : Nat.gcd t.natAbs b.natAbs = 1) : Fr.nt t b = t ∧ Fr.nb t b = b := by
  have h0 : b ≠ 0 := by omega
  exact Fr.uniq (Fr.nb_pos h0) hb (Fr.cop h0) g (by rw [Fr.cross])
section
variable {P : Program} {w : World} {K : PySem.W.Frag} {mg : Str → Option Value} {base : Heap} {C CT : Addr}
theorem ok_TR (D : DefAt K mg "_law_texts_right" sTR) (T : Txt K mg) (TT : TxtT mg) (TS : TxtS K mg C) (CD : Cl P w K mg base 1 "_law_draw" (spDraw K)) (CP : Cl P w K mg base 2 "_law_pick" (spPick K)) (SH : Cle P w K mg base 5 "share_of" (spSH C CT)) (CT : Cl P w K mg base 6 "_law_told_column" spTC) (CW : Cl P w K mg base 1 "_law_wrong_column" spWC)
    {fW fE : Addr} {fdW fdE : FuncData} (MW : Meth K C "written" fW) (GW : FnOk P w K mg base CX0 3 fW fdW ["self"] (spSW C)) (bW : Binds K fdW ["self"] []) (BE : EqC K C fE) (GE : FnOk P w K mg base CX0 2 fE fdE ["self", "other"] (spSE C)) (bE : Binds K fdE ["self", "other"] []) : Cl P w K mg base 7 "_law_texts_right" (spTR C) := by
  obtain ⟨fS, fdS, psS, FS, hmS, kpS, hbS⟩ := SH.ex
  refine cl_of D scTR (fun vs H Q E h => ?_) (fun _ _ _ _ _ _ us hl => match us, hl with | [_, _], _ => rfl) (fun f cdv A outer s H vs Q E hr h => ?_)
  · obtain ⟨p, c, q, m, t, b, rfl, _⟩ := h
    rfl
  · obtain ⟨p, c, q, m, t, b, rfl, HP, hm, hq, hb, bt, bb, hg, k⟩ := h
    obtain ⟨dx, hq1⟩ := id hq
    refine ⟨_, pss_cons (ps_if (PW.pt (pw_or (pt_cmpR (op_neO BE GE (hr.mono (by decide)) bE pass0) (pe_call FS (hr.mono (by decide)) rfl hmS kpS hbS .nil passF (pa_cons (pe_meth0 (pv 1) TS.cl MW GW (hr.mono (by decide)) bW .nil pass0) pa_nil)) (pv 1) (nomark _)) (pw_or1 (pt_cmpR op_ne (pe_meth0 (pv 1) TS.cl MW GW (hr.mono (by decide)) bW .nil pass0) (pe_op op_add_str (pe_callTy call_str_int (by rfl) (by exact TT.str) (by decide +kernel) (pa_cons (pe_fld (pv 1) rfl) pa_nil)) (pe_op op_rep01 (pe_op op_add_str pe_str (pe_callTy call_str_int (by rfl) (by exact TT.str) (by decide +kernel) (pa_cons (pe_fld (pv 1) rfl) pa_nil))) (pe_callTy call_int1 (by rfl) (by exact T.int) PyProof.Rows.boot_int (pa_cons (pe_cmpR op_gt (pe_fld (pv 1) rfl) pe_int (nomark _)) pa_nil)))) (nomark _)))))
(pss_one (ps_ret pe_bl))
pss_nil)
(pss_cons (ps_set (i := 2) scTR.nd rfl (Or.inl rfl) (pe_meth0 (pv 1) TS.cl MW GW (hr.mono (by decide)) bW .nil pass0))
(pss_cons (ps_for PassesOwn.never rfl (pi_range1 rfl (by exact T.range) (pa_cons pe_int pa_nil)) (pg_name (i := 3) scTR.nd rfl (Or.inl rfl))
(pss_cons (ps_set (i := 4) scTR.nd rfl (Or.inl rfl) (pe_cl CD hr (by decide) rfl (pa_cons (pv 0) (pa_cons (pe_op op_add (pe_callB call_len_str (by rfl) (by exact T.len) PySem.boot_len (pa_cons (pv 2) pa_nil)) pe_int) pa_nil))))
(pss_cons (ps_set (i := 5) scTR.nd rfl (Or.inl rfl) (pe_cl CP hr (by decide) rfl (pa_cons (pv 0) (pa_cons (pe_lst (pa_cons pe_str (pa_cons pe_str (pa_cons pe_str (pa_cons pe_str (pa_cons pe_str (pa_cons pe_str (pa_cons pe_str (pa_cons pe_str pa_nil))))))))) pa_nil))))
(pss_cons (ps_set (i := 2) scTR.nd rfl (Or.inl rfl) (pe_op op_add_str (pe_op op_add_str (pe_slice sl_str (pv 2) po_none (po_some (pv 4))) (pv 5)) (pe_slice sl_str (pv 2) (po_some (pe_op op_add (pv 4) (pe_cl CD hr (by decide) rfl (pa_cons (pv 0) (pa_cons pe_int pa_nil))))) po_none)))
(pss_one (ps_if (pt_cmpR op_ne (pe_cl CT hr (by decide) rfl (pa_cons (pv 2) pa_nil)) (pe_cl CW hr (by decide) rfl (pa_cons (pv 2) pa_nil)) (nomark _))
(pss_one (ps_ret pe_bl))
pss_nil))))))
(pss_one (ps_ret pe_bl)))), ?_⟩
    have bt' : Bt t := Nat.lt_of_lt_of_le bt (Nat.pow_le_pow_right (by decide) (by decide))
    have bb' : Bt b := Nat.lt_of_lt_of_le bb (Nat.pow_le_pow_right (by decide) (by decide))
    have hwl := wr_len bt bb
    have dl : ∀ {n : Int}, Bd n → (dg n).length ≤ 92 := fun {n} h => by
      have := numl91 h
      unfold dg
      split
      · rw [List.length_cons]; omega
      · omega
    have dt := dl bt
    have db := dl bb
    refine ⟨_, rfl, q, dx, _, rfl, hq1, sf_no t b (by decide +kernel) (by decide +kernel), q, t, b, rfl, hq, bt', bb', ?_⟩
    refine ⟨wr t b, rfl, by omega, fun t' b' e h0 r H1 hr1 s1 sh => ?_, fun c e => ?_⟩
    · rw [read_wr hb] at e
      obtain ⟨rfl, rfl⟩ : t = t' ∧ b = b' := ⟨congrArg Prod.fst (Sum.inr.inj e), congrArg Prod.snd (Sum.inr.inj e)⟩
      obtain ⟨en, eb⟩ := norm_id hb hg
      rw [en, eb] at sh
      have hq2 := hq.same s1
      obtain ⟨dx2, hr2⟩ := id sh
      obtain ⟨dx3, hq3⟩ := id hq2
      refine ⟨_, rfl, r, dx2, _, rfl, hr2, .inl ⟨q, dx3, _, rfl, hq3⟩, r, .ref q, t, b, rfl, sh, .inl ⟨q, t, b, rfl, hq2, _, rfl, _, rfl, ?_⟩⟩
      refine (if_neg (by simp)).mpr ?_
      refine ⟨_, rfl, q, dx3, _, rfl, hq3, sf_no t b (by decide +kernel) (by decide +kernel), q, t, b, rfl, hq2, bt', bb', ?_⟩
      have lt' : t.natAbs.log2 < 1920 := by have := log_lt bt' (by decide); omega
      have lb' : b.natAbs.log2 < 1920 := by have := log_lt bb' (by decide); omega
      refine ⟨_, rfl, q, C, dx3, _, _, rfl, hq3, TS.cl, TS.nT, sf_t t b, t, rfl, lt', ?_⟩
      have el : ∀ k : Bool, ((if k = true then S [47] ++ S (dg b) else Str.empty) : Str).length ≤ 93 := by
        intro k
        cases k with
        | false => show (0 : Nat) ≤ 93; decide
        | true =>
          show (S [47] ++ S (dg b)).length ≤ 93
          rw [S_cat, S_len]
          show (dg b).length + 1 ≤ 93
          omega
      have ew : S (dg t) ++ (if decide (1 < b) = true then S [47] ++ S (dg b) else Str.empty) = S (wr t b) := by
        unfold wr
        by_cases h1 : b = 1
        · rw [if_pos h1, decide_eq_false (show ¬ 1 < b by omega), if_neg (by decide)]
          have e : (Str.empty : Str) = S [] := rfl
          rw [e, S_cat, List.append_nil]
        · rw [if_neg h1, decide_eq_true (show 1 < b by omega), if_pos rfl, S_cat, S_cat]
          rfl
      refine ⟨_, rfl, q, C, dx3, _, _, rfl, hq3, TS.cl, TS.nB, sf_b t b, b, rfl, lb', S [47], S (dg b), rfl, congrArg V.str (str_dg b), by rw [S_len, S_len, sizeLine_eq]; show 1 + _ ≤ _; omega, _, rfl, q, C, dx3, _, _, rfl, hq3, TS.cl, TS.nB, sf_b t b, _, _, rfl, rfl, .inr ⟨_, rfl, S [47] ++ S (dg b), decide (1 < b), rfl, rfl, by rw [S_cat, S_len]; show (dg b).length + 1 ≤ 1000; omega, S (dg t), _, congrArg V.str (str_dg t), rfl, by rw [S_len, sizeLine_eq]; have := el (decide (1 < b)); omega, rfl, _, rfl, ?_⟩⟩
      rw [ew]
      refine (if_neg (by rw [decide_eq_true rfl]; decide)).mpr ?_
      refine ⟨_, rfl, q, dx3, _, rfl, hq3, sf_no t b (by decide +kernel) (by decide +kernel), q, t, b, rfl, hq2, bt', bb', ?_⟩
      have HP1 := HP.same s1
      refine ⟨3, rfl, by decide, by decide, for_range (n := 3) (fun i σ G => ∃ (l : List Nat) (x3 x4 x5 : Option V), σ = [some (.ref p), some (.ref q), some (.str (S l)), x3, x4, x5] ∧ l.length ≤ 185 + i ∧ But p H G ∧ PenAt G p c (m + 10 * i))
        ⟨wr t b, none, none, none, rfl, hwl, But.same s1, HP1⟩ ?_ ?_⟩
      · rintro i σ G hi ⟨l, x3, x4, x5, rfl, hl, B1, HP2⟩
        have hz : (S l).length ≤ sizeLine := by rw [S_len, sizeLine_eq]; omega
        have hlg : ((((S l).length : Nat) : Int) + 1).natAbs.log2 < 9000 := by
          have h1 : ((((S l).length : Nat) : Int) + 1).natAbs.log2 < 12 := PySem.Flt.log2_lt_of (by decide) (by rw [S_len]; omega)
          omega
        refine ⟨_, rfl, _, rfl, _, rfl, hz, _, _, rfl, rfl, p, c, _, _, rfl, HP2, by omega, by omega, hlg, fun v4 o4 a4 b4 HP3 => ?_⟩
        have B2 := B1.trans (But.up p G o4)
        generalize upd G p o4 = G2 at *
        rw [S_len] at b4
        obtain ⟨n4, rfl⟩ : ∃ n : Nat, v4 = (n : Int) := ⟨v4.toNat, by omega⟩
        refine ⟨_, rfl, by show 8 ≤ sizeLine; decide, fun q8 hq8 => ?_⟩
        have s8 := Same.new (o := .lst [V.str "0", V.str "1", V.str "/", V.str "-", V.str "+", V.str " ", V.str "a", V.str ""]) hq8
        have HP4 := HP3.same s8
        refine ⟨p, c, _, _, _, rfl, HP4, .lst (.inl (.inl upd_same)), by omega, (by show 0 < 8; decide), (by show 8 < 1073741824; decide), fun ii v o5 hv HP5 => ?_⟩
        obtain ⟨a, rfl, hal⟩ := picks8 hv
        have B3 := (B2.trans (But.same s8)).trans (But.up p _ o5)
        generalize upd (upd G2 q8 (.lst [V.str "0", V.str "1", V.str "/", V.str "-", V.str "+", V.str " ", V.str "a", V.str ""])) p o5 = G3 at *
        have hl1 : (S (l.take n4)).length ≤ 300 := by rw [S_len, List.length_take]; omega
        have hl2 : (S a).length ≤ 1 := by rw [S_len]; exact hal
        refine ⟨_, rfl, _, rfl, _, rfl, S l, rfl, hz, _, rfl, S (l.take n4), S a, congrArg V.str (cut_to l n4), rfl, by rw [sizeLine_eq]; omega, ?_⟩
        refine ⟨_, rfl, _, rfl, _, rfl, p, c, _, _, rfl, HP5, by omega, by decide, by decide, fun v6 o6 a6 b6 HP6 => ?_⟩
        have B4 := B3.trans (But.up p G3 o6)
        generalize upd G3 p o6 = G4 at *
        obtain ⟨n6, rfl⟩ : ∃ n : Nat, v6 = (n : Int) := ⟨v6.toNat, by omega⟩
        have hl3 : (S (l.drop (n4 + n6))).length ≤ 300 := by rw [S_len, List.length_drop]; omega
        have hl4 : (S (l.take n4) ++ S a).length ≤ 301 := by
          rw [S_cat, S_len, List.length_append]
          rw [S_len] at hl1 hl2
          omega
        refine ⟨_, _, rfl, rfl, _, rfl, S l, rfl, hz, S (l.take n4) ++ S a, S (l.drop (n4 + n6)), rfl, congrArg V.str (cut_from l (n4 + n6)), by rw [sizeLine_eq]; omega, ?_⟩
        obtain ⟨l', el'⟩ : ∃ l' : List Nat, l' = l.take n4 ++ a ++ l.drop (n4 + n6) := ⟨_, rfl⟩
        have eT : V.str (S (l.take n4) ++ S a ++ S (l.drop (n4 + n6))) = V.str (S l') := by rw [S_cat, S_cat, el']
        have hl' : l'.length ≤ 185 + (i + 1) := by
          rw [el', List.length_append, List.length_append, List.length_take, List.length_drop]
          omega
        have go : ∀ (R : V → Prop), R (V.str (S l')) → R (V.str (S (l.take n4) ++ S a ++ S (l.drop (n4 + n6)))) := fun R h => by rw [eT]; exact h
        refine go (fun v => gName 2 v _ _ _) ?_
        refine ⟨_, rfl, l', rfl, by omega, fun H2 s2 => ⟨_, rfl, l', rfl, by omega, fun H3 s3 => ⟨rfl, _, rfl, ?_⟩⟩⟩
        refine (if_neg (by rw [decide_eq_true rfl]; decide)).mpr ?_
        exact ⟨l', _, _, _, rfl, hl', B4.trans (But.same (s2.trans s3)), (HP6.same (s2.trans s3)).mono (by omega)⟩
      · rintro σ G ⟨l, x3, x4, x5, rfl, hl, B1, HP2⟩
        exact k G B1 (HP2.mono (by omega))
    · rw [read_wr hb] at e
      cases e
end
end Wq
set_option Elab.async false
set_option linter.all false
set_option maxRecDepth 100000
set_option maxHeartbeats 8000000
set_option exponentiation.threshold 9000
namespace Wq
open PySem PySem.Spec PyProof.Rows L2
open SX (S S_len)
theorem pss_preL {X : Cx} {b : List Stmt} {t t' : TS} (h : PSs X b t) (i : ∀ D σ H, σ.length = X.N.length → t' D σ H → t D σ H) : PSs X b t' := ⟨fun pins s σ H D I q => h.run pins s σ H D I (i D σ H I.len q)⟩
abbrev sLaw : Stmt := top 28
abbrev NLaw : List Str := ["_law_script", "_law_pen_here", "_law_turn", "_law_a", "_law_b", "_law_c", "_law_d", "_law_one", "_law_two", "_law_gap", "_law_told", "e", "_law_k"]
theorem scLaw : FnScope NLaw ["_law_script"] (defScope sLaw) := ⟨rfl, rfl, rfl, by decide +kernel, rfl, by decide +kernel, by decide +kernel⟩
def spLaw (K : PySem.W.Frag) : Sp := fun vs H Q _ => ∃ (a : Addr) (ns : List Int), vs = [.ref a] ∧ SqL K H a (ns.map V.int) ∧ ∀ H', Q (.bl true) H'
theorem hu64 {A : Around} {k : Nat} (hr : Room k A) : A.units + 64 < cLine := by
  have := hr.un
  omega
structure ClsL (P : Program) (w : World) (K : PySem.W.Frag) (mg : Str → Option Value) (base : Heap) (C : Addr) : Prop where
  pen : Cl P w K mg base 1 "_law_pen" (spPen K)
  int : Cl P w K mg base 2 "_law_integer" spIg
  isS : Cl P w K mg base 1 "_law_is_share" (spIS C)
  tr : Cl P w K mg base 7 "_law_texts_right" (spTR C)
def MthZ (P : Program) (w : World) (K : PySem.W.Frag) (mg : Str → Option Value) (base : Heap) (C : Addr) (m : Str) (k : Nat) (sp : Sp) : Prop :=
  ∃ f fd, Meth K C m f ∧ FnOk P w K mg base CX0 k f fd ["self", "other"] sp ∧ Binds K fd ["self", "other"] []
def BinZ (P : Program) (w : World) (K : PySem.W.Frag) (mg : Str → Option Value) (base : Heap) (C : Addr) (op : Operator) (n r : Str) (k : Nat) (sp : Sp) : Prop :=
  ∃ f fd, BinC K C f op n r ∧ FnOk P w K mg base CX0 k f fd ["self", "other"] sp ∧ Binds K fd ["self", "other"] []
def cTn (CN : Addr) (a : Addr) (cls : Value) (d : Option Addr) : TS := fun D σ H => ∃ (dd : Addr), cls = .ref CN ∧ d = some dd ∧ (σ.length = 13 → σ[11]? = some (some (.ref a))) ∧ H dd = some (.xd [("number", .int 0), ("what", .str "bottom")]) ∧ D.rt (.bl true) H
def bTn (CN : Addr) (W : WX) : TS := fun D σ H => ∃ (a p c : Addr) (m : Nat) (x2 x3 x4 x5 x6 x7 x8 x9 x10 : Option V), σ = [some (.ref a), some (.ref p), x2, x3, x4, x5, x6, x7, x8, x9, x10, none, none] ∧ PenAt H p c m ∧ m < 1000000 ∧ ∀ σ d H', H' d = some (.xd [("number", .int 0), ("what", .str "bottom")]) → W (.ref CN) (some d) σ H'
/-- equal fractions -/
theorem frac {t b X Y T' B' : Int} (h0 : Y ≠ 0) (h1 : t * Y = X * b) (h2 : X * B' = T' * Y) : t * B' = T' * b := by
  have e : (t * B') * Y = (T' * b) * Y := by
    calc (t * B') * Y = (t * Y) * B' := by rw [Int.mul_assoc, Int.mul_comm B' Y, ← Int.mul_assoc]
      _ = (X * B') * b := by rw [h1, Int.mul_assoc, Int.mul_comm b B', ← Int.mul_assoc]
      _ = (T' * b) * Y := by rw [h2, Int.mul_assoc, Int.mul_comm Y b, ← Int.mul_assoc]
  exact Int.eq_of_mul_eq_mul_right h0 e
theorem fr_add {u v u2 v2 A B C D : Int} (h1 : u * B = A * v) (h2 : u2 * D = C * v2) : (u * v2 + u2 * v) * (B * D) = (A * D + C * B) * (v * v2) := by
  grind
theorem fr_sub {u v u2 v2 A B C D : Int} (h1 : u * B = A * v) (h2 : u2 * D = C * v2) : (u * v2 - u2 * v) * (B * D) = (A * D - C * B) * (v * v2) := by
  grind
theorem fr_mul {u v u2 v2 A B C D : Int} (h1 : u * B = A * v) (h2 : u2 * D = C * v2) : (u * u2) * (B * D) = (A * C) * (v * v2) := by
  grind
theorem fr_addi {u v A B C : Int} (h1 : u * B = A * v) : (u * 1 + C * v) * B = (A + C * B) * (v * 1) := by
  grind
theorem fr_subi {u v A B C : Int} (h1 : u * B = A * v) : (u * 1 - C * v) * B = (A - C * B) * (v * 1) := by
  grind
theorem fr_muli {u v A B D : Int} (h1 : u * B = A * v) : (u * D) * B = (A * D) * (v * 1) := by
  grind
theorem fr_over {u v u2 v2 A B C D : Int} (h1 : u * B = A * v) (h2 : u2 * D = C * v2) : (u * v2) * (B * C) = (A * D) * (v * u2) := by
  grind
theorem fr_overi {u v A B D : Int} (h1 : u * B = A * v) : (u * 1) * (B * D) = A * (v * D) := by
  grind
theorem sg_aux {w M X N : Int} (hM : 0 < M) (hN : 0 < N) (e : w * M = X * N) : (0 < w ↔ 0 < X) ∧ (w < 0 ↔ X < 0) := by
  rcases Int.lt_trichotomy w 0 with hw | hw | hw
  · have h1 := Int.mul_neg_of_neg_of_pos hw hM
    rcases Int.lt_trichotomy X 0 with hx | hx | hx
    · omega
    · subst hx; rw [Int.zero_mul] at e; omega
    · have h2 := Int.mul_pos hx hN; omega
  · subst hw
    rw [Int.zero_mul] at e
    rcases Int.lt_trichotomy X 0 with hx | hx | hx
    · have h2 := Int.mul_neg_of_neg_of_pos hx hN; omega
    · omega
    · have h2 := Int.mul_pos hx hN; omega
  · have h1 := Int.mul_pos hw hM
    rcases Int.lt_trichotomy X 0 with hx | hx | hx
    · have h2 := Int.mul_neg_of_neg_of_pos hx hN; omega
    · subst hx; rw [Int.zero_mul] at e; omega
    · omega
def gapv (X M : Int) : Int := X * (if 0 < M then 1 else -1)
theorem sg_gap {w M X N : Int} (hM : M ≠ 0) (hN : 0 < N) (e : w * M = X * N) : (0 < w ↔ 0 < gapv X M) ∧ (w < 0 ↔ gapv X M < 0) := by
  unfold gapv
  by_cases h : 0 < M
  · rw [if_pos h, Int.mul_one]
    exact sg_aux h hN e
  · rw [if_neg h]
    have e2 : w * (-M) = (X * -1) * N := by
      rw [Int.mul_neg, e]
      grind
    exact sg_aux (by omega) hN e2
theorem m60 {x y : Int} (hx : x.natAbs < 2 ^ 60) (hy : y.natAbs < 2 ^ 60) : (x * y).natAbs < 2 ^ 120 := by
  rw [Int.natAbs_mul]
  exact Nat.lt_of_lt_of_le (Nat.mul_lt_mul'' hx hy) (by decide)
theorem bd60 {x : Int} (hx : x.natAbs < 2 ^ 60) : Bd x := Nat.lt_of_lt_of_le hx (Nat.pow_le_pow_right (by decide) (by decide))
theorem bd120 {x : Int} (hx : x.natAbs < 2 ^ 120) : Bd x := Nat.lt_of_lt_of_le hx (Nat.pow_le_pow_right (by decide) (by decide))
theorem bda {x y : Int} (hx : x.natAbs < 2 ^ 120) (hy : y.natAbs < 2 ^ 120) : Bd (x + y) := by
  have := Int.natAbs_add_le x y
  exact Nat.lt_of_lt_of_le (show (x + y).natAbs < 2 ^ 121 by have e : (2 : Nat) ^ 121 = 2 ^ 120 + 2 ^ 120 := by decide
                                                             omega) (Nat.pow_le_pow_right (by decide) (by decide))
theorem bds {x y : Int} (hx : x.natAbs < 2 ^ 120) (hy : y.natAbs < 2 ^ 120) : Bd (x - y) := by
  have := Int.natAbs_sub_le x y
  exact Nat.lt_of_lt_of_le (show (x - y).natAbs < 2 ^ 121 by have e : (2 : Nat) ^ 121 = 2 ^ 120 + 2 ^ 120 := by decide
                                                             omega) (Nat.pow_le_pow_right (by decide) (by decide))
theorem madeSame {C : Addr} {H H' : Hp} {p dx : Addr} (hp : H p = none) (hdx : H dx = none) (keep : ∀ a o, (upd (upd H dx (.own p)) p (.ins C dx [])) a = some o → a ≠ p → H' a = some o) : Same H H' := fun a o e => by
  have n : a ≠ p := ne_of_none e hp
  exact keep a o (by rw [upd_ne n, upd_ne (ne_of_none e hdx)]; exact e) n
theorem made_ok {X Y T B : Int} (hX : Bd X) (hY : Bd Y) (h0 : Y ≠ 0) (e : X * B = T * Y) : 0 < Fr.nb X Y ∧ Bd (Fr.nt X Y) ∧ Bd (Fr.nb X Y) ∧ Fr.nt X Y * B = T * Fr.nb X Y ∧ Nat.gcd (Fr.nt X Y).natAbs (Fr.nb X Y).natAbs = 1 :=
  ⟨Fr.nb_pos h0, Nat.lt_of_le_of_lt (Fr.nt_le h0) hX, Nat.lt_of_le_of_lt (Fr.nb_le h0) hY, frac h0 Fr.cross e, Fr.cop h0⟩
/-- is_share says True of what was made of X and Y, for equal fractions T / B -/
theorem is_made {C : Addr} {H : Hp} {Q : VK} {EE : XK} {r : Addr} {X Y T B : Int} (sh : ShAt C H r (Fr.nt X Y) (Fr.nb X Y)) (hX : Bd X) (hY : Bd Y) (hT : Bd T) (hB : Bd B) (h0 : Y ≠ 0) (e : X * B = T * Y) (k : Q (.bl true) H) : spIS C [.ref r, .int T, .int B] H Q EE :=
  ⟨r, Fr.nt X Y, Fr.nb X Y, T, B, rfl, sh, Fr.nb_pos h0, Nat.lt_of_le_of_lt (Fr.nt_le h0) hX, Nat.lt_of_le_of_lt (Fr.nb_le h0) hY, hT, hB, frac h0 Fr.cross e, Fr.cop h0, k⟩
section
variable {P : Program} {w : World} {K : PySem.W.Frag} {mg : Str → Option Value} {base : Heap} {C CE fI : Addr}
theorem ok_law {fa : Addr} {fd : FuncData} (F : Fun K "law" "law" sLaw fa fd) (T : Txt K mg) (TS : TxtS K mg C) (TE : TxtE K mg CE fI "BadNumber" "what" "number") (L : ClsL P w K mg base C)
    {fm : Addr} {fdm : FuncData} (MM : Mk K C fm) (GM : FnOk P w K mg base (L2.CX P w) 3 fm fdm ["self", "top", "bottom"] (spSI C CE)) (bM : Binds K fdm ["self", "top", "bottom"] []) {tk1 : Tok} (bD : Binds K fdm ["self", "top", "bottom"] [Value.int 1 tk1])
    (bA : BinZ P w K mg base C .Add "__add__" "__radd__" 5 (spOp C (fun _ b _ v => b * v ≠ 0) (fun t b u v => t * v + u * b) (fun _ b _ v => b * v)))
    (bS : BinZ P w K mg base C .Sub "__sub__" "__rsub__" 5 (spOp C (fun _ b _ v => b * v ≠ 0) (fun t b u v => t * v - u * b) (fun _ b _ v => b * v)))
    (bU : BinZ P w K mg base C .Mult "__mul__" "__rmul__" 5 (spOp C (fun _ b _ v => b * v ≠ 0) (fun t _ u _ => t * u) (fun _ b _ v => b * v)))
    (mO : MthZ P w K mg base C "over" 5 (spOp C (fun _ b u _ => b * u ≠ 0) (fun t _ _ v => t * v) (fun _ b u _ => b * u)))
    (mC : MthZ P w K mg base C "compared" 2 (spCm C V.int)) (mU : MthZ P w K mg base C "under" 3 (spCm C fun i => .bl (decide (i < 0)))) (mL : MthZ P w K mg base C "at_most" 3 (spCm C fun i => .bl (decide (i ≤ 0))))
    {fE : Addr} {fdE : FuncData} (BE : EqC K C fE) (GE : FnOk P w K mg base CX0 2 fE fdE ["self", "other"] (spSE C)) (bE : Binds K fdE ["self", "other"] []) : FnOk P w K mg base CX0 8 fa fd ["_law_script"] (spLaw K) := by
  obtain ⟨fA, fdA, BA, GA, bA⟩ := bA
  obtain ⟨fS, fdS, BS, GS, bS⟩ := bS
  obtain ⟨fU, fdU, BU, GU, bU⟩ := bU
  obtain ⟨fO, fdO, MO, GO, bO⟩ := mO
  obtain ⟨fC, fdC, MC, GC, bC⟩ := mC
  obtain ⟨fV, fdV, MV, GV, bV⟩ := mU
  obtain ⟨fL, fdL, ML, GL, bL⟩ := mL
  refine F.ok scLaw (fun vs H Q E h => ?_) (fun cdv A outer s H vs Q E hr h => ?_)
  · obtain ⟨a, ns, rfl, _⟩ := h
    rfl
  · obtain ⟨a, ns, rfl, hS, k⟩ := h
    have r1 : Room 1 _ := hr.mono (by decide)
    have r2 : Room 2 _ := hr.mono (by decide)
    have r3 : Room 3 _ := hr.mono (by decide)
    have r4 : Room 4 _ := hr.mono (by decide)
    have r5 : Room 5 _ := hr.mono (by decide)
    refine ⟨_, pss_cons (ps_set (i := 1) scLaw.nd rfl (Or.inr rfl) (pe_cl L.pen hr (by decide) rfl (pa_cons (pv 0) pa_nil)))
(C8.pss_cut (ps_for PassesOwn.never rfl (pi_range1 rfl (by exact T.range) (pa_cons pe_int pa_nil)) (pg_name (i := 2) scLaw.nd rfl (Or.inl rfl))
(C8.pss_cut (ps_asg (pe_lc (own := [("_law_k", 12)]) (g := gName 12) (tt := tYes) (te := tCall spIg [] E0 (tCons (tVar 1) tNil)) (by rfl) scLaw.nd (pi_range1 rfl (by exact T.range) (pa_cons pe_int pa_nil)) (blkOk_by (own := [("_law_k", 12)]) (N := NLaw) (sc := defScope sLaw) (by decide +kernel)) (fun _ _ _ _ _ => (pg_name (i := 12) scLaw.nd rfl (Or.inl rfl))) (fun _ _ _ _ _ => pts_nil) (fun _ _ _ _ _ => (pe_cl L.int hr (by decide) rfl (pa_cons (pv 1) pa_nil)))) (pg_unl (by rfl) (pgs_cons (pg_name (i := 3) scLaw.nd rfl (Or.inl rfl)) (pgs_cons (pg_name (i := 4) scLaw.nd rfl (Or.inl rfl)) (pgs_cons (pg_name (i := 5) scLaw.nd rfl (Or.inl rfl)) (pgs_cons (pg_name (i := 6) scLaw.nd rfl (Or.inl rfl)) pgs_nil))))))
(C8.pss_cut (ps_par (i := 4) (j := 6) (by rfl) scLaw.nd rfl rfl (by decide) rfl rfl  (pa_cons (pe_ifExp (pt_cmpR op_ne (pv 4) pe_int (nomark _)) (pv 4) pe_int) (pa_cons (pe_ifExp (pt_cmpR op_ne (pv 6) pe_int (nomark _)) (pv 6) (pe_un un_neg pe_int)) pa_nil)) (by rfl))
(C8.pss_cut (ps_par (i := 7) (j := 8) (by rfl) scLaw.nd rfl rfl (by decide) rfl rfl  (pa_cons (pe_make MM GM r4 rfl (by exact TS.gS) bM .nil passF (pa_cons (pv 3) (pa_cons (pv 4) pa_nil))) (pa_cons (pe_make MM GM r4 rfl (by exact TS.gS) bM .nil passF (pa_cons (pv 5) (pa_cons (pv 6) pa_nil))) pa_nil)) (by rfl))
(C8.pss_cut (ps_if (PW.pt (pw_or (pt_not (pt_val (pe_cl L.isS hr (by decide) rfl (pa_cons (pv 7) (pa_cons (pv 3) (pa_cons (pv 4) pa_nil)))))) (pw_or1 (pt_not (pt_val (pe_cl L.isS hr (by decide) rfl (pa_cons (pe_op (op_own BA GA r5 bA pass0) (pv 7) (pv 8)) (pa_cons (pe_op op_add (pe_op op_mul (pv 3) (pv 6)) (pe_op op_mul (pv 5) (pv 4))) (pa_cons (pe_op op_mul (pv 4) (pv 6)) pa_nil)))))))))
(pss_one (ps_ret pe_bl))
pss_nil)
(C8.pss_cut (ps_if (PW.pt (pw_or (pt_not (pt_val (pe_cl L.isS hr (by decide) rfl (pa_cons (pe_op (op_own BS GS r5 bS pass0) (pv 7) (pv 8)) (pa_cons (pe_op op_sub (pe_op op_mul (pv 3) (pv 6)) (pe_op op_mul (pv 5) (pv 4))) (pa_cons (pe_op op_mul (pv 4) (pv 6)) pa_nil)))))) (pw_or1 (pt_not (pt_val (pe_cl L.isS hr (by decide) rfl (pa_cons (pe_op (op_own BU GU r5 bU pass0) (pv 7) (pv 8)) (pa_cons (pe_op op_mul (pv 3) (pv 5)) (pa_cons (pe_op op_mul (pv 4) (pv 6)) pa_nil)))))))))
(pss_one (ps_ret pe_bl))
pss_nil)
(C8.pss_cut (ps_if (PW.pt (pw_or (pt_not (pt_val (pe_cl L.isS hr (by decide) rfl (pa_cons (pe_op (op_own BA GA r5 bA pass0) (pv 7) (pv 5)) (pa_cons (pe_op op_add (pv 3) (pe_op op_mul (pv 5) (pv 4))) (pa_cons (pv 4) pa_nil)))))) (pw_or1 (pt_not (pt_val (pe_cl L.isS hr (by decide) rfl (pa_cons (pe_op (op_own BU GU r5 bU pass0) (pv 7) (pv 6)) (pa_cons (pe_op op_mul (pv 3) (pv 6)) (pa_cons (pv 4) pa_nil)))))))))
(pss_one (ps_ret pe_bl))
pss_nil)
(C8.pss_cut (ps_if (PW.pt (pw_or (PW.pt (pw_and (pt_cmpR op_ne (pv 5) pe_int (nomark _)) (pw_and1 (pt_not (pt_val (pe_cl L.isS hr (by decide) rfl (pa_cons (pe_meth (pv 7) TS.cl MO GO r5 bO .nil pass0 (pa_cons (pv 8) pa_nil)) (pa_cons (pe_op op_mul (pv 3) (pv 6)) (pa_cons (pe_op op_mul (pv 4) (pv 5)) pa_nil))))))))) (pw_or1 (pt_not (pt_val (pe_cl L.isS hr (by decide) rfl (pa_cons (pe_meth (pv 7) TS.cl MO GO r5 bO .nil pass0 (pa_cons (pv 6) pa_nil)) (pa_cons (pv 3) (pa_cons (pe_op op_mul (pv 4) (pv 6)) pa_nil)))))))))
(pss_one (ps_ret pe_bl))
pss_nil)
(C8.pss_cut (ps_set (i := 9) scLaw.nd rfl (Or.inl rfl) (pe_op op_mul (pe_op op_sub (pe_op op_mul (pv 3) (pv 6)) (pe_op op_mul (pv 5) (pv 4))) (pe_ifExp (pt_cmpR op_gt (pe_op op_mul (pv 4) (pv 6)) pe_int (nomark _)) pe_int (pe_un un_neg pe_int))))
(C8.pss_cut (ps_if (pt_cmpR (op_neD (hu64 hr)) (pe_tup (pa_cons (pe_cmpR op_gt (pe_meth (pv 7) TS.cl MC GC r2 bC .nil pass0 (pa_cons (pv 8) pa_nil)) pe_int (nomark _)) (pa_cons (pe_cmpR op_lt (pe_meth (pv 7) TS.cl MC GC r2 bC .nil pass0 (pa_cons (pv 8) pa_nil)) pe_int (nomark _)) pa_nil))) (pe_tup (pa_cons (pe_cmpR op_gt (pv 9) pe_int (nomark _)) (pa_cons (pe_cmpR op_lt (pv 9) pe_int (nomark _)) pa_nil))) (nomark _))
(pss_one (ps_ret pe_bl))
pss_nil)
(C8.pss_cut (ps_if (pt_cmpR (op_neD (hu64 hr)) (pe_tup (pa_cons (pe_meth (pv 7) TS.cl MV GV r3 bV .nil pass0 (pa_cons (pv 8) pa_nil)) (pa_cons (pe_meth (pv 7) TS.cl ML GL r3 bL .nil pass0 (pa_cons (pv 8) pa_nil)) (pa_cons (pe_cmpR (op_eqO BE GE r2 bE pass0) (pv 7) (pv 8) (nomark _)) pa_nil)))) (pe_tup (pa_cons (pe_cmpR op_lt (pv 9) pe_int (nomark _)) (pa_cons (pe_cmpR op_le (pv 9) pe_int (nomark _)) (pa_cons (pe_cmpR op_eq (pv 9) pe_int (nomark _)) pa_nil)))) (nomark _))
(pss_one (ps_ret pe_bl))
pss_nil)
(C8.pss_cut (ps_set (i := 9) scLaw.nd rfl (Or.inl rfl) (pe_op op_mul (pe_op op_sub (pv 3) (pe_op op_mul (pv 5) (pv 4))) (pe_ifExp (pt_cmpR op_gt (pv 4) pe_int (nomark _)) pe_int (pe_un un_neg pe_int))))
(C8.pss_cut (ps_set (i := 10) scLaw.nd rfl (Or.inl rfl) (pe_lst (pa_cons (pe_cmpR op_gt (pe_meth (pv 7) TS.cl MC GC r2 bC .nil pass0 (pa_cons (pv 5) pa_nil)) pe_int (nomark _)) (pa_cons (pe_cmpR op_lt (pe_meth (pv 7) TS.cl MC GC r2 bC .nil pass0 (pa_cons (pv 5) pa_nil)) pe_int (nomark _)) (pa_cons (pe_meth (pv 7) TS.cl MV GV r3 bV .nil pass0 (pa_cons (pv 5) pa_nil)) (pa_cons (pe_meth (pv 7) TS.cl ML GL r3 bL .nil pass0 (pa_cons (pv 5) pa_nil)) pa_nil))))))
(C8.pss_cut (ps_if (pt_cmpR (op_neD (hu64 hr)) (pv 10) (pe_lst (pa_cons (pe_cmpR op_gt (pv 9) pe_int (nomark _)) (pa_cons (pe_cmpR op_lt (pv 9) pe_int (nomark _)) (pa_cons (pe_cmpR op_lt (pv 9) pe_int (nomark _)) (pa_cons (pe_cmpR op_le (pv 9) pe_int (nomark _)) pa_nil))))) (nomark _))
(pss_one (ps_ret pe_bl))
pss_nil)
(C8.pss_cut (ps_if (pt_not (pt_val (pe_cl L.isS hr (by decide) rfl (pa_cons (pe_op (op_own BS GS r5 bS pass0) (pv 7) (pv 5)) (pa_cons (pe_op op_sub (pv 3) (pe_op op_mul (pv 5) (pv 4))) (pa_cons (pv 4) pa_nil))))))
(pss_one (ps_ret pe_bl))
pss_nil)
(C8.pss_cut (ps_if (pt_cmpR (op_neD (hu64 hr)) (pe_tup (pa_cons (pe_cmpR (op_eqO BE GE r2 bE pass0) (pe_make MM GM r4 rfl (by exact TS.gS) bD (.cons ⟨tk1, rfl⟩ .nil : Vals [V.int 1] _) passF (pa_cons (pv 3) pa_nil)) (pv 3) (nomark _)) (pa_cons (pe_cmpR (op_eqO BE GE r2 bE pass0) (pe_make MM GM r4 rfl (by exact TS.gS) bM .nil passF (pa_cons (pe_op op_mul (pv 3) (pv 4)) (pa_cons (pv 4) pa_nil))) (pv 3) (nomark _)) (pa_cons (pe_cmpR (op_eqO BE GE r2 bE pass0) (pe_make MM GM r4 rfl (by exact TS.gS) bD (.cons ⟨tk1, rfl⟩ .nil : Vals [V.int 1] _) passF (pa_cons pe_int pa_nil)) pe_bl (nomark _)) (pa_cons (pe_cmpR (op_eqO BE GE r2 bE pass0) (pv 7) pe_str (nomark _)) pa_nil))))) (pe_tup (pa_cons pe_bl (pa_cons pe_bl (pa_cons pe_bl (pa_cons pe_bl pa_nil))))) (nomark _))
(pss_one (ps_ret pe_bl))
pss_nil)
(pss_one (ps_if (pt_not (pt_val (pe_cl L.tr hr (by decide) rfl (pa_cons (pv 1) (pa_cons (pv 7) pa_nil)))))
(pss_one (ps_ret pe_bl))
pss_nil))))))))))))))))))
(pss_cons (ps_try_as (i := 11) (tb := fun W => bTn CE W) (ts := cTn CE) (Wout := fun _ _ _ _ => False) rfl rfl scLaw.nd rfl rfl ⟨rfl, by decide, Or.inl TE.gC⟩ takes0
      (fun W pn xe tk _ => pss_pre (pss_one (ps_expr (pe_make MM GM r4 rfl (by exact TS.gS) bM .nil (E := fun cls d H => ∀ σ, W cls d σ H) (passes_call tk (fun cls d σ H h => h σ)) (pa_cons (pe_cl L.int hr (by decide) rfl (pa_cons (pv 1) pa_nil)) (pa_cons pe_int pa_nil))))) (fun D σ H hb => ?_))
      (fun a oe cls d pn hz hf => pss_preL (pss_one (ps_ret (pe_and (pe_cmpR op_eq (pe_xf TE.xf TE.n1 hz hf (pv 11)) pe_str (nomark _)) (pe_one (pe_cmpR op_eq (pe_xf TE.xf TE.n2 hz hf (pv 11)) pe_int (nomark _)))))) (fun D σ H hl hb => ?_)))
(pss_one (ps_ret pe_bl)))), ?_⟩
    · obtain ⟨a, p, c, m, x2, x3, x4, x5, x6, x7, x8, x9, x10, rfl, HP, hm, kk⟩ := hb
      refine ⟨_, rfl, p, c, m, rfl, HP, hm, fun v G hv B HP1 x dx hx hdx hne => ?_⟩
      refine ⟨x, dx, v, 0, rfl, upd_same, Nat.lt_of_lt_of_le hv (Nat.pow_le_pow_right (by decide) (by decide)), by decide, fun z => absurd rfl z, fun _ d H' hE σ => kk σ d H' hE.2.2⟩
    · obtain ⟨dd, rfl, rfl, hs, hd, kk⟩ := hb
      have hs := hs hl
      refine ⟨_, hs, rfl, rfl, dd, _, _, rfl, hd, (by rfl), rfl, true, rfl, ?_⟩
      refine iteT ?_
      have e0 : decide (V.int 0 = V.int 0) = true := decide_eq_true rfl
      rw [← e0] at kk
      exact ⟨_, hs, rfl, rfl, dd, _, V.int 0, rfl, hd, (by rfl), rfl, kk⟩
    · refine ⟨_, rfl, a, ns, rfl, hS, fun pn c H0 _ _ HP0 => ?_⟩
      refine ⟨fun σ G => ∃ x2 x3 x4 x5 x6 x7 x8 x9 x10 : Option V, σ = [some (.ref a), some (.ref pn), x2, x3, x4, x5, x6, x7, x8, x9, x10, none, none] ∧ PenAt G pn c 2000, ?_, ?_⟩
      · refine ⟨4, rfl, by decide, by decide, for_range (n := 4) (fun i σ G => ∃ x2 x3 x4 x5 x6 x7 x8 x9 x10 : Option V, σ = [some (.ref a), some (.ref pn), x2, x3, x4, x5, x6, x7, x8, x9, x10, none, none] ∧ PenAt G pn c (400 * i))
          ⟨_, _, _, _, _, _, _, _, _, rfl, HP0⟩ ?_ ?_⟩
        · rintro i σ G hi ⟨x2, x3, x4, x5, x6, x7, x8, x9, x10, rfl, HP⟩
          refine ⟨fun σ G' => ∃ A B U D : Int, σ = [some (.ref a), some (.ref pn), some (.int (0 + (i : Int))), some (.int A), some (.int B), some (.int U), some (.int D), x7, x8, x9, x10, none, none] ∧ A.natAbs < 2 ^ 60 ∧ B.natAbs < 2 ^ 60 ∧ U.natAbs < 2 ^ 60 ∧ D.natAbs < 2 ^ 60 ∧ PenAt G' pn c (400 * i + 40), ?_, ?_⟩
          · refine ⟨4, rfl, by decide, by decide, fun D hD => ?_⟩
            have npD : pn ≠ D := ne_of_none HP.dict.choose_spec hD
            have ncD : c ≠ D := ne_of_none HP.cells.choose_spec hD
            refine lc_range (lo := 0) (n := 4) (fun j G' => ∃ vs : List Int, G' D = some (.lst (vs.map V.int)) ∧ vs.length = j ∧ (∀ v ∈ vs, v.natAbs < 2 ^ 60) ∧ PenAt G' pn c (400 * i + 10 * j))
              ⟨[], upd_same, rfl, (fun v h => nomatch h), HP.put npD ncD⟩ ?_ ?_
            · rintro j G2 hj ⟨vs, hD2, hl, hv, HP2⟩
              refine ⟨rfl, ?_⟩
              refine ⟨_, rfl, pn, c, _, rfl, HP2, by omega, fun v G3 hv3 B3 HP3 => ?_⟩
              have hD3 : G3 D = some (.lst (vs.map V.int)) := B3 _ _ hD2 npD.symm
              refine ⟨_, hD3, by rw [List.length_map, sizeLine_eq]; omega, vs ++ [v], by rw [upd_same, List.map_append]; rfl, by rw [List.length_append, hl]; rfl, fun z hz => ?_, (HP3.mono (by omega)).put npD ncD⟩
              rcases List.mem_append.mp hz with h | h
              · exact hv z h
              · rw [List.mem_singleton.mp h]; exact hv3
            · rintro G2 ⟨vs, hD2, hl, hv, HP2⟩
              match vs, hl, hv, hD2 with
              | [A, B, U, D'], _, hv, hD2 =>
                exact ⟨D, _, rfl, .inl (.inl hD2), rfl, _, _, rfl, _, _, rfl, _, _, rfl, _, _, rfl, rfl, A, B, U, D', rfl, hv A (by simp), hv B (by simp), hv U (by simp), hv D' (by simp), HP2⟩
          rintro σ G1 ⟨A, B, U, D, rfl, hA, hB, hU, hD, HP1⟩
          refine ⟨fun σ G' => ∃ B D : Int, σ = [some (.ref a), some (.ref pn), some (.int (0 + (i : Int))), some (.int A), some (.int B), some (.int U), some (.int D), x7, x8, x9, x10, none, none] ∧ B.natAbs < 2 ^ 60 ∧ D.natAbs < 2 ^ 60 ∧ B ≠ 0 ∧ D ≠ 0 ∧ G' = G1, ?_, ?_⟩
          · refine ⟨_, rfl, rfl, _, rfl, ?_⟩
            refine ite2 (fun h => ?_) (fun h => ?_)
            · have h : B ≠ 0 := fun z => by rw [z] at h; exact absurd h (by decide)
              refine ⟨_, rfl, _, rfl, rfl, _, rfl, ?_⟩
              refine ite2 (fun h' => ?_) (fun h' => ?_)
              · have h' : D ≠ 0 := fun z => by rw [z] at h'; exact absurd h' (by decide)
                exact ⟨_, rfl, _, _, rfl, B, D, rfl, hB, hD, h, h', rfl⟩
              · exact ⟨_, rfl, _, _, rfl, B, -3, rfl, hB, by decide, h, by decide, rfl⟩
            · refine ⟨_, rfl, rfl, _, rfl, ?_⟩
              refine ite2 (fun h' => ?_) (fun h' => ?_)
              · have h' : D ≠ 0 := fun z => by rw [z] at h'; exact absurd h' (by decide)
                exact ⟨_, rfl, _, _, rfl, 1, D, rfl, by decide, hD, by decide, h', rfl⟩
              · exact ⟨_, rfl, _, _, rfl, 1, -3, rfl, by decide, by decide, by decide, by decide, rfl⟩
          clear hB hD
          rintro σ G2 ⟨B, D, rfl, hB, hD, hB0, hD0, rfl⟩
          have p8 : ∀ {x : Int}, x.natAbs < 2 ^ 60 → x.natAbs < 2 ^ 8000 := fun h => Nat.lt_of_lt_of_le h (Nat.pow_le_pow_right (by decide) (by decide))
          refine ⟨fun σ G' => ∃ q1 q2 : Addr, σ = [some (.ref a), some (.ref pn), some (.int (0 + (i : Int))), some (.int A), some (.int B), some (.int U), some (.int D), some (.ref q1), some (.ref q2), x9, x10, none, none] ∧ ShAt C G' q1 (Fr.nt A B) (Fr.nb A B) ∧ ShAt C G' q2 (Fr.nt U D) (Fr.nb U D) ∧ PenAt G' pn c (400 * i + 40), ?_, ?_⟩
          · refine ⟨_, rfl, _, rfl, fun r1 dx1 hr1 hdx1 _ => ⟨r1, dx1, A, B, rfl, upd_same, p8 hA, p8 hB, fun _ H1 keep1 sh1 => ⟨rfl, ?_⟩, fun z => absurd z hB0⟩⟩
            have s1 := madeSame hr1 hdx1 keep1
            refine ⟨_, rfl, _, rfl, fun r2 dx2 hr2 hdx2 _ => ⟨r2, dx2, U, D, rfl, upd_same, p8 hU, p8 hD, fun _ H2 keep2 sh2 => ⟨rfl, ?_⟩, fun z => absurd z hD0⟩⟩
            have s2 := madeSame hr2 hdx2 keep2
            exact ⟨_, _, rfl, r1, r2, rfl, sh1.same s2, sh2, HP1.same (s1.trans s2)⟩
          rintro σ G3 ⟨q1, q2, rfl, sh1, sh2, HP3⟩
          have hv0 := Fr.nb_pos (t := A) hB0
          have hv20 := Fr.nb_pos (t := U) hD0
          have c1 := Fr.cross (t := A) (b := B)
          have c2 := Fr.cross (t := U) (b := D)
          have hu : (Fr.nt A B).natAbs < 2 ^ 60 := Nat.lt_of_le_of_lt (Fr.nt_le hB0) hA
          have hv : (Fr.nb A B).natAbs < 2 ^ 60 := Nat.lt_of_le_of_lt (Fr.nb_le hB0) hB
          have hu2 : (Fr.nt U D).natAbs < 2 ^ 60 := Nat.lt_of_le_of_lt (Fr.nt_le hD0) hU
          have hv2 : (Fr.nb U D).natAbs < 2 ^ 60 := Nat.lt_of_le_of_lt (Fr.nb_le hD0) hD
          have g1 := Fr.cop (t := A) hB0
          have g2 := Fr.cop (t := U) hD0
          have hM1 : ∀ {G}, ShAt C G q1 (Fr.nt A B) (Fr.nb A B) → Num C G (.ref q1) (Fr.nt A B) (Fr.nb A B) := fun h => .inr ⟨q1, rfl, h⟩
          have hvv : Fr.nb A B * Fr.nb U D ≠ 0 := Int.mul_ne_zero (by omega) (by omega)
          have hBD : B * D ≠ 0 := Int.mul_ne_zero hB0 hD0
          have mm : ∀ {x y : Int}, x.natAbs < 2 ^ 60 → y.natAbs < 2 ^ 60 → CMul x y := fun hx hy => .inl ⟨by omega, by omega⟩
          refine ⟨fun σ G' => σ = [some (.ref a), some (.ref pn), some (.int (0 + (i : Int))), some (.int A), some (.int B), some (.int U), some (.int D), some (.ref q1), some (.ref q2), x9, x10, none, none] ∧ Same G3 G', ?_, ?_⟩
          · refine ⟨_, rfl, _, rfl, _, rfl, q1, Fr.nt A B, Fr.nb A B, A, B, rfl, sh1, hv0, bd60 hu, bd60 hv, bd60 hA, bd60 hB, c1, g1, _, rfl, ?_⟩
            refine (if_neg (by decide)).mpr ?_
            obtain ⟨dx1, ho1⟩ := id sh1
            obtain ⟨dx2, ho2⟩ := id sh2
            refine ⟨_, rfl, _, rfl, q1, dx1, _, rfl, ho1, .inl ⟨q2, dx2, _, rfl, ho2⟩, q1, .ref q2, _, _, _, _, rfl, sh1, .inr ⟨q2, rfl, sh2⟩, bd60 hu, bd60 hv, bd60 hu2, bd60 hv2, hvv, fun r H' hr' s' sh => ?_⟩
            refine ⟨_, rfl, _, rfl, _, _, rfl, rfl, mm hA hD, _, rfl, _, rfl, _, _, rfl, rfl, mm hU hB, _, _, rfl, rfl, _, rfl, _, rfl, _, _, rfl, rfl, mm hB hD, ?_⟩
            obtain ⟨f1, f2, f3, f4, f5⟩ := made_ok (bda (m60 hu hv2) (m60 hu2 hv)) (bd120 (m60 hv hv2)) hvv (fr_add c1 c2)
            refine ⟨r, _, _, _, _, rfl, sh, f1, f2, f3, bda (m60 hA hD) (m60 hU hB), bd120 (m60 hB hD), f4, f5, _, rfl, ?_⟩
            refine (if_neg (by decide)).mpr ?_
            exact ⟨rfl, s'⟩
          rintro σ G4 ⟨rfl, s4⟩
          have b1 : ∀ {x : Int}, x.natAbs < 2 ^ 60 → x.natAbs < 2 ^ 120 := fun h => Nat.lt_of_lt_of_le h (Nat.pow_le_pow_right (by decide) (by decide))
          refine ⟨fun σ G' => σ = [some (.ref a), some (.ref pn), some (.int (0 + (i : Int))), some (.int A), some (.int B), some (.int U), some (.int D), some (.ref q1), some (.ref q2), x9, x10, none, none] ∧ Same G3 G', ?_, ?_⟩
          · have sh1 := sh1.same s4
            have sh2 := sh2.same s4
            obtain ⟨dx1, ho1⟩ := id sh1
            obtain ⟨dx2, ho2⟩ := id sh2
            refine ⟨_, rfl, _, rfl, q1, dx1, _, rfl, ho1, .inl ⟨q2, dx2, _, rfl, ho2⟩, q1, .ref q2, _, _, _, _, rfl, sh1, .inr ⟨q2, rfl, sh2⟩, bd60 hu, bd60 hv, bd60 hu2, bd60 hv2, hvv, fun r H' hr' s' sh => ?_⟩
            refine ⟨_, rfl, _, rfl, _, _, rfl, rfl, mm hA hD, _, rfl, _, rfl, _, _, rfl, rfl, mm hU hB, _, _, rfl, rfl, _, rfl, _, rfl, _, _, rfl, rfl, mm hB hD, ?_⟩
            obtain ⟨f1, f2, f3, f4, f5⟩ := made_ok (bds (m60 hu hv2) (m60 hu2 hv)) (bd120 (m60 hv hv2)) hvv (fr_sub c1 c2)
            refine ⟨r, _, _, _, _, rfl, sh, f1, f2, f3, bds (m60 hA hD) (m60 hU hB), bd120 (m60 hB hD), f4, f5, _, rfl, ?_⟩
            refine (if_neg (by decide)).mpr ?_
            have sh1 := sh1.same s'
            have sh2 := sh2.same s'
            obtain ⟨dx1, ho1⟩ := id sh1
            obtain ⟨dx2, ho2⟩ := id sh2
            refine ⟨_, rfl, _, rfl, q1, dx1, _, rfl, ho1, .inl ⟨q2, dx2, _, rfl, ho2⟩, q1, .ref q2, _, _, _, _, rfl, sh1, .inr ⟨q2, rfl, sh2⟩, bd60 hu, bd60 hv, bd60 hu2, bd60 hv2, hvv, fun r2 H2 hr2 s2 shb => ?_⟩
            refine ⟨_, rfl, _, rfl, _, _, rfl, rfl, mm hA hU, _, rfl, _, rfl, _, _, rfl, rfl, mm hB hD, ?_⟩
            obtain ⟨e1, e2, e3, e4, e5⟩ := made_ok (bd120 (m60 hu hu2)) (bd120 (m60 hv hv2)) hvv (fr_mul c1 c2)
            refine ⟨r2, _, _, _, _, rfl, shb, e1, e2, e3, bd120 (m60 hA hU), bd120 (m60 hB hD), e4, e5, _, rfl, ?_⟩
            refine (if_neg (by decide)).mpr ?_
            exact ⟨rfl, (s4.trans s').trans s2⟩
          rintro σ G5 ⟨rfl, s5⟩
          have hv1 : Fr.nb A B * 1 ≠ 0 := by omega
          have h1s : (1 : Int).natAbs < 2 ^ 60 := by decide
          refine ⟨fun σ G' => σ = [some (.ref a), some (.ref pn), some (.int (0 + (i : Int))), some (.int A), some (.int B), some (.int U), some (.int D), some (.ref q1), some (.ref q2), x9, x10, none, none] ∧ Same G3 G', ?_, ?_⟩
          · have sh1 := sh1.same s5
            obtain ⟨dx1, ho1⟩ := id sh1
            refine ⟨_, rfl, _, rfl, q1, dx1, _, rfl, ho1, .inr ⟨U, rfl⟩, q1, .int U, _, _, U, 1, rfl, sh1, .inl ⟨rfl, rfl⟩, bd60 hu, bd60 hv, bd60 hU, bd60 h1s, hv1, fun r H' hr' s' sh => ?_⟩
            refine ⟨_, rfl, _, rfl, _, rfl, _, _, rfl, rfl, mm hU hB, _, _, rfl, rfl, _, rfl, ?_⟩
            obtain ⟨f1, f2, f3, f4, f5⟩ := made_ok (bda (m60 hu h1s) (m60 hU hv)) (bd120 (m60 hv h1s)) hv1 (fr_addi (C := U) c1)
            refine ⟨r, _, _, _, _, rfl, sh, f1, f2, f3, bda (b1 hA) (m60 hU hB), bd60 hB, f4, f5, _, rfl, ?_⟩
            refine (if_neg (by decide)).mpr ?_
            have sh1 := sh1.same s'
            obtain ⟨dx1, ho1⟩ := id sh1
            refine ⟨_, rfl, _, rfl, q1, dx1, _, rfl, ho1, .inr ⟨D, rfl⟩, q1, .int D, _, _, D, 1, rfl, sh1, .inl ⟨rfl, rfl⟩, bd60 hu, bd60 hv, bd60 hD, bd60 h1s, hv1, fun r2 H2 hr2 s2 shb => ?_⟩
            refine ⟨_, rfl, _, rfl, _, _, rfl, rfl, mm hA hD, _, rfl, ?_⟩
            obtain ⟨e1, e2, e3, e4, e5⟩ := made_ok (bd120 (m60 hu hD)) (bd120 (m60 hv h1s)) hv1 (fr_muli (D := D) c1)
            refine ⟨r2, _, _, _, _, rfl, shb, e1, e2, e3, bd120 (m60 hA hD), bd60 hB, e4, e5, _, rfl, ?_⟩
            refine (if_neg (by decide)).mpr ?_
            exact ⟨rfl, (s5.trans s').trans s2⟩
          rintro σ G6 ⟨rfl, s6⟩
          have hnoO : ∀ (t b : Int), (sf t b).lookup ("over" : Str) = none := fun t b => sf_no t b (by decide +kernel) (by decide +kernel)
          refine ⟨fun σ G' => σ = [some (.ref a), some (.ref pn), some (.int (0 + (i : Int))), some (.int A), some (.int B), some (.int U), some (.int D), some (.ref q1), some (.ref q2), x9, x10, none, none] ∧ Same G3 G', ?_, ?_⟩
          · have e7 := made_ok (bd120 (m60 hu h1s)) (bd120 (m60 hv hD)) (Int.mul_ne_zero (by omega) hD0) (fr_overi (D := D) c1)
            obtain ⟨z1, z2, z3, z4, z5⟩ := e7
            refine ⟨_, rfl, rfl, _, rfl, ?_⟩
            refine ite2 (fun hU0 => ?_) (fun hU0 => ?_)
            · have hU0 : U ≠ 0 := fun z => by rw [z] at hU0; exact absurd hU0 (by decide)
              have hu20 : Fr.nt U D ≠ 0 := by
                intro z
                rw [z, Int.zero_mul] at c2
                rcases Int.mul_eq_zero.mp c2.symm with q | q
                · exact hU0 q
                · omega
              have hvu : Fr.nb A B * Fr.nt U D ≠ 0 := Int.mul_ne_zero (by omega) hu20
              have sh1' := sh1.same s6
              have sh2' := sh2.same s6
              obtain ⟨dx1, ho1⟩ := id sh1'
              obtain ⟨dx2, ho2⟩ := id sh2'
              refine ⟨_, rfl, q1, dx1, _, rfl, ho1, hnoO _ _, _, rfl, q1, .ref q2, _, _, _, _, rfl, sh1', .inr ⟨q2, rfl, sh2'⟩, bd60 hu, bd60 hv, bd60 hu2, bd60 hv2, hvu, fun r H' hr' s' sh => ?_⟩
              refine ⟨_, rfl, _, rfl, _, _, rfl, rfl, mm hA hD, _, rfl, _, rfl, _, _, rfl, rfl, mm hB hU, ?_⟩
              obtain ⟨f1, f2, f3, f4, f5⟩ := made_ok (bd120 (m60 hu hv2)) (bd120 (m60 hv hu2)) hvu (fr_over c1 c2)
              refine ⟨r, _, _, _, _, rfl, sh, f1, f2, f3, bd120 (m60 hA hD), bd120 (m60 hB hU), f4, f5, _, rfl, ?_⟩
              refine (if_neg (by decide)).mpr ?_
              have s7 := s6.trans s'
              have sh1'' := sh1.same s7
              obtain ⟨dx1, ho1⟩ := id sh1''
              refine ⟨_, rfl, q1, dx1, _, rfl, ho1, hnoO _ _, _, rfl, q1, .int D, _, _, D, 1, rfl, sh1'', .inl ⟨rfl, rfl⟩, bd60 hu, bd60 hv, bd60 hD, bd60 h1s, Int.mul_ne_zero (by omega) hD0, fun r2 G8 hr8 s8' shb => ?_⟩
              have s8 := s7.trans s8'
              refine ⟨_, rfl, _, rfl, _, rfl, _, _, rfl, rfl, mm hB hD, ?_⟩
              refine ⟨r2, _, _, _, _, rfl, shb, z1, z2, z3, bd60 hA, bd120 (m60 hB hD), z4, z5, _, rfl, ?_⟩
              refine (if_neg (by decide)).mpr ?_
              exact ⟨rfl, s8⟩
            · refine iteF ?_
              have sh1'' := sh1.same s6
              obtain ⟨dx1, ho1⟩ := id sh1''
              refine ⟨_, rfl, q1, dx1, _, rfl, ho1, hnoO _ _, _, rfl, q1, .int D, _, _, D, 1, rfl, sh1'', .inl ⟨rfl, rfl⟩, bd60 hu, bd60 hv, bd60 hD, bd60 h1s, Int.mul_ne_zero (by omega) hD0, fun r2 G8 hr8 s8' shb => ?_⟩
              have s8 := s6.trans s8'
              refine ⟨_, rfl, _, rfl, _, rfl, _, _, rfl, rfl, mm hB hD, ?_⟩
              refine ⟨r2, _, _, _, _, rfl, shb, z1, z2, z3, bd60 hA, bd120 (m60 hB hD), z4, z5, _, rfl, ?_⟩
              refine (if_neg (by decide)).mpr ?_
              exact ⟨rfl, s8⟩
          rintro σ G7 ⟨rfl, s7⟩
          have hg1 := sg_gap (w := Fr.nt A B * Fr.nb U D - Fr.nt U D * Fr.nb A B) hBD (Int.mul_pos hv0 hv20) (fr_sub c1 c2)
          refine ⟨fun σ G' => σ = [some (.ref a), some (.ref pn), some (.int (0 + (i : Int))), some (.int A), some (.int B), some (.int U), some (.int D), some (.ref q1), some (.ref q2), some (.int (gapv (A * D - U * B) (B * D))), x10, none, none] ∧ Same G3 G', ?_, ?_⟩
          · refine ⟨_, rfl, _, rfl, _, _, rfl, rfl, mm hA hD, _, rfl, _, rfl, _, _, rfl, rfl, mm hU hB, _, _, rfl, rfl, _, rfl, _, rfl, _, _, rfl, rfl, mm hB hD, _, _, rfl, rfl, _, rfl, ?_⟩
            refine ite2 (fun h => ?_) (fun h => ?_)
            · have h : 0 < B * D := of_decide_eq_true h
              refine ⟨_, _, rfl, rfl, .inr ⟨by decide, by decide⟩, ?_⟩
              have e : gapv (A * D - U * B) (B * D) = (A * D - U * B) * 1 := by unfold gapv; rw [if_pos h]
              rw [e]
              exact ⟨rfl, s7⟩
            · have h : ¬ 0 < B * D := fun z => h (decide_eq_true z)
              refine ⟨_, rfl, _, _, rfl, rfl, .inr ⟨by decide, by decide⟩, ?_⟩
              have e : gapv (A * D - U * B) (B * D) = (A * D - U * B) * -1 := by unfold gapv; rw [if_neg h]
              rw [e]
              exact ⟨rfl, s7⟩
          rintro σ G8 ⟨rfl, s8⟩
          have hnoC : ∀ (t b : Int), (sf t b).lookup ("compared" : Str) = none := fun t b => sf_no t b (by decide +kernel) (by decide +kernel)
          refine ⟨fun σ G' => σ = [some (.ref a), some (.ref pn), some (.int (0 + (i : Int))), some (.int A), some (.int B), some (.int U), some (.int D), some (.ref q1), some (.ref q2), some (.int (gapv (A * D - U * B) (B * D))), x10, none, none] ∧ Same G3 G', ?_, ?_⟩
          · have sh1' := sh1.same s8
            have sh2' := sh2.same s8
            obtain ⟨dx1, ho1⟩ := id sh1'
            refine ⟨_, rfl, q1, dx1, _, rfl, ho1, hnoC _ _, _, rfl, q1, .ref q2, _, _, _, _, rfl, sh1', .inr ⟨q2, rfl, sh2'⟩, bd60 hu, bd60 hv, bd60 hu2, bd60 hv2, fun H1 t1 => ⟨_, _, rfl, rfl, ?_⟩⟩
            have sh1'' := sh1'.same t1
            have sh2'' := sh2'.same t1
            obtain ⟨dx2, ho2⟩ := id sh1''
            refine ⟨_, rfl, q1, dx2, _, rfl, ho2, hnoC _ _, _, rfl, q1, .ref q2, _, _, _, _, rfl, sh1'', .inr ⟨q2, rfl, sh2''⟩, bd60 hu, bd60 hv, bd60 hu2, bd60 hv2, fun H2 t2 => ⟨_, _, rfl, rfl, by show 2 ≤ sizeLine; decide, fun tt ht => ?_⟩⟩
            refine ⟨_, rfl, _, _, rfl, rfl, _, rfl, _, _, rfl, rfl, by show 2 ≤ sizeLine; decide, fun tu hu' => ?_⟩
            have t3 := Same.new (o := .tup [V.bl (decide (0 < Fr.nt A B * Fr.nb U D - Fr.nt U D * Fr.nb A B)), V.bl (decide (Fr.nt A B * Fr.nb U D - Fr.nt U D * Fr.nb A B < 0))]) ht
            have t4 := Same.new (o := .tup [V.bl (decide (0 < gapv (A * D - U * B) (B * D))), V.bl (decide (gapv (A * D - U * B) (B * D) < 0))]) hu'
            refine ⟨.tuple [.bool (decide (0 < Fr.nt A B * Fr.nb U D - Fr.nt U D * Fr.nb A B)), .bool (decide (Fr.nt A B * Fr.nb U D - Fr.nt U D * Fr.nb A B < 0))], .tuple [.bool (decide (0 < gapv (A * D - U * B) (B * D))), .bool (decide (gapv (A * D - U * B) (B * D) < 0))], .tup (.inl (.inl (t4 _ _ upd_same))) (.cons (.bl _) (.cons (.bl _) .nil)), .tup (.inl (.inl upd_same)) (.cons (.bl _) (.cons (.bl _) .nil)), rfl, rfl, _, rfl, ?_⟩
            have eb1 : decide (0 < Fr.nt A B * Fr.nb U D - Fr.nt U D * Fr.nb A B) = decide (0 < gapv (A * D - U * B) (B * D)) := decide_eq_decide.mpr hg1.1
            have eb2 : decide (Fr.nt A B * Fr.nb U D - Fr.nt U D * Fr.nb A B < 0) = decide (gapv (A * D - U * B) (B * D) < 0) := decide_eq_decide.mpr hg1.2
            rw [eb1, eb2]
            refine (if_neg (by simp [PyData.eqv, PyData.eqvAll])).mpr ?_
            exact ⟨rfl, (((s8.trans t1).trans t2).trans t3).trans t4⟩
          rintro σ G9 ⟨rfl, s9⟩
          have hnoV : ∀ (t b : Int), (sf t b).lookup ("under" : Str) = none := fun t b => sf_no t b (by decide +kernel) (by decide +kernel)
          have hnoL : ∀ (t b : Int), (sf t b).lookup ("at_most" : Str) = none := fun t b => sf_no t b (by decide +kernel) (by decide +kernel)
          generalize gapv (A * D - U * B) (B * D) = gp at *
          refine ⟨fun σ G' => σ = [some (.ref a), some (.ref pn), some (.int (0 + (i : Int))), some (.int A), some (.int B), some (.int U), some (.int D), some (.ref q1), some (.ref q2), some (.int gp), x10, none, none] ∧ Same G3 G', ?_, ?_⟩
          · have sh1' := sh1.same s9
            have sh2' := sh2.same s9
            obtain ⟨dx1, ho1⟩ := id sh1'
            refine ⟨_, rfl, q1, dx1, _, rfl, ho1, hnoV _ _, _, rfl, q1, .ref q2, _, _, _, _, rfl, sh1', .inr ⟨q2, rfl, sh2'⟩, bd60 hu, bd60 hv, bd60 hu2, bd60 hv2, fun H1 t1 => ?_⟩
            have sh1'' := sh1'.same t1
            have sh2'' := sh2'.same t1
            obtain ⟨dx2, ho2⟩ := id sh1''
            refine ⟨_, rfl, q1, dx2, _, rfl, ho2, hnoL _ _, _, rfl, q1, .ref q2, _, _, _, _, rfl, sh1'', .inr ⟨q2, rfl, sh2''⟩, bd60 hu, bd60 hv, bd60 hu2, bd60 hv2, fun H2 t2 => ?_⟩
            have sh3 := sh1''.same t2
            have sh4 := sh2''.same t2
            obtain ⟨dx3, ho3⟩ := id sh3
            obtain ⟨dx4, ho4⟩ := id sh4
            refine ⟨_, rfl, _, rfl, q1, dx3, _, rfl, ho3, .inl ⟨q2, dx4, _, rfl, ho4⟩, q1, .ref q2, _, _, rfl, sh3, .inl ⟨q2, _, _, rfl, sh4, by show 3 ≤ sizeLine; decide, fun tt ht => ?_⟩⟩
            refine ⟨_, rfl, _, _, rfl, rfl, _, rfl, _, _, rfl, rfl, _, rfl, rfl, by show 3 ≤ sizeLine; decide, fun tu hu' => ?_⟩
            have ew : (Fr.nt A B = Fr.nt U D ∧ Fr.nb A B = Fr.nb U D) ↔ gp = 0 := by
              constructor
              · rintro ⟨q, q'⟩
                have : Fr.nt A B * Fr.nb U D - Fr.nt U D * Fr.nb A B = 0 := by rw [q, q']; omega
                omega
              · intro z
                have : Fr.nt A B * Fr.nb U D = Fr.nt U D * Fr.nb A B := by omega
                exact Fr.uniq hv0 hv20 g1 g2 this
            have eb1 : decide (Fr.nt A B * Fr.nb U D - Fr.nt U D * Fr.nb A B < 0) = decide (gp < 0) := decide_eq_decide.mpr hg1.2
            have eb2 : decide (Fr.nt A B * Fr.nb U D - Fr.nt U D * Fr.nb A B ≤ 0) = decide (gp ≤ 0) := decide_eq_decide.mpr (by omega)
            have eb3 : (decide (Fr.nt A B = Fr.nt U D) && decide (Fr.nb A B = Fr.nb U D)) = decide (V.int gp = V.int 0) := by
              rw [← Bool.decide_and]
              exact decide_eq_decide.mpr ⟨fun z => by rw [ew.mp z], fun z => ew.mpr (V.int.inj z)⟩
            have t3 := Same.new (o := .tup [V.bl (decide (Fr.nt A B * Fr.nb U D - Fr.nt U D * Fr.nb A B < 0)), V.bl (decide (Fr.nt A B * Fr.nb U D - Fr.nt U D * Fr.nb A B ≤ 0)), V.bl (decide (Fr.nt A B = Fr.nt U D) && decide (Fr.nb A B = Fr.nb U D))]) ht
            have t4 := Same.new (o := .tup [V.bl (decide (gp < 0)), V.bl (decide (gp ≤ 0)), V.bl (decide (V.int gp = V.int 0))]) hu'
            refine ⟨.tuple [.bool (decide (Fr.nt A B * Fr.nb U D - Fr.nt U D * Fr.nb A B < 0)), .bool (decide (Fr.nt A B * Fr.nb U D - Fr.nt U D * Fr.nb A B ≤ 0)), .bool (decide (Fr.nt A B = Fr.nt U D) && decide (Fr.nb A B = Fr.nb U D))], .tuple [.bool (decide (gp < 0)), .bool (decide (gp ≤ 0)), .bool (decide (V.int gp = V.int 0))], .tup (.inl (.inl (t4 _ _ upd_same))) (.cons (.bl _) (.cons (.bl _) (.cons (.bl _) .nil))), .tup (.inl (.inl upd_same)) (.cons (.bl _) (.cons (.bl _) (.cons (.bl _) .nil))), rfl, rfl, _, rfl, ?_⟩
            refine (if_neg (by rw [eb1, eb2, eb3]; simp [PyData.eqv, PyData.eqvAll])).mpr ?_
            exact ⟨rfl, fun bb oo ee => t4 bb oo (t3 bb oo ((s9.trans t1).trans t2 bb oo ee))⟩
          rintro σ G10 ⟨rfl, s10⟩
          have hg2 := sg_gap (w := Fr.nt A B * 1 - U * Fr.nb A B) hB0 (show 0 < Fr.nb A B * 1 by omega) (fr_subi (C := U) c1)
          refine ⟨fun σ G' => σ = [some (.ref a), some (.ref pn), some (.int (0 + (i : Int))), some (.int A), some (.int B), some (.int U), some (.int D), some (.ref q1), some (.ref q2), some (.int (gapv (A - U * B) B)), x10, none, none] ∧ Same G3 G', ?_, ?_⟩
          · refine ⟨_, rfl, _, rfl, _, rfl, _, _, rfl, rfl, mm hU hB, _, _, rfl, rfl, _, rfl, _, _, rfl, rfl, _, rfl, ?_⟩
            refine ite2 (fun h => ?_) (fun h => ?_)
            · have h : 0 < B := of_decide_eq_true h
              refine ⟨_, _, rfl, rfl, .inr ⟨by decide, by decide⟩, ?_⟩
              have e : gapv (A - U * B) B = (A - U * B) * 1 := by unfold gapv; rw [if_pos h]
              rw [e]
              exact ⟨rfl, s10⟩
            · have h : ¬ 0 < B := fun z => h (decide_eq_true z)
              refine ⟨_, rfl, _, _, rfl, rfl, .inr ⟨by decide, by decide⟩, ?_⟩
              have e : gapv (A - U * B) B = (A - U * B) * -1 := by unfold gapv; rw [if_neg h]
              rw [e]
              exact ⟨rfl, s10⟩
          rintro σ G11 ⟨rfl, s11⟩
          generalize gapv (A - U * B) B = gq at *
          obtain ⟨wq, ewq⟩ : ∃ wq, wq = Fr.nt A B * 1 - U * Fr.nb A B := ⟨_, rfl⟩
          refine ⟨fun σ G' => ∃ l : Addr, σ = [some (.ref a), some (.ref pn), some (.int (0 + (i : Int))), some (.int A), some (.int B), some (.int U), some (.int D), some (.ref q1), some (.ref q2), some (.int gq), some (.ref l), none, none] ∧ Same G3 G' ∧ G' l = some (.lst [V.bl (decide (0 < wq)), V.bl (decide (wq < 0)), V.bl (decide (wq < 0)), V.bl (decide (wq ≤ 0))]), ?_, ?_⟩
          · have sh1' := sh1.same s11
            obtain ⟨dx1, ho1⟩ := id sh1'
            refine ⟨_, rfl, q1, dx1, _, rfl, ho1, hnoC _ _, _, rfl, q1, .int U, _, _, U, 1, rfl, sh1', .inl ⟨rfl, rfl⟩, bd60 hu, bd60 hv, bd60 hU, bd60 h1s, fun H1 t1 => ⟨_, _, rfl, rfl, ?_⟩⟩
            have sh2' := sh1'.same t1
            obtain ⟨dx2, ho2⟩ := id sh2'
            refine ⟨_, rfl, q1, dx2, _, rfl, ho2, hnoC _ _, _, rfl, q1, .int U, _, _, U, 1, rfl, sh2', .inl ⟨rfl, rfl⟩, bd60 hu, bd60 hv, bd60 hU, bd60 h1s, fun H2 t2 => ⟨_, _, rfl, rfl, ?_⟩⟩
            have sh3' := sh2'.same t2
            obtain ⟨dx3, ho3⟩ := id sh3'
            refine ⟨_, rfl, q1, dx3, _, rfl, ho3, hnoV _ _, _, rfl, q1, .int U, _, _, U, 1, rfl, sh3', .inl ⟨rfl, rfl⟩, bd60 hu, bd60 hv, bd60 hU, bd60 h1s, fun H3 t3 => ?_⟩
            have sh4' := sh3'.same t3
            obtain ⟨dx4, ho4⟩ := id sh4'
            refine ⟨_, rfl, q1, dx4, _, rfl, ho4, hnoL _ _, _, rfl, q1, .int U, _, _, U, 1, rfl, sh4', .inl ⟨rfl, rfl⟩, bd60 hu, bd60 hv, bd60 hU, bd60 h1s, fun H4 t4 => ⟨by show 4 ≤ sizeLine; decide, fun l hl => ?_⟩⟩
            rw [ewq]
            exact ⟨l, rfl, ((((s11.trans t1).trans t2).trans t3).trans t4).trans (Same.new hl), upd_same⟩
          rintro σ G12 ⟨l, rfl, s12, hl⟩
          rw [← ewq] at hg2
          refine ⟨fun σ G' => σ = [some (.ref a), some (.ref pn), some (.int (0 + (i : Int))), some (.int A), some (.int B), some (.int U), some (.int D), some (.ref q1), some (.ref q2), some (.int gq), some (.ref l), none, none] ∧ Same G3 G', ?_, ?_⟩
          · refine ⟨_, rfl, _, rfl, _, _, rfl, rfl, _, rfl, _, _, rfl, rfl, _, rfl, _, _, rfl, rfl, _, rfl, _, _, rfl, rfl, by show 4 ≤ sizeLine; decide, fun tu hu' => ?_⟩
            have t4 := Same.new (o := .lst [V.bl (decide (0 < gq)), V.bl (decide (gq < 0)), V.bl (decide (gq < 0)), V.bl (decide (gq ≤ 0))]) hu'
            have eb1 : decide (0 < wq) = decide (0 < gq) := decide_eq_decide.mpr hg2.1
            have eb2 : decide (wq < 0) = decide (gq < 0) := decide_eq_decide.mpr hg2.2
            have eb3 : decide (wq ≤ 0) = decide (gq ≤ 0) := decide_eq_decide.mpr (by omega)
            refine ⟨.list [.bool (decide (0 < wq)), .bool (decide (wq < 0)), .bool (decide (wq < 0)), .bool (decide (wq ≤ 0))], .list [.bool (decide (0 < gq)), .bool (decide (gq < 0)), .bool (decide (gq < 0)), .bool (decide (gq ≤ 0))], .lst (.inl (.inl (t4 _ _ hl))) (.cons (.bl _) (.cons (.bl _) (.cons (.bl _) (.cons (.bl _) .nil)))), .lst (.inl (.inl upd_same)) (.cons (.bl _) (.cons (.bl _) (.cons (.bl _) (.cons (.bl _) .nil)))), rfl, rfl, _, rfl, ?_⟩
            rw [eb1, eb2, eb3]
            refine (if_neg (by simp [PyData.eqv, PyData.eqvAll])).mpr ?_
            exact ⟨rfl, s12.trans t4⟩
          rintro σ G13 ⟨rfl, s13⟩
          refine ⟨fun σ G' => σ = [some (.ref a), some (.ref pn), some (.int (0 + (i : Int))), some (.int A), some (.int B), some (.int U), some (.int D), some (.ref q1), some (.ref q2), some (.int gq), some (.ref l), none, none] ∧ Same G3 G', ?_, ?_⟩
          · have sh1' := sh1.same s13
            obtain ⟨dx1, ho1⟩ := id sh1'
            refine ⟨_, rfl, _, rfl, q1, dx1, _, rfl, ho1, .inr ⟨U, rfl⟩, q1, .int U, _, _, U, 1, rfl, sh1', .inl ⟨rfl, rfl⟩, bd60 hu, bd60 hv, bd60 hU, bd60 h1s, hv1, fun r H' hr' s' sh => ?_⟩
            refine ⟨_, rfl, _, rfl, _, rfl, _, _, rfl, rfl, mm hU hB, _, _, rfl, rfl, _, rfl, ?_⟩
            obtain ⟨f1, f2, f3, f4, f5⟩ := made_ok (bds (m60 hu h1s) (m60 hU hv)) (bd120 (m60 hv h1s)) hv1 (fr_subi (C := U) c1)
            refine ⟨r, _, _, _, _, rfl, sh, f1, f2, f3, bds (b1 hA) (m60 hU hB), bd60 hB, f4, f5, _, rfl, ?_⟩
            refine (if_neg (by decide)).mpr ?_
            exact ⟨rfl, s13.trans s'⟩
          rintro σ G14 ⟨rfl, s14⟩
          have n1 : Fr.nt A 1 = A ∧ Fr.nb A 1 = 1 := norm_id (by decide) (Nat.gcd_one_right _)
          have n2 : Fr.nt (A * B) B = A ∧ Fr.nb (A * B) B = 1 := by
            refine Fr.uniq (Fr.nb_pos hB0) (by decide) (Fr.cop hB0) (Nat.gcd_one_right _) ?_
            have e := Fr.cross (t := A * B) (b := B)
            have e2 : (Fr.nt (A * B) B * 1) * B = (A * Fr.nb (A * B) B) * B := by rw [Int.mul_one, e]; grind
            exact Int.eq_of_mul_eq_mul_right hB0 e2
          refine ⟨fun σ G' => σ = [some (.ref a), some (.ref pn), some (.int (0 + (i : Int))), some (.int A), some (.int B), some (.int U), some (.int D), some (.ref q1), some (.ref q2), some (.int gq), some (.ref l), none, none] ∧ Same G3 G', ?_, ?_⟩
          · refine ⟨_, rfl, fun r1 d1 hr1 hd1 _ => ⟨r1, d1, A, 1, rfl, upd_same, p8 hA, p8 h1s, fun _ H1 keep1 ts1 => ⟨rfl, ?_⟩, fun z => absurd z (by decide)⟩⟩
            have t1 := madeSame hr1 hd1 keep1
            obtain ⟨e1, ho1⟩ := id ts1
            refine ⟨_, rfl, r1, e1, _, rfl, ho1, .inr (.inl ⟨A, rfl⟩), r1, .int A, _, _, rfl, ts1, .inr (.inl ⟨A, rfl, ?_⟩)⟩
            refine ⟨_, rfl, _, rfl, _, _, rfl, rfl, mm hA hB, _, rfl, fun r2 d2 hr2 hd2 _ => ⟨r2, d2, A * B, B, rfl, upd_same, mul_8 (bd60 hA) (bd60 hB), p8 hB, fun _ H2 keep2 ts2 => ⟨rfl, ?_⟩, fun z => absurd z hB0⟩⟩
            have t2 := madeSame hr2 hd2 keep2
            obtain ⟨e2, ho2⟩ := id ts2
            refine ⟨_, rfl, r2, e2, _, rfl, ho2, .inr (.inl ⟨A, rfl⟩), r2, .int A, _, _, rfl, ts2, .inr (.inl ⟨A, rfl, ?_⟩)⟩
            refine fun r3 d3 hr3 hd3 _ => ⟨r3, d3, 1, 1, rfl, upd_same, p8 h1s, p8 h1s, fun _ H3 keep3 ts3 => ⟨rfl, ?_⟩, fun z => absurd z (by decide)⟩
            have t3 := madeSame hr3 hd3 keep3
            obtain ⟨e3, ho3⟩ := id ts3
            refine ⟨r3, e3, _, rfl, ho3, .inr (.inr (.inl ⟨true, rfl⟩)), r3, .bl true, _, _, rfl, ts3, .inr (.inr ⟨.inl ⟨true, rfl⟩, ?_⟩)⟩
            have s15 := ((s14.trans t1).trans t2).trans t3
            have sh1' := sh1.same s15
            obtain ⟨e4, ho4⟩ := id sh1'
            refine ⟨_, rfl, q1, e4, _, rfl, ho4, .inr (.inr (.inr ⟨_, rfl⟩)), q1, .str _, _, _, rfl, sh1', .inr (.inr ⟨.inr ⟨_, rfl⟩, by show 4 ≤ sizeLine; decide, fun tt ht => ?_⟩)⟩
            refine ⟨by show 4 ≤ sizeLine; decide, fun tu hu' => ?_⟩
            have t5 := Same.new (o := .tup [V.bl (decide (Fr.nb A 1 = 1) && decide (Fr.nt A 1 = A)), V.bl (decide (Fr.nb (A * B) B = 1) && decide (Fr.nt (A * B) B = A)), V.bl false, V.bl false]) ht
            have t6 := Same.new (o := .tup [V.bl true, V.bl true, V.bl false, V.bl false]) hu'
            refine ⟨.tuple [.bool (decide (Fr.nb A 1 = 1) && decide (Fr.nt A 1 = A)), .bool (decide (Fr.nb (A * B) B = 1) && decide (Fr.nt (A * B) B = A)), .bool false, .bool false], .tuple [.bool true, .bool true, .bool false, .bool false], .tup (.inl (.inl (t6 _ _ upd_same))) (.cons (.bl _) (.cons (.bl _) (.cons (.bl _) (.cons (.bl _) .nil)))), .tup (.inl (.inl upd_same)) (.cons (.bl _) (.cons (.bl _) (.cons (.bl _) (.cons (.bl _) .nil)))), rfl, rfl, _, rfl, ?_⟩
            refine (if_neg (by rw [n1.1, n1.2, n2.1, n2.2]; simp [PyData.eqv, PyData.eqvAll])).mpr ?_
            exact ⟨rfl, fun bb oo ee => t6 bb oo (t5 bb oo (s15 bb oo ee))⟩
          rintro σ G16 ⟨rfl, s16⟩
          have sh1' := sh1.same s16
          refine ⟨_, rfl, _, rfl, pn, c, q1, _, _, _, rfl, HP3.same s16, by omega, sh1', hv0, bd60 hu, bd60 hv, g1, fun H' BB HP' => ⟨_, rfl, ?_⟩⟩
          refine (if_neg (by decide)).mpr ?_
          exact ⟨_, _, _, _, _, _, _, _, _, rfl, HP'.mono (by omega)⟩
        · rintro σ G ⟨x2, x3, x4, x5, x6, x7, x8, x9, x10, rfl, HP⟩
          exact ⟨_, _, _, _, _, _, _, _, _, rfl, HP.mono (by omega)⟩
      rintro σ G ⟨x2, x3, x4, x5, x6, x7, x8, x9, x10, rfl, HP⟩
      refine ⟨a, pn, c, 2000, x2, x3, x4, x5, x6, x7, x8, x9, x10, rfl, HP, by omega, fun σ d H' hd => ?_⟩
      refine ⟨true, TE.te, fun _ e he => ⟨d, rfl, rfl, fun hl => ?_, hd, k H'⟩, fun z => by cases z⟩
      rw [List.length_set] at hl
      rw [List.getElem?_set_self (by omega)]
end
end Wq
set_option Elab.async false
set_option linter.all false
set_option maxRecDepth 100000
set_option maxHeartbeats 2000000
set_option exponentiation.threshold 9000
namespace Wq
open PySem PySem.Spec PyProof.Rows L2
/-- a method with defaults -/
structure MAtD (K : PySem.W.Frag) (C : Addr) (m qual : Str) (st : Stmt) (dvs : List V) : Prop where
  ex : ∃ (f : Addr) (fd : FuncData), FunD K m qual (defArgs st) (defBody st) (defScope st) dvs [] f fd ∧ Meth K C m f
theorem md_mk {K : PySem.W.Frag} {C : Addr} {m qual : Str} {st : Stmt} {f T : Addr} {oc oc' : Value} {od an od' : Option Addr} {osl osl' : Array (Option Value)} {kV doc pm cdv ct : Value} {n : Nat} {i : Int} {tk : Tok}
    (a : PySem.W.findIn K (.ref C) m = some (some (.ref f))) (i1 : PySem.W.isFn K (.ref f) = true) (l : K.lookup f = some ⟨oc, od, .func (PySem.W.fnOf m qual (defArgs st) (defBody st) (defScope st) (.ref T) kV doc pm an cdv ct), osl⟩)
    (c : PySem.W.codeIn K cdv qual = true) (k : PySem.W.keepIn K (.ref f) = true) (lT : K.lookup T = some ⟨oc', od', .seq #[.int i tk] n, osl'⟩) : MAtD K C m qual st [.int i] :=
  ⟨f, _, ⟨⟨oc, od, .ref T, kV, doc, pm, an, cdv, ct, osl, rfl, l, c, .inr ⟨(by intro z; cases z), T, _, [.int i tk], n, rfl, lT, rfl, .cons ⟨tk, rfl⟩ .nil⟩, .inl rfl⟩, k⟩, ⟨a, i1, k⟩⟩
/-- the written facts of an error with two fields -/
structure ErrW (K : PySem.W.Frag) (mg : Str → Option Value) (CE : Addr) (x f1 f2 : Str) : Prop where
  ox : OexC K CE
  n1 : PySem.W.findIn K (.ref CE) f1 = some none
  n2 : PySem.W.findIn K (.ref CE) f2 = some none
  gC : mg x = some (.ref CE)
  xf : XfC K CE
  te : PySem.W.exmOne K (.ref CE) (.ref CE) = some true
theorem ErrW.txt {K : PySem.W.Frag} {mg : Str → Option Value} {CE f : Addr} {x f1 f2 : Str} (E : ErrW K mg CE x f1 f2) (M : Meth K CE "__init__" f) : TxtE K mg CE f x f1 f2 := ⟨E.ox, E.n1, E.n2, M.at_, beq_iff_eq.mp M.fn, E.gC, E.xf, E.te⟩
/-- of an operator -/
structure BinW (K : PySem.W.Frag) (C : Addr) (n r : Str) : Prop where
  hr : PySem.W.findIn K (.ref C) r = some none
  i1 : ∃ v, PySem.W.findIn K (.type "int") n = some v
  i2 : ∃ v, PySem.W.findIn K (.type "int") r = some v
structure ClsW (K : PySem.W.Frag) (C : Addr) : Prop where
  mkc : PySem.W.makesIn K C = true
  kp : PySem.W.keepIn K (.ref C) = true
  sf : PySem.W.selfFirst K C = true
  ni : PySem.W.subIn K (.type "int") (.ref C) = some false
  nb : PySem.W.subIn K (.type "bool") (.ref C) = some false
  ns : PySem.W.subIn K (.type "str") (.ref C) = some false
  ne : PySem.W.findIn K (.ref C) "__ne__" = some (some (.builtin "object.__ne__"))
theorem binc {K : PySem.W.Frag} {C f : Addr} {op : Operator} {n r : Str} (W : ClsW K C) (B : BinW K C n r) (M : Meth K C n f) (en : PySem.dunder op.info.2 = n) (er : PySem.dunderR op.info.2 = r) : BinC K C f op n r :=
  ⟨en, er, M.at_, M.fn, W.sf, B.hr, W.ni, B.i1, B.i2⟩
theorem all_mk {l : PySem.W.OpenLaw} {w : World} {K : PySem.W.Frag} {h : Heap} {mg : Str → Option Value} {fa C CT CE : Addr} (X : K.In h) (G : h.Ns mainGlobals mg) (hfa : mg "law" = some (.ref fa))
    (T : Txt K mg) (TT : TxtT mg) (TS : TxtS K mg C) (habs : mg "abs" = none) (W : ClsW K C) (WT : ErrW K mg CT "BadText" "line" "column") (WN : ErrW K mg CE "BadNumber" "what" "number")
    (A1 : BinW K C "__add__" "__radd__") (A2 : BinW K C "__sub__" "__rsub__") (A3 : BinW K C "__mul__" "__rmul__")
    (d9 : DefAt K mg "told_number" sTN) (d10 : DefAt K mg "number_of" sNF) (d13 : DefAt K mg "is_integer" sIn) (d16 : DefAt K mg "parts_of" sPO) (d17 : DefAt K mg "share_of" sSH) (d18 : DefAt K mg "end_of_figures" sEF)
    (d20 : DefAt K mg "_law_pen" sPen) (d21 : DefAt K mg "_law_draw" sDraw) (d22 : DefAt K mg "_law_pick" sPick) (d23 : DefAt K mg "_law_integer" sIg) (d24 : DefAt K mg "_law_is_share" sIS) (d25 : DefAt K mg "_law_wrong_column" sWC)
    (d26 : DefAt K mg "_law_told_column" sTC) (d27 : DefAt K mg "_law_texts_right" sTR) (d28 : DefAt K mg "law" sLaw)
    (t0 : MAt K CT "__init__" "BadText.__init__" sTI) (n0 : MAt K CE "__init__" "BadNumber.__init__" sNI)
    (m0 : MAtD K C "__init__" "Share.__init__" sSI [.int 1]) (m1 : MAt K C "written" "Share.written" sSW) (m2 : MAt K C "__add__" "Share.__add__" sSA) (m3 : MAt K C "__sub__" "Share.__sub__" sSS) (m4 : MAt K C "__mul__" "Share.__mul__" sSM)
    (m5 : MAt K C "over" "Share.over" sSO) (m6 : MAt K C "compared" "Share.compared" sSC) (m7 : MAt K C "under" "Share.under" sSU) (m8 : MAt K C "at_most" "Share.at_most" sSL) (m9 : MAt K C "__eq__" "Share.__eq__" sSE) :
    ∃ fd : FuncData, (∀ (s : Shared) (v : Value), BindsTo s fd ⟨[v], []⟩ [("_law_script", v)]) ∧ ∀ base : Heap, K.In base → base.Ns mainGlobals mg → FnOk l.prog w K mg base CX0 8 fa fd ["_law_script"] (spLaw K) := by
  obtain ⟨f, fd, F, hm⟩ := d28.ex
  have e := hfa.symm.trans hm
  cases e
  obtain ⟨oc, od, kV, doc, pm, an, cdv, ct, osl, rfl, lk, hcd⟩ := F.ex
  refine ⟨PySem.W.fnOf "law" "law" (defArgs sLaw) (defBody sLaw) (defScope sLaw) .none kV doc pm an cdv ct, fun s v => .of_eq rfl, fun base _ _ => ?_⟩
  have CD := ok_draw (P := l.prog) (w := w) (base := base) d21 T
  have CP := ok_pick (P := l.prog) (w := w) (base := base) d22 T CD
  -- errors
  obtain ⟨fT, fdT, FT, MT⟩ := t0.ex
  have TET := WT.txt MT
  have GT := ok_TI (P := l.prog) (w := w) (base := base) (mg := mg) FT TET
  have bT := FT.binds (ps := ["self", "line", "column"]) fun _ _ _ _ _ _ us hl => match us, hl with | [_, _, _], _ => rfl
  obtain ⟨fN, fdN, FN, MN⟩ := n0.ex
  have TEN := WN.txt MN
  have GN := ok_NI (P := l.prog) (w := w) (base := base) (mg := mg) FN TEN
  have bN := FN.binds (ps := ["self", "what", "number"]) fun _ _ _ _ _ _ us hl => match us, hl with | [_, _, _], _ => rfl
  -- Share is made
  obtain ⟨f0, fd0, F0, M0⟩ := m0.ex
  have G0 := ok_SI (P := l.prog) (w := w) (base := base) F0 TS TEN GN bN
  obtain ⟨ds, r0, b0⟩ := F0.binds1 (ps := ["self", "top", "bottom"]) 3 1 (by intro z; cases z) (by rfl) fun T kV doc pm an cdv ct us its l1 l2 => match us, its, l1, l2 with | [_, _, _], [_], _, _ => ⟨_, rfl, rfl⟩
  cases r0
  obtain ⟨ds, r1, b1⟩ := F0.binds1 (ps := ["self", "top", "bottom"]) 2 0 (by intro z; cases z) (by rfl) fun T kV doc pm an cdv ct us its l1 l2 => match us, its, l1, l2 with | [_, _], [_], _, _ => ⟨_, rfl, rfl⟩
  obtain ⟨tk1, rfl⟩ : ∃ tk1, ds = [Value.int 1 tk1] := by
    cases r1 with
    | cons h1 h2 =>
      cases h2
      obtain ⟨tk, rfl⟩ := h1
      exact ⟨tk, rfl⟩
  have MM : Mk K C f0 := ⟨W.mkc, M0.at_, M0.fn, W.kp⟩
  have MS : MadeS l.prog w K mg base C CE := ⟨_, _, MM, G0, b0⟩
  -- functions
  have CPO := ok_PO (P := l.prog) (w := w) (base := base) d16 TS
  have CIn := ok_In (P := l.prog) (w := w) (base := base) d13 TS
  have CTN := ok_TN (P := l.prog) (w := w) (base := base) d9 TT (ok_TP d9 TT)
  have CNF := ok_NF (P := l.prog) (w := w) (base := base) d10 T TT
  have CEF := ok_EF (P := l.prog) (w := w) (base := base) d18 T TT
  have CSH := ok_SH d17 T TS TET GT bT CEF CNF MM G0 b0 b1
  have CIg := ok_Ig (P := l.prog) (w := w) (base := base) d23 CD
  have CIS := ok_IS (P := l.prog) (w := w) (base := base) d24 T TS habs
  have CWC := ok_WC (P := l.prog) (w := w) (base := base) d25 T
  have CTC := ok_TC d26 TET CSH
  -- methods
  obtain ⟨f1, fd1, F1, M1⟩ := m1.ex
  obtain ⟨f2, fd2, F2, M2⟩ := m2.ex
  obtain ⟨f3, fd3, F3, M3⟩ := m3.ex
  obtain ⟨f4, fd4, F4, M4⟩ := m4.ex
  obtain ⟨f5, fd5, F5, M5⟩ := m5.ex
  obtain ⟨f6, fd6, F6, M6⟩ := m6.ex
  obtain ⟨f7, fd7, F7, M7⟩ := m7.ex
  obtain ⟨f8, fd8, F8, M8⟩ := m8.ex
  obtain ⟨f9, fd9, F9, M9⟩ := m9.ex
  have c1 := F1.binds (ps := ["self"]) fun _ _ _ _ _ _ us hl => match us, hl with | [_], _ => rfl
  have c2 := F2.binds (ps := ["self", "other"]) fun _ _ _ _ _ _ us hl => match us, hl with | [_, _], _ => rfl
  have c3 := F3.binds (ps := ["self", "other"]) fun _ _ _ _ _ _ us hl => match us, hl with | [_, _], _ => rfl
  have c4 := F4.binds (ps := ["self", "other"]) fun _ _ _ _ _ _ us hl => match us, hl with | [_, _], _ => rfl
  have c5 := F5.binds (ps := ["self", "other"]) fun _ _ _ _ _ _ us hl => match us, hl with | [_, _], _ => rfl
  have c6 := F6.binds (ps := ["self", "other"]) fun _ _ _ _ _ _ us hl => match us, hl with | [_, _], _ => rfl
  have c7 := F7.binds (ps := ["self", "other"]) fun _ _ _ _ _ _ us hl => match us, hl with | [_, _], _ => rfl
  have c8 := F8.binds (ps := ["self", "other"]) fun _ _ _ _ _ _ us hl => match us, hl with | [_, _], _ => rfl
  have c9 := F9.binds (ps := ["self", "other"]) fun _ _ _ _ _ _ us hl => match us, hl with | [_, _], _ => rfl
  have BE : EqC K C f9 := ⟨M9.at_, M9.fn, W.ni, W.nb, W.ns, W.ne, TS.hm⟩
  have G9 := ok_SE (P := l.prog) (w := w) (base := base) F9 TS CIn
  have G6 := ok_SC (P := l.prog) (w := w) (base := base) F6 TS CPO
  have CTR := ok_TR d27 T TT TS CD CP CSH CTC CWC M1 (ok_SW F1 TS CTN) c1 BE G9 c9
  exact ok_law F T TS TEN ⟨ok_pen d20 T, CIg, CIS, CTR⟩ MM G0 b0 b1
    ⟨_, _, binc W A1 M2 rfl rfl, ok_SA F2 TS CPO MS, c2⟩ ⟨_, _, binc W A2 M3 rfl rfl, ok_SS F3 TS CPO MS, c3⟩ ⟨_, _, binc W A3 M4 rfl rfl, ok_SM F4 TS CPO MS, c4⟩
    ⟨_, _, M5, ok_SO F5 TS CPO MS, c5⟩ ⟨_, _, M6, G6, c6⟩ ⟨_, _, M7, ok_SU F7 TS M6 G6 c6, c7⟩ ⟨_, _, M8, ok_SL F8 TS M6 G6 c6, c8⟩ BE G9 c9
theorem walk {l : PySem.W.OpenLaw} {q : Program} {loose : List Str} {XP : (Str → Option Value) → Heap → Prop} {YP : World → Heap → Prop} {d : DefRec} {K : Params → PySem.W.Frag} (hn : l.most = some 63) (hdf : d.params.defaults = [])
    (hY : ∀ (w : World) (h : Heap), YP w h → (K w.params).In h)
    (F : ∀ (w : World) (mg : Str → Option Value) (fa : Addr) (h : Heap), (K w.params).In h → h.Ns mainGlobals mg → mg d.name = some (.ref fa) →
      ∃ fd : FuncData, (∀ (s : Shared) (u : Value), BindsTo s fd ⟨[u], []⟩ [("_law_script", u)]) ∧ ∀ base : Heap, (K w.params).In base → base.Ns mainGlobals mg → FnOk l.prog w (K w.params) mg base CX0 8 fa fd ["_law_script"] (spLaw (K w.params))) :
    PySem.W.WalkO q loose XP YP l.row.toRowW d [] (fun f vs => PySem.call f vs) :=
  L2.walk_of (n := 63) (k := 8) (x := "_law_script") (CX := fun _ => CX0) (sp := fun w => spLaw (K w.params)) hn (by decide) hdf ⟨rfl, by decide, by decide⟩ hY F (fun _ _ a ns hl _ hS => ⟨a, ns, rfl, hS, fun _ => rfl⟩) fun _ _ _ _ _ z => z
end Wq
set_option Elab.async false
set_option linter.all false
set_option maxRecDepth 100000
set_option maxHeartbeats 2000000
namespace Wq
open PySem PySem.Spec PyProof.Rows L2
theorem oex_mk {K : PySem.W.Frag} {C : Addr} {nm q : Str} {N : Addr} {bs bm : List Value} {sn : List Str} {sub : List Value} {ab : Bool} {col : Option Bool} {dd : Option Addr} {k0 k1 k2 k3 k5 : Option Value}
    (xL : K.lookup C = some (excClassObj nm q C N bs bm true sn sub ab col dd k0 k1 k2 k3 k5 "ValueError.__new__")) (rv : PySem.HandSPX.refsVE bm = true) (sa : PySem.W.findIn K (.ref C) "__setattr__" = some (some (.builtin "object.__setattr__")))
    (eC : PySem.W.subIn K (.ref C) (.type "BaseException") = some true) (tC : PySem.W.typeIn K (.ref C) = some (.type "type")) (kC : PySem.W.keepIn K (.ref C) = true) : OexC K C := ⟨⟨nm, q, N, bs, bm, sn, sub, ab, col, dd, k0, k1, k2, k3, k5, xL, rv⟩, sa, eC, tC, kC⟩
theorem kit_mk {K : PySem.W.Frag} {C D : Addr} (h : PySem.W.kitCls K (.ref C) (.ref D) = some true) : PySem.W.kitOne K (.ref C) (.ref D) = some true := by
  unfold PySem.W.kitOne
  rw [h]
  split <;> rfl
theorem kit_mkF {K : PySem.W.Frag} {a b : Value} (h : PySem.W.kitCls K a b = some false) (n : (a == b) = false := by first | rfl | simp) : PySem.W.kitOne K a b = some false := by
  unfold PySem.W.kitOne
  rw [if_neg (by rw [n]; decide)]
  exact h
end Wq
open PySem PySem.W PyProof.Rows
set_option maxRecDepth 100000 in
set_option maxHeartbeats 0 in
theorem PySem.Challenge.cw_wordquarry_k01_shares_holds : PySem.Challenge.rw_wordquarry_k01_shares.Holds := by
  w_on; o_law; k_head; (case hw => w_witness2)
  k_fill
  refine Wq.walk (l := PySem.Challenge.rw_wordquarry_k01_shares) rfl rfl (fun w h Y => PySem.W.kIn_of Y) ?F
  case F =>
    intro w mg fa h KX G hmg
    refine' Wq.all_mk KX G hmg
      ⟨PySem.W.mg_none_of KX G ?z1, PySem.W.mg_none_of KX G ?z2, PySem.W.mg_none_of KX G ?z3, PySem.W.mg_none_of KX G ?z4, PySem.W.mg_none_of KX G ?z5, PySem.W.mg_none_of KX G ?z6⟩
      ⟨PySem.W.mg_none_of KX G ?z7, ⟨_, PySem.W.mg_of KX G ?s1⟩, ⟨_, PySem.W.mg_of KX G ?s2⟩, ⟨_, PySem.W.mg_of KX G ?s3⟩⟩
      ⟨⟨?c_pg, ?c_hd, ?c_po, ?c_sa⟩, ?c_n1, ?c_n2, PySem.W.mg_of KX G ?gS, PySem.W.mg_of KX G ?gG, PySem.W.mg_none_of KX G ?z8, PySem.W.mg_none_of KX G ?z9, PySem.W.mg_none_of KX G ?z10, ?c_ha, ?c_hn, ?c_tk, ?c_hm, Wq.kit_mkF ?k1, Wq.kit_mkF ?k2, Wq.kit_mkF ?k3⟩
      (PySem.W.mg_none_of KX G ?z11)
      ⟨?w_mk, ?w_kp, ?w_sf, ?w_ni, ?w_nb, ?w_ns, ?w_ne⟩
      ⟨Wq.oex_mk ?txL ?trv ?t_sa ?t_ex ?t_ty ?t_kp, ?t_n1, ?t_n2, PySem.W.mg_of KX G ?tg, ⟨?tx_ga, ?tx_gg, ?tx_ex, ?tx_hd⟩, PySem.W.exm_ref ?tm_ex ?tm_hd ?tm_ty ?tm_su⟩
      ⟨Wq.oex_mk ?nxL ?nrv ?n_sa ?n_ex ?n_ty ?n_kp, ?n_n1, ?n_n2, PySem.W.mg_of KX G ?ng, ⟨?nx_ga, ?nx_gg, ?nx_ex, ?nx_hd⟩, PySem.W.exm_ref ?nm_ex ?nm_hd ?nm_ty ?nm_su⟩
      ⟨?b1_r, ⟨_, ?b1_i⟩, ⟨_, ?b1_j⟩⟩
      ⟨?b2_r, ⟨_, ?b2_i⟩, ⟨_, ?b2_j⟩⟩
      ⟨?b3_r, ⟨_, ?b3_i⟩, ⟨_, ?b3_j⟩⟩
      ?d9 ?d10 ?d13 ?d16 ?d17 ?d18 ?d20 ?d21 ?d22 ?d23 ?d24 ?d25 ?d26 ?d27 ?d28 ?t0 ?n0 ?m0 ?m1 ?m2 ?m3 ?m4 ?m5 ?m6 ?m7 ?m8 ?m9
    (case gS => k_is)
    (case gG => k_is)
    (case tg => k_is)
    (case ng => k_is)
    (case d9 => (refine' Wq.def_mk KX G ?a ?l ?c ?k; (case a => k_is); (case l => k_is); (case c => k_is); (case k => k_is)))
    (case d10 => (refine' Wq.def_mk KX G ?a ?l ?c ?k; (case a => k_is); (case l => k_is); (case c => k_is); (case k => k_is)))
    (case d13 => (refine' Wq.def_mk KX G ?a ?l ?c ?k; (case a => k_is); (case l => k_is); (case c => k_is); (case k => k_is)))
    (case d16 => (refine' Wq.def_mk KX G ?a ?l ?c ?k; (case a => k_is); (case l => k_is); (case c => k_is); (case k => k_is)))
    (case d17 => (refine' Wq.def_mk KX G ?a ?l ?c ?k; (case a => k_is); (case l => k_is); (case c => k_is); (case k => k_is)))
    (case d18 => (refine' Wq.def_mk KX G ?a ?l ?c ?k; (case a => k_is); (case l => k_is); (case c => k_is); (case k => k_is)))
    (case d20 => (refine' Wq.def_mk KX G ?a ?l ?c ?k; (case a => k_is); (case l => k_is); (case c => k_is); (case k => k_is)))
    (case d21 => (refine' Wq.def_mk KX G ?a ?l ?c ?k; (case a => k_is); (case l => k_is); (case c => k_is); (case k => k_is)))
    (case d22 => (refine' Wq.def_mk KX G ?a ?l ?c ?k; (case a => k_is); (case l => k_is); (case c => k_is); (case k => k_is)))
    (case d23 => (refine' Wq.def_mk KX G ?a ?l ?c ?k; (case a => k_is); (case l => k_is); (case c => k_is); (case k => k_is)))
    (case d24 => (refine' Wq.def_mk KX G ?a ?l ?c ?k; (case a => k_is); (case l => k_is); (case c => k_is); (case k => k_is)))
    (case d25 => (refine' Wq.def_mk KX G ?a ?l ?c ?k; (case a => k_is); (case l => k_is); (case c => k_is); (case k => k_is)))
    (case d26 => (refine' Wq.def_mk KX G ?a ?l ?c ?k; (case a => k_is); (case l => k_is); (case c => k_is); (case k => k_is)))
    (case d27 => (refine' Wq.def_mk KX G ?a ?l ?c ?k; (case a => k_is); (case l => k_is); (case c => k_is); (case k => k_is)))
    (case d28 => (refine' Wq.def_mk KX G ?a ?l ?c ?k; (case a => k_is); (case l => k_is); (case c => k_is); (case k => k_is)))
    (case m0 => (refine' Wq.md_mk ?a ?i ?l ?c ?k ?t; (case a => k_is); (case i => k_is); (case l => k_is); (case c => k_is); (case k => k_is); (case t => k_is)))
    (case t0 => (refine' Wq.m_mk ?a ?i ?l ?c ?k; (case a => k_is); (case i => k_is); (case l => k_is); (case c => k_is); (case k => k_is)))
    (case n0 => (refine' Wq.m_mk ?a ?i ?l ?c ?k; (case a => k_is); (case i => k_is); (case l => k_is); (case c => k_is); (case k => k_is)))
    (case m1 => (refine' Wq.m_mk ?a ?i ?l ?c ?k; (case a => k_is); (case i => k_is); (case l => k_is); (case c => k_is); (case k => k_is)))
    (case m2 => (refine' Wq.m_mk ?a ?i ?l ?c ?k; (case a => k_is); (case i => k_is); (case l => k_is); (case c => k_is); (case k => k_is)))
    (case m3 => (refine' Wq.m_mk ?a ?i ?l ?c ?k; (case a => k_is); (case i => k_is); (case l => k_is); (case c => k_is); (case k => k_is)))
    (case m4 => (refine' Wq.m_mk ?a ?i ?l ?c ?k; (case a => k_is); (case i => k_is); (case l => k_is); (case c => k_is); (case k => k_is)))
    (case m5 => (refine' Wq.m_mk ?a ?i ?l ?c ?k; (case a => k_is); (case i => k_is); (case l => k_is); (case c => k_is); (case k => k_is)))
    (case m6 => (refine' Wq.m_mk ?a ?i ?l ?c ?k; (case a => k_is); (case i => k_is); (case l => k_is); (case c => k_is); (case k => k_is)))
    (case m7 => (refine' Wq.m_mk ?a ?i ?l ?c ?k; (case a => k_is); (case i => k_is); (case l => k_is); (case c => k_is); (case k => k_is)))
    (case m8 => (refine' Wq.m_mk ?a ?i ?l ?c ?k; (case a => k_is); (case i => k_is); (case l => k_is); (case c => k_is); (case k => k_is)))
    (case m9 => (refine' Wq.m_mk ?a ?i ?l ?c ?k; (case a => k_is); (case i => k_is); (case l => k_is); (case c => k_is); (case k => k_is)))
    (case txL => first | k_is | rfl)
    (case trv => first | rfl | decide +kernel)
    (case nxL => first | k_is | rfl)
    (case nrv => first | rfl | decide +kernel)
    (case z1 => first | k_is | rfl)
    (case z2 => first | k_is | rfl)
    (case z3 => first | k_is | rfl)
    (case z4 => first | k_is | rfl)
    (case z5 => first | k_is | rfl)
    (case z6 => first | k_is | rfl)
    (case z7 => first | k_is | rfl)
    (case z8 => first | k_is | rfl)
    (case z9 => first | k_is | rfl)
    (case z10 => first | k_is | rfl)
    (case z11 => first | k_is | rfl)
    (case s1 => first | k_is | rfl)
    (case s2 => first | k_is | rfl)
    (case s3 => first | k_is | rfl)
    (case c_pg => first | k_is | rfl)
    (case c_hd => first | k_is | rfl)
    (case c_po => first | k_is | rfl)
    (case c_sa => first | k_is | rfl)
    (case c_n1 => first | k_is | rfl)
    (case c_n2 => first | k_is | rfl)
    (case c_ha => first | k_is | rfl)
    (case c_hn => first | k_is | rfl)
    (case c_tk => first | k_is | rfl)
    (case c_hm => first | k_is | rfl)
    (case k1 => first | k_is | rfl)
    (case k2 => first | k_is | rfl)
    (case k3 => first | k_is | rfl)
    (case w_mk => first | k_is | rfl)
    (case w_kp => first | k_is | rfl)
    (case w_sf => first | k_is | rfl)
    (case w_ni => first | k_is | rfl)
    (case w_nb => first | k_is | rfl)
    (case w_ns => first | k_is | rfl)
    (case w_ne => first | k_is | rfl)
    (case t_sa => first | k_is | rfl)
    (case t_ex => first | k_is | rfl)
    (case t_ty => first | k_is | rfl)
    (case t_kp => first | k_is | rfl)
    (case t_n1 => first | k_is | rfl)
    (case t_n2 => first | k_is | rfl)
    (case tx_ga => first | k_is | rfl)
    (case tx_gg => first | k_is | rfl)
    (case tx_ex => first | k_is | rfl)
    (case tx_hd => first | k_is | rfl)
    (case tm_ex => first | k_is | rfl)
    (case tm_hd => first | k_is | rfl)
    (case tm_ty => first | k_is | rfl)
    (case tm_su => first | k_is | rfl)
    (case n_sa => first | k_is | rfl)
    (case n_ex => first | k_is | rfl)
    (case n_ty => first | k_is | rfl)
    (case n_kp => first | k_is | rfl)
    (case n_n1 => first | k_is | rfl)
    (case n_n2 => first | k_is | rfl)
    (case nx_ga => first | k_is | rfl)
    (case nx_gg => first | k_is | rfl)
    (case nx_ex => first | k_is | rfl)
    (case nx_hd => first | k_is | rfl)
    (case nm_ex => first | k_is | rfl)
    (case nm_hd => first | k_is | rfl)
    (case nm_ty => first | k_is | rfl)
    (case nm_su => first | k_is | rfl)
    (case b1_r => first | k_is | rfl)
    (case b1_i => first | k_is | rfl)
    (case b1_j => first | k_is | rfl)
    (case b2_r => first | k_is | rfl)
    (case b2_i => first | k_is | rfl)
    (case b2_j => first | k_is | rfl)
    (case b3_r => first | k_is | rfl)
    (case b3_i => first | k_is | rfl)
    (case b3_j => first | k_is | rfl)
