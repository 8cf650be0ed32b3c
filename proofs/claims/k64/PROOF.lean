import PyProof.Rows.All
import Wide.All
import OpenK.AllK
import Wide.FinOn
import HandS.Base
import HandS.Call
import HandS.List
import HandS.Comp
import HandS.Ends
import HandS.Dict
import HandS.Iter
import HandS.Text
import HandS.Words
import HandS.WordsList
import HandS.Codes
import HandS.Style
import HandS.Wide
import HandS.More
import HandS.Exc
import KE.GoesComp
import KE.GoesRaise
import HandS.DeepEq
import HandS.NoneIn
import HandS.Walk
import HandS.SortKw
import HandS.ExcInit
import HandS.ExcField
import HandS.ExcIs
import HandS.ExcValue
import HandS.ExcOwn
import HandS.IsInst
import HandS.WordsExc
import HandS.TupAny
import HandS.OwnEq
import KE.KExcIs
import HandS.TryMany
import PySem.Challenge.RW_wordquarry_k64_protocol_texts_read
set_option Elab.async false
set_option linter.all false
set_option maxRecDepth 100000
set_option maxHeartbeats 2000000
namespace Wq
open PySem PySem.Spec PyProof.Rows L2
def top (i : Nat) : Stmt := PySem.Challenge.pw_wordquarry_k64_protocol_texts_read.main.body.getD i (.Pass ⟨0, 0, 0, 0⟩)
/-! callables by name -/
structure Cl (P : Program) (w : World) (K : PySem.W.Frag) (mg : Str → Option Value) (base : Heap) (k : Nat) (x : Str) (sp : Sp) : Prop where
  ex : ∃ (f : Addr) (fd : FuncData) (ps : List Str), FnOk P w K mg base CX0 k f fd ps sp ∧ mg x = some (.ref f) ∧ PySem.W.keepIn K (.ref f) = true ∧ Binds K fd ps []
structure DefAt (K : PySem.W.Frag) (mg : Str → Option Value) (x : Str) (st : Stmt) : Prop where
  ex : ∃ (f : Addr) (fd : FuncData), Fun K x x st f fd ∧ mg x = some (.ref f)
theorem def_mk {h : Heap} {mg : Str → Option Value} {K : PySem.W.Frag} {x : Str} {st : Stmt} {f : Addr} {oc : Value} {od an : Option Addr} {osl : Array (Option Value)} {kV doc pm cdv ct : Value} (X : K.In h) (G : h.Ns mainGlobals mg)
    (a : PySem.W.nsIn K mainGlobals x = some (some (.ref f))) (l : K.lookup f = some ⟨oc, od, .func (PySem.W.fnOf x x (defArgs st) (defBody st) (defScope st) .none kV doc pm an cdv ct), osl⟩)
    (c : PySem.W.codeIn K cdv x = true) (k : PySem.W.keepIn K (.ref f) = true) : DefAt K mg x st := ⟨f, _, fun_mk l c k, PySem.W.mg_of X G a⟩
section
variable {X : Cx} {k j : Nat} {x : Str} {sp : Sp} {p pos : Pos} {e : Expr} {es : List Expr} {t : TA}
theorem pe_cl (c : Cl X.prog X.w X.K X.mg X.base k x sp) (hr : Room j X.A) (hk : k ≤ j) (hg : Gl X x) (ha : PA X (e :: es) t)
    (hdb : (x == ("__debug__" : Str)) = false := by decide) (he : starEach (e :: es) X.env = (false, eval e X.env) :: starEach es X.env := by rfl) (hpl : (backTo pos (starEach es X.env)).any (·.1) = false := by rfl) :
    PE X (.Call (.Name x p) (e :: es) [] pos) (tCall sp [] E0 t) := by
  obtain ⟨f, fd, ps, F, hm, kp, b⟩ := c.ex
  exact pe_call F (hr.mono hk) hg hm kp b .nil pass0 ha hdb he hpl
end
section
variable {P : Program} {w : World} {K : PySem.W.Frag} {mg : Str → Option Value} {base : Heap}
theorem cl_of {x : Str} {st : Stmt} {N ps : List Str} {k : Nat} {sp : Sp} (D : DefAt K mg x st) (S : FnScope N ps (defScope st)) (len : ∀ vs H Q E, sp vs H Q E → vs.length = ps.length)
    (hb : ∀ (kV doc pm : Value) (an : Option Addr) (cdv ct : Value) (us : List Value), us.length = ps.length → bindArgs (PySem.W.fnOf x x (defArgs st) (defBody st) (defScope st) .none kV doc pm an cdv ct) ⟨us, []⟩ = pure (ps.zip us))
    (hbody : ∀ (f : Addr) (cdv : Value) (A : Around) (outer : List Env) (s : Shared) (H : Hp) (vs : List V) (Q : VK) (E : XK), Room k (A.deeper (envOfC x (defScope st) s.heap.objs.size f cdv)) → sp vs H Q E →
      ∃ t, PSs (cxOf CX0 P w K mg base N x (defScope st) f cdv A outer s H E).nox (defBody st) t ∧ t { nx := fun _ H' => Q .non H', rt := Q } (start N vs) H) : Cl P w K mg base (k + 1) x sp := by
  obtain ⟨f, fd, F, hm⟩ := D.ex
  exact ⟨f, fd, ps, F.ok S len (hbody f), hm, F.kp, F.binds hb⟩
/-! what the law's own words want of the top -/
structure Txt (K : PySem.W.Frag) (mg : Str → Option Value) : Prop where
  len : mg "len" = none
  int : mg "int" = none
  list : mg "list" = none
  range : mg "range" = none
  tuple : mg "tuple" = none
  min : mg "min" = none
/-! the pen -/
abbrev kv (s : Str) (v : V) : Key × V := (Sum.inr s, v)
def penD (c : Addr) (i d n f : Int) : List (Key × V) := [kv "cells" (.ref c), kv "at" (.int i), kv "digits" (.int d), kv "count" (.int n), kv "fold" (.int f)]
structure PenAt (H : Hp) (p c : Addr) (m : Nat) : Prop where
  ex : ∃ (ns : List Int) (i d f : Int) (n : Nat), H p = some (.dK (penD c i d n f)) ∧ H c = some (.lst (ns.map V.int)) ∧ 0 ≤ i ∧ 0 ≤ d ∧ n ≤ m ∧ 0 ≤ f ∧ f < 2147483587
theorem SqL_upd {H : Hp} {p c : Addr} {xs : List V} {kvs : List (Key × V)} {o : HO} (h : SqL K H c xs) (hp : H p = some (.dK kvs)) : SqL K (upd H p o) c xs := by
  rcases h with (h | ⟨u, h⟩) | h
  · refine .inl (.inl ?_)
    rw [upd_ne (ne_of h hp (by intro z; cases z))]
    exact h
  · refine .inl (.inr ⟨u, ?_⟩)
    rw [upd_ne (ne_of h hp (by intro z; cases z))]
    exact h
  · exact .inr h
section
variable {H : Hp} {p c : Addr} {i d n f x : Int}
theorem g_cells (h : H p = some (.dK (penD c i d n f))) : DGet H p (.str "cells") (some (.ref c)) := DGet.k (k := Sum.inr "cells") h
theorem g_at (h : H p = some (.dK (penD c i d n f))) : DGet H p (.str "at") (some (.int i)) := DGet.k (k := Sum.inr "at") h
theorem g_digits (h : H p = some (.dK (penD c i d n f))) : DGet H p (.str "digits") (some (.int d)) := DGet.k (k := Sum.inr "digits") h
theorem g_count (h : H p = some (.dK (penD c i d n f))) : DGet H p (.str "count") (some (.int n)) := DGet.k (k := Sum.inr "count") h
theorem g_fold (h : H p = some (.dK (penD c i d n f))) : DGet H p (.str "fold") (some (.int f)) := DGet.k (k := Sum.inr "fold") h
theorem p_count (h : H p = some (.dK (penD c i d n f))) : DPut H p (.str "count") (.int x) (upd H p (.dK (penD c i d x f))) := DPut.k (k := Sum.inr "count") h (by show 5 < sizeLine; decide)
theorem p_at : DPut (upd H p (.dK (penD c i d n f))) p (.str "at") (.int x) (upd H p (.dK (penD c x d n f))) := by
  have e := DPut.k (k := Sum.inr "at") (v := .int x) (upd_same (H := H) (a := p) (o := .dK (penD c i d n f))) (by show 5 < sizeLine; decide)
  rw [upd_upd] at e
  exact e
theorem p_digits : DPut (upd H p (.dK (penD c i d n f))) p (.str "digits") (.int x) (upd H p (.dK (penD c i x n f))) := by
  have e := DPut.k (k := Sum.inr "digits") (v := .int x) (upd_same (H := H) (a := p) (o := .dK (penD c i d n f))) (by show 5 < sizeLine; decide)
  rw [upd_upd] at e
  exact e
theorem p_fold : DPut (upd H p (.dK (penD c i d n f))) p (.str "fold") (.int x) (upd H p (.dK (penD c i d n x))) := by
  have e := DPut.k (k := Sum.inr "fold") (v := .int x) (upd_same (H := H) (a := p) (o := .dK (penD c i d n f))) (by show 5 < sizeLine; decide)
  rw [upd_upd] at e
  exact e
end
theorem PenAt.mono {H : Hp} {p c : Addr} {m m' : Nat} (h : PenAt H p c m) (hm : m ≤ m') : PenAt H p c m' := by
  obtain ⟨ns, i, d, f, n, h1, h2, h3, h4, h5, h6, h7⟩ := h.ex
  exact ⟨ns, i, d, f, n, h1, h2, h3, h4, by omega, h6, h7⟩
theorem PenAt.same {H H' : Hp} {p c : Addr} {m : Nat} (h : PenAt H p c m) (s : Same H H') : PenAt H' p c m := by
  obtain ⟨ns, i, d, f, n, h1, h2, h3⟩ := h.ex
  exact ⟨ns, i, d, f, n, s _ _ h1, s _ _ h2, h3⟩
theorem PenAt.dict {H : Hp} {p c : Addr} {m : Nat} (h : PenAt H p c m) : ∃ kvs, H p = some (.dK kvs) := by
  obtain ⟨ns, i, d, f, n, h1, _⟩ := h.ex
  exact ⟨_, h1⟩
theorem PenAt.cells {H : Hp} {p c : Addr} {m : Nat} (h : PenAt H p c m) : ∃ xs, H c = some (.lst xs) := by
  obtain ⟨ns, i, d, f, n, h1, h2, _⟩ := h.ex
  exact ⟨_, h2⟩
theorem PenAt.put {H : Hp} {p c l : Addr} {m : Nat} {o : HO} (h : PenAt H p c m) (hp : p ≠ l) (hc : c ≠ l) : PenAt (upd H l o) p c m := by
  obtain ⟨ns, i, d, f, n, h1, h2, h3⟩ := h.ex
  exact ⟨ns, i, d, f, n, by rw [upd_ne hp]; exact h1, by rw [upd_ne hc]; exact h2, h3⟩
theorem PenAt.ne {H : Hp} {p c l : Addr} {m : Nat} {o : HO} (h : PenAt H p c m) (hl : H l = some o) (ho : ∀ kvs, o ≠ .dK kvs) : l ≠ p := by
  obtain ⟨kvs, hk⟩ := h.dict
  exact ne_of hl hk (ho kvs)
/-- the pen moved on: lists stay -/
theorem PenAt.lst {H : Hp} {p c l : Addr} {m : Nat} {xs : List V} {o : HO} (h : PenAt H p c m) (hl : H l = some (.lst xs)) : upd H p o l = some (.lst xs) := by
  rw [upd_ne (h.ne hl (by intro kvs z; cases z))]
  exact hl
abbrev sPen : Stmt := top 22
abbrev sDraw : Stmt := top 23
abbrev sPick : Stmt := top 24
def spPen (K : PySem.W.Frag) : Sp := fun vs H Q _ => ∃ (a : Addr) (ns : List Int), vs = [.ref a] ∧ SqL K H a (ns.map V.int) ∧ ∀ p c H', H p = none → Same H H' → PenAt H' p c 0 → Q (.ref p) H'
def spDraw (K : PySem.W.Frag) : Sp := fun vs H Q _ => ∃ (p c : Addr) (m : Nat) (many : Int), vs = [.ref p, .int many] ∧ PenAt H p c m ∧ m < 1099511627776 ∧ 0 < many ∧ many.natAbs.log2 < 9000 ∧
  ∀ (v : Int) (o : HO), 0 ≤ v → v < many → PenAt (upd H p o) p c (m + 1) → Q (.int v) (upd H p o)
/-- what may be picked from: a list, a tuple, a text -/
inductive Some (K : PySem.W.Frag) (H : Hp) : V → List V → Prop
  | lst {l xs} : SqL K H l xs → Some K H (.ref l) xs
  | tup {l xs} : SqT K H l xs → Some K H (.ref l) xs
  | str {z} : z.length ≤ sizeLine → Some K H (.str z) (z.cps.toList.map fun c => V.str ⟨#[c]⟩)
def spPick (K : PySem.W.Frag) : Sp := fun vs H Q _ => ∃ (p c : Addr) (m : Nat) (u : V) (xs : List V), vs = [.ref p, u] ∧ PenAt H p c m ∧ Some K H u xs ∧ m < 1099511627776 ∧ 0 < xs.length ∧ xs.length < 1073741824 ∧
  ∀ (i : Nat) (v : V) (o : HO), xs[i]? = some v → PenAt (upd H p o) p c (m + 1) → Q v (upd H p o)
theorem scPen : FnScope ["_law_script", "_law_fold", "_law_cell"] ["_law_script"] (defScope sPen) := ⟨rfl, rfl, rfl, by decide +kernel, rfl, by decide +kernel, by decide +kernel⟩
theorem scDraw : FnScope ["_law_pen_here", "_law_many", "_law_cell", "_law_digit", "_law_mixed"] ["_law_pen_here", "_law_many"] (defScope sDraw) := ⟨rfl, rfl, rfl, by decide +kernel, rfl, by decide +kernel, by decide +kernel⟩
theorem scPick : FnScope ["_law_pen_here", "_law_some"] ["_law_pen_here", "_law_some"] (defScope sPick) := ⟨rfl, rfl, rfl, by decide +kernel, rfl, by decide +kernel, by decide +kernel⟩
theorem ints_at {ns : List Int} {i : Nat} {y : V} (hi : (ns.map V.int)[i]? = some y) : ∃ z, y = V.int z := by
  rw [List.getElem?_map] at hi
  cases e : ns[i]? with
  | none =>
    rw [e] at hi
    cases hi
  | some z =>
    rw [e] at hi
    exact ⟨z, (Option.some.inj hi).symm⟩
theorem ok_pen (D : DefAt K mg "_law_pen" sPen) (T : Txt K mg) : Cl P w K mg base 1 "_law_pen" (spPen K) := by
  refine cl_of D scPen (fun vs H Q E h => ?_) (fun _ _ _ _ _ _ us hl => match us, hl with | [_], _ => rfl) (fun f cdv A outer s H vs Q E hr h => ?_)
  · obtain ⟨a, ns, rfl, _⟩ := h
    rfl
  · obtain ⟨a, ns, rfl, hS, k⟩ := h
    refine ⟨_, pss_cons (ps_set (i := 1) scPen.nd rfl (Or.inl rfl) pe_int)
      (pss_cons (ps_for PassesOwn.never rfl (pi_list (pv 0)) (pg_name (i := 2) scPen.nd rfl (Or.inl rfl))
        (pss_one (ps_set (i := 1) scPen.nd rfl (Or.inl rfl) (pe_op op_mod (pe_callTy call_int1 (by rfl) (by exact T.int) PyProof.Rows.boot_int (pa_cons (pe_op op_add (pe_op op_mul (pv 1) pe_int) (pv 2)) pa_nil)) pe_int))))
      (pss_one (ps_ret (pe_disp (pps_cons pe_str (pe_callTy call_list_of (by rfl) (by exact T.list) (by decide +kernel) (pa_cons (pv 0) pa_nil)) (pps_cons pe_str pe_int (pps_cons pe_str pe_int (pps_cons pe_str pe_int (pps_cons pe_str (pv 1) pps_nil))))) (by rfl) (by rfl) (fun z => by cases z) (by decide))))), ?_⟩
    refine ⟨_, rfl, a, rfl, ⟨_, hS⟩, for_list (K := K) (a := a) (xs := ns.map V.int) (fun i σ H' => ∃ (n : Int) (v : Option V), σ = [some (.ref a), some (.int n), v] ∧ H' = H ∧ 0 ≤ n ∧ n < 1000000007)
      ⟨0, none, rfl, rfl, by decide, by decide⟩ (fun i σ H' _ ⟨_, _, _, e, _, _⟩ => by rw [e]; exact hS) ?_ ?_⟩
    · rintro i y σ H' hi ⟨n, v, rfl, rfl, h0, h1⟩
      obtain ⟨z, rfl⟩ := ints_at hi
      refine ⟨_, rfl, _, _, rfl, rfl, .inl ⟨by omega, by omega⟩, _, rfl, _, _, rfl, rfl, .inl ⟨_, rfl, _, _, rfl, rfl, (by show (0 : Int) < 1000000007; decide), ?_⟩⟩
      exact ⟨(n * 41 + z) % 1000000007, _, rfl, rfl, Int.emod_nonneg _ (by decide), Int.emod_lt_of_pos _ (by decide)⟩
    · rintro σ H' ⟨n, v, rfl, rfl, h0, h1⟩
      intro p hp
      have s1 : Same H' (upd H' p (.dK [])) := fun b o e => by rw [upd_ne (ne_of_none e hp)]; exact e
      refine ⟨_, rfl, a, _, rfl, .inl (s1.seq hS), fun l hl => ?_⟩
      have npl : p ≠ l := ne_of_none upd_same hl
      have s2 : Same H' (upd (upd (upd H' p (.dK [])) l (.lst (ns.map V.int))) p (.dK (mergeK [] (penD l 0 0 0 n)))) := fun b o e => by
        rw [upd_ne (ne_of_none e hp), upd_ne (ne_of_none (s1 b o e) hl)]
        exact s1 b o e
      refine ⟨_, rfl, by rw [upd_ne npl, upd_same], penD l 0 0 0 n, rfl, (by show 5 ≤ 15; decide), ?_⟩
      refine k p l _ hp s2 ⟨ns, 0, 0, n, 0, upd_same, ?_, by decide, by decide, by decide, h0, by omega⟩
      rw [upd_ne npl.symm, upd_same]
theorem ok_draw (D : DefAt K mg "_law_draw" sDraw) (T : Txt K mg) : Cl P w K mg base 1 "_law_draw" (spDraw K) := by
  refine cl_of D scDraw (fun vs H Q E h => ?_) (fun _ _ _ _ _ _ us hl => match us, hl with | [_, _], _ => rfl) (fun f cdv A outer s H vs Q E hr h => ?_)
  · obtain ⟨p, c, m, many, rfl, _⟩ := h
    rfl
  · obtain ⟨p, c, m, many, rfl, HP, hm, m0, m1, k⟩ := h
    obtain ⟨ns, i, d, f, n, hH, hc, hi, hd, hn, hf0, hf1⟩ := HP.ex
    have hu := hu_of hr
    refine ⟨_, pss_cons (ps_dput hu (pv 0) pe_str (pe_op op_add (pe_dget hu (pv 0) pe_str (fun _ _ => rfl)) pe_int) rfl)
      (C8.pss_cut (ps_if (PW.pt (pw_and (pt_cmpR op_eq (pe_dget hu (pv 0) pe_str (fun _ _ => rfl)) pe_int (nomark _)) (pw_and1 (pt_cmpR op_lt (pe_dget hu (pv 0) pe_str (fun _ _ => rfl)) (pe_callB call_len_seq (by rfl) (by exact T.len) PySem.boot_len (pa_cons (pe_dget hu (pv 0) pe_str (fun _ _ => rfl)) pa_nil)) (nomark _)))))
        (pss_cons (ps_set (i := 2) scDraw.nd rfl (Or.inl rfl) (pe_ix ix_list (pe_dget hu (pv 0) pe_str (fun _ _ => rfl)) (pe_dget hu (pv 0) pe_str (fun _ _ => rfl)) (fun _ _ => rfl)))
        (pss_cons (ps_dput hu (pv 0) pe_str (pe_op op_add (pe_dget hu (pv 0) pe_str (fun _ _ => rfl)) pe_int) rfl)
        (pss_one (ps_if (pt_cmpR op_ge (pv 2) (pe_op op_pow pe_int pe_int) (nomark _))
          (pss_one (ps_dput hu (pv 0) pe_str (pe_op op_sub (pv 2) (pe_op op_pow pe_int pe_int)) rfl))
          (pss_one (ps_dput hu (pv 0) pe_str (pe_op op_mod (pe_callTy call_int1 (by rfl) (by exact T.int) PyProof.Rows.boot_int (pa_cons (pe_op op_add (pe_op op_mul (pe_dget hu (pv 0) pe_str (fun _ _ => rfl)) pe_int) (pv 2)) pa_nil)) pe_int) rfl))))))
        pss_nil)
      (pss_cons (ps_if (pt_cmpR op_gt (pe_dget hu (pv 0) pe_str (fun _ _ => rfl)) pe_int (nomark _))
        (pss_cons (ps_set (i := 3) scDraw.nd rfl (Or.inl rfl) (pe_op op_modN (pe_callTy call_int1 (by rfl) (by exact T.int) PyProof.Rows.boot_int (pa_cons (pe_dget hu (pv 0) pe_str (fun _ _ => rfl)) pa_nil)) (pv 1)))
        (pss_cons (ps_dput hu (pv 0) pe_str (pe_op op_fdivW (pe_dget hu (pv 0) pe_str (fun _ _ => rfl)) (pv 1)) rfl)
        (pss_one (ps_ret (pv 3))))) pss_nil)
      (pss_cons (ps_set (i := 4) scDraw.nd rfl (Or.inl rfl) (pe_op op_add (pe_op op_add (pe_dget hu (pv 0) pe_str (fun _ _ => rfl)) (pe_op op_mul (pe_dget hu (pv 0) pe_str (fun _ _ => rfl)) pe_int)) pe_int))
      (pss_one (ps_ret (pe_op op_modN (pe_op op_fdivN (pe_callTy call_int1 (by rfl) (by exact T.int) PyProof.Rows.boot_int (pa_cons (pe_op op_modN (pe_op op_pow (pv 4) pe_int) pe_int) pa_nil)) pe_int) (pv 1))))))), ?_⟩
    -- count
    refine ⟨_, rfl, p, _, rfl, g_count hH, _, _, rfl, rfl, _, rfl, p, _, rfl, p_count hH, ?_⟩
    have S1 : ∀ o, upd H p o c = some (.lst (ns.map V.int)) := fun o => HP.lst hc
    have S0 : ∀ o, SqL K (upd H p o) c (ns.map V.int) := fun o => .inl (.inl (S1 o))
    refine ⟨fun σ H' => ∃ (i' d' f' : Int) (v : Option V), σ = [some (.ref p), some (.int many), v, none, none] ∧ H' = upd H p (.dK (penD c i' d' ((n : Int) + 1) f')) ∧ 0 ≤ i' ∧ 0 ≤ d' ∧ 0 ≤ f' ∧ f' < 2147483587, ?_, ?_⟩
    · -- the digits are used up?
      refine ⟨_, rfl, p, _, rfl, g_digits upd_same, rfl, _, rfl, ?_⟩
      refine ite2 (fun _ => ?_) (fun _ => ⟨i, d, f, none, rfl, rfl, hi, hd, hf0, hf1⟩)
      refine ⟨_, rfl, p, _, rfl, g_at upd_same, _, rfl, p, _, rfl, g_cells upd_same, c, _, rfl, .inl (S0 _), _, _, rfl, rfl, _, rfl, ?_⟩
      refine ite2 (fun hlt => ?_) (fun _ => ⟨i, d, f, none, rfl, rfl, hi, hd, hf0, hf1⟩)
      have hlt := of_decide_eq_true hlt
      rw [List.length_map] at hlt
      obtain ⟨z, hz⟩ : ∃ z, (ns.map V.int)[i.toNat]? = some (V.int z) := by
        refine ⟨ns[i.toNat]'(by omega), ?_⟩
        rw [List.getElem?_map, List.getElem?_eq_getElem (by omega)]
        rfl
      have hat : atI (ns.map V.int) i = some (V.int z) := by
        have e : i = ((i.toNat : Nat) : Int) := by omega
        rw [e]
        exact atI_nat hz
      refine ⟨_, rfl, p, _, rfl, g_cells upd_same, _, rfl, p, _, rfl, g_at upd_same, c, _, _, _, rfl, rfl, S0 _, hat, ?_⟩
      refine ⟨_, rfl, p, _, rfl, g_at upd_same, _, _, rfl, rfl, _, rfl, p, _, rfl, p_at, ?_⟩
      refine ⟨_, rfl, _, _, rfl, rfl, ⟨by decide, by decide, by decide⟩, _, _, rfl, rfl, _, rfl, ?_⟩
      refine ite2 (fun hge => ?_) (fun _ => ?_)
      · have hge := of_decide_eq_true hge
        refine ⟨_, rfl, _, _, rfl, rfl, ⟨by decide, by decide, by decide⟩, _, _, rfl, rfl, _, rfl, p, _, rfl, p_digits, ?_⟩
        exact ⟨_, _, f, _, rfl, rfl, by omega, Int.sub_nonneg.mpr hge, hf0, hf1⟩
      · refine ⟨_, rfl, p, _, rfl, g_fold upd_same, _, _, rfl, rfl, .inl ⟨by omega, by omega⟩, _, rfl, _, _, rfl, rfl, .inl ⟨_, rfl, _, _, rfl, rfl, (by show (0 : Int) < 2147483587; decide), _, rfl, p, _, rfl, p_fold, ?_⟩⟩
        exact ⟨_, _, _, _, rfl, rfl, by omega, hd, Int.emod_nonneg _ (by decide), Int.emod_lt_of_pos _ (by decide)⟩
    · rintro σ H' ⟨i', d', f', v, rfl, rfl, hi', hd', hf0', hf1'⟩
      have pen : ∀ d'', 0 ≤ d'' → PenAt (upd H p (.dK (penD c i' d'' ((n : Int) + 1) f'))) p c (m + 1) := fun d'' h0 => ⟨ns, i', d'', f', n + 1, upd_same, S1 _, hi', h0, by omega, hf0', hf1'⟩
      refine ⟨_, rfl, p, _, rfl, g_digits upd_same, _, _, rfl, rfl, _, rfl, ?_⟩
      refine ite2 (fun _ => ?_) (fun _ => ?_)
      · refine ⟨_, rfl, p, _, rfl, g_digits upd_same, .inl ⟨_, rfl, _, rfl, _, _, rfl, rfl, by omega, ?_⟩⟩
        refine ⟨_, rfl, p, _, rfl, g_digits upd_same, _, rfl, _, _, rfl, rfl, ⟨m0, m1⟩, _, rfl, p, _, rfl, p_digits, ?_⟩
        refine ⟨_, rfl, ?_⟩
        exact k _ _ (Int.fmod_nonneg_of_pos _ m0) (Int.fmod_lt_of_pos _ m0) (pen _ (Int.ediv_nonneg hd' (by omega)))
      · refine ⟨_, rfl, p, _, rfl, g_fold upd_same, _, rfl, p, _, rfl, g_count upd_same, _, _, rfl, rfl, .inl ⟨by omega, by omega⟩, _, _, rfl, rfl, _, _, rfl, rfl, ?_⟩
        refine ⟨_, rfl, _, _, rfl, rfl, ⟨by decide, by decide, by omega⟩, _, _, rfl, rfl, (by show (2305843009213693951 : Int) ≠ 0; decide), .inl ⟨_, rfl, _, _, rfl, rfl, ⟨by decide, by decide⟩, _, rfl, _, _, rfl, rfl, by omega, ?_⟩⟩
        exact k _ _ (Int.fmod_nonneg_of_pos _ m0) (Int.fmod_lt_of_pos _ m0) (pen _ hd')
theorem SqT_upd {H : Hp} {p c : Addr} {xs : List V} {kvs : List (Key × V)} {o : HO} (h : SqT K H c xs) (hp : H p = some (.dK kvs)) : SqT K (upd H p o) c xs := by
  rcases h with (h | ⟨u, h⟩) | h
  · refine .inl (.inl ?_)
    rw [upd_ne (ne_of h hp (by intro z; cases z))]
    exact h
  · refine .inl (.inr ⟨u, ?_⟩)
    rw [upd_ne (ne_of h hp (by intro z; cases z))]
    exact h
  · exact .inr h
theorem ok_pick (D : DefAt K mg "_law_pick" sPick) (T : Txt K mg) (CD : Cl P w K mg base 1 "_law_draw" (spDraw K)) : Cl P w K mg base 2 "_law_pick" (spPick K) := by
  refine cl_of D scPick (fun vs H Q E h => ?_) (fun _ _ _ _ _ _ us hl => match us, hl with | [_, _], _ => rfl) (fun f cdv A outer s H vs Q E hr h => ?_)
  · obtain ⟨p, c, m, u, xs, rfl, _⟩ := h
    rfl
  · obtain ⟨p, c, m, u, xs, rfl, HP, hS, hm, m0, m1, k⟩ := h
    refine ⟨_, pss_one (ps_ret (pe_ix ix_seq (pv 1) (pe_cl CD hr (Nat.le_refl _) rfl (pa_cons (pv 0) (pa_cons (pe_callB call_len (by rfl) (by exact T.len) PySem.boot_len (pa_cons (pv 1) pa_nil)) pa_nil))) (fun _ _ => rfl))), ?_⟩
    obtain ⟨kvs, hk⟩ := HP.dict
    have hln : LenV K u H xs.length := by
      cases hS with
      | lst h => exact .inl ⟨_, h, rfl⟩
      | tup h => exact .inr ⟨_, h, rfl⟩
      | str h => exact ⟨h, by rw [List.length_map]; exact (Array.length_toList).symm⟩
    refine ⟨_, rfl, _, rfl, _, rfl, _, _, rfl, hln, ?_⟩
    refine ⟨p, c, m, _, rfl, HP, hm, by omega, ?_, fun v o v0 v1 HP' => ?_⟩
    · have h2 : (xs.length : Int).natAbs.log2 < 30 := PySem.Flt.log2_lt_of (by decide) (by omega)
      omega
    obtain ⟨y, hv⟩ : ∃ y, xs[v.toNat]? = some y := ⟨xs[v.toNat]'(by omega), List.getElem?_eq_getElem (by omega)⟩
    have e : v = ((v.toNat : Nat) : Int) := by omega
    have hq := k v.toNat y o hv HP'
    cases hS with
    | lst h => exact .inl ⟨_, xs, v, y, rfl, rfl, SqL_upd h hk, by rw [e]; exact atI_nat hv, hq⟩
    | tup h => exact .inr (.inl ⟨_, xs, v, y, rfl, rfl, SqT_upd h hk, by rw [e]; exact atI_nat hv, hq⟩)
    | @str z h =>
      rw [List.getElem?_map] at hv
      cases ec : z.cps.toList[v.toNat]? with
      | none => rw [ec] at hv; cases hv
      | some cc =>
        rw [ec] at hv
        obtain rfl := Option.some.inj hv
        exact .inr (.inr ⟨z, v, cc, rfl, rfl, h, by rw [e]; exact atI_nat ec, hq⟩)
end
end Wq
set_option Elab.async false
set_option linter.all false
set_option maxRecDepth 100000
set_option maxHeartbeats 2000000
/-! promises of defs that are called where nothing is being shown (repr is known there) -/
namespace Wq
open PySem PySem.Spec PyProof.Rows L2
structure FnG (P : Program) (w : World) (K : PySem.W.Frag) (mg : Str → Option Value) (base : Heap) (CX : CXT) (k : Nat) (f : Addr) (fd : FuncData) (ps : List Str) (sp : Sp) : Prop where
  len : ∀ vs H Q E, sp vs H Q E → vs.length = ps.length
  go : ∀ (A : Around), Room k A → A.guards = some [] → ∀ (outer : List Env) (s : Shared) (H : Hp) (args : Args) (us : List Value) (vs : List V) (Q : VK) (E : XK), Env0 P w K mg base A outer s H → BindsTo s fd args (ps.zip us) → Vals vs us → sp vs H Q E → codeAny (model P w) A (.call (.ref f) args) (CR CX outer P w H s Q E) s
section
variable {P : Program} {w : World} {K : PySem.W.Frag} {mg : Str → Option Value} {base : Heap} {CX : CXT} {k : Nat} {f : Addr} {fd : FuncData} {ps : List Str} {sp : Sp}
theorem FnG.of (F : FnOk P w K mg base CX k f fd ps sp) : FnG P w K mg base CX k f fd ps sp := ⟨F.len, fun A hr _ outer s H args us vs Q E => F.run A outer s H args us vs Q E hr⟩
theorem FnG.mono {j : Nat} (F : FnG P w K mg base CX j f fd ps sp) (h : j ≤ k) : FnG P w K mg base CX k f fd ps sp := ⟨F.len, fun A hr hg => F.go A (hr.mono h) hg⟩
end
theorem deep_g {A : Around} {e : Env} (h : A.guards = some []) : (A.deeper e).guards = some [] := h
/-- a def by its body, where nothing is being shown -/
theorem fnG_of {CX : CXT} {P : Program} {w : World} {K : PySem.W.Frag} {mg : Str → Option Value} {base : Heap} {k : Nat} {f : Addr} {x qual : Str} {pm : Arguments} {body : List Stmt} {sc : Scope} {dV kV doc pv cdv ct oc : Value} {an od : Option Addr} {osl : Array (Option Value)} {N ps : List Str} {sp : Sp}
    (lk : K.lookup f = some ⟨oc, od, .func (PySem.W.fnOf x qual pm body sc dV kV doc pv an cdv ct), osl⟩) (hcd : PySem.W.codeIn K cdv qual = true) (S : FnScope N ps sc) (len : ∀ vs H Q E, sp vs H Q E → vs.length = ps.length)
    (hbody : ∀ (A : Around), A.guards = some [] → ∀ (outer : List Env) (s : Shared) (H : Hp) (vs : List V) (Q : VK) (E : XK), Room k (A.deeper (envOfC qual sc s.heap.objs.size f cdv)) → sp vs H Q E →
      ∃ t, PSs (cxOf CX P w K mg base N qual sc f cdv A outer s H E) body t ∧ t { nx := fun _ H' => Q .non H', rt := Q } (start N vs) H) :
    FnG P w K mg base CX (k + 1) f (PySem.W.fnOf x qual pm body sc dV kV doc pv an cdv ct) ps sp := by
  refine ⟨len, fun A hr hg outer s H args us vs Q E e0 hb r hsp => ?_⟩
  obtain ⟨t, ht, hq⟩ := hbody A hg outer s H vs Q E (hr.deeper _) hsp
  have up : ∀ b o, base.get? b = some o → s.heap.get? b = some o := fun b o e => (e0.bs b o e).1
  have KX : K.In s.heap := e0.mod.kin.keeps up
  have kinds : ∀ y ∈ ps.zip us, sc.names.lookup y.1 = some .local ∨ (sc.names.lookup y.1 = some .cell ∧ ((cellsFrom (s.heap.objs.size + 1) sc.names []).lookup y.1).isSome = true) := by
    rintro ⟨n, v⟩ hy
    exact (S.par n (List.of_mem_zip hy).1).imp id fun q => ⟨q, PySem.W.cellsFrom_some _ _ _ (.inl q)⟩
  refine codeAny_call_function hr.depth (KX _ _ lk) rfl S.co S.gen rfl (PySem.W.codeRec_of KX hcd) (hb _ _ _ _ (wpAny_newFunctionEnv_cells S.kind kinds fun env he s1 x => ?_))
  subst he
  refine ⟨(e0.mod.nolimit.keeps up).keeps x.toInCall.keep, codeAny_func ?_⟩
  refine wpAny_mono (ht.run [] s1 (start N vs) H _ (inv_start S hr.hd e0 (len _ _ _ _ hsp) r x) hq) (fun fl s' hs => ?_) fun _ _ hs => hs
  cases fl with
  | brk => obtain ⟨_, _, _, q⟩ := hs; exact q.elim
  | cont => obtain ⟨_, _, _, q⟩ := hs; exact q.elim
  | next =>
    obtain ⟨σ', H', J, q⟩ := hs
    exact ⟨.non, H', J.os, J.bare, J.base, J.hok, rfl, q⟩
  | ret u =>
    obtain ⟨v, σ', H', J, rv, q⟩ := hs
    exact ⟨v, H', J.os, J.bare, J.base, J.hok, rv, q⟩
section
variable {X : Cx} {CX : CXT} {k : Nat} {f : Addr} {fd : FuncData} {ps : List Str} {sp : Sp} {ds : List Value} {dvs : List V} {E : XK} {x : Str} {p pos : Pos} {e : Expr} {es : List Expr} {t : TA}
theorem run_g {pins : List (Addr × Obj)} {σ : L2.St} {H : Hp} {s : Shared} {Q : VK} {us : List Value} {vs : List V} (F : FnG X.prog X.w X.K X.mg X.base CX k f fd ps sp) (hr : Room k X.A) (hG : X.A.guards = some []) (hb : Binds X.K fd ps ds) (hd : Vals dvs ds) (hx : Passes CX X E)
    (I : Inv X pins σ H s) (r : Vals vs us) (h : sp (vs ++ dvs) H Q E) : wpAny (model X.prog X.w) X.A (call (.ref f) us) (EP X pins σ Q) X.xe s := by
  have r2 := r.append hd
  have hl : (us ++ ds).length = ps.length := r2.length.symm.trans (F.len _ _ _ _ h)
  refine wpAny_call (codeAny_mono (F.go X.A hr hG X.stack s H ⟨us, []⟩ _ _ Q E I.env0 (hb s us I.kIn hl) r2 h) fun r s' hq => ?_)
  match r, hq with
  | .error e, hq => exact hx pins σ H s e s' I hq
  | .ok (.ret u), hq => exact I.after hq
theorem pe_callG (F : FnG X.prog X.w X.K X.mg X.base CX k f fd ps sp) (hr : Room k X.A) (hG : X.A.guards = some []) (hg : Gl X x) (hm : X.mg x = some (.ref f)) (hk : PySem.W.keepIn X.K (.ref f) = true) (hb : Binds X.K fd ps ds) (hd : Vals dvs ds) (hx : Passes CX X E) (ha : PA X (e :: es) t)
    (hdb : (x == ("__debug__" : Str)) = false := by decide) (he : starEach (e :: es) X.env = (false, eval e X.env) :: starEach es X.env := by rfl) (hpl : (backTo pos (starEach es X.env)).any (·.1) = false := by rfl) : PE X (.Call (.Name x p) (e :: es) [] pos) (tCall sp dvs E t) :=
  ⟨fun pins s σ H Q I h => wpAny_Call_Name_kw (ld_glob I hg hm (PySem.W.callWith_K (h₀ := X.base) I.ok.mod.kin hk (thn (ha.run pos pins s σ H _ I h) fun us s1 ⟨vs, H1, I1, r, q⟩ => ⟨I1.kIn, run_g F hr hG hb hd hx I1 r q⟩) he hpl) hdb)⟩
end
end Wq
set_option Elab.async false
set_option linter.all false
set_option maxRecDepth 100000
set_option maxHeartbeats 2000000
/-! repr where nothing is being shown: flat values, {}, lists and tuples of them, two deep -/
namespace Wq
open PySem PySem.Spec PyProof.Rows L2
mutual
/-- what a value shows -/
inductive Sh (K : PySem.W.Frag) (H : Hp) : V → PyData → Prop
  | non : Sh K H .non .none
  | bl (b : Bool) : Sh K H (.bl b) (.bool b)
  | int (i : Int) : Sh K H (.int i) (.int i)
  | str (x : Str) : Sh K H (.str x) (.str x)
  | emp {a : Addr} : H a = some (.dK []) → Sh K H (.ref a) (.dict [])
  | lst {a : Addr} {xs : List V} {ds : List PyData} : SqL K H a xs → a ≠ sysModules → ShAll K H xs ds → Sh K H (.ref a) (.list ds)
  | tup {a : Addr} {xs : List V} {ds : List PyData} : SqT K H a xs → ShAll K H xs ds → Sh K H (.ref a) (.tuple ds)
inductive ShAll (K : PySem.W.Frag) (H : Hp) : List V → List PyData → Prop
  | nil : ShAll K H [] []
  | cons {v : V} {vs : List V} {d : PyData} {ds : List PyData} : Sh K H v d → ShAll K H vs ds → ShAll K H (v :: vs) (d :: ds)
end
section
variable {X : Cx} {pins : List (Addr × Obj)} {σ : L2.St} {H : Hp} {s : Shared}
mutual
theorem Sh.reads (I : Inv X pins σ H s) : ∀ (d : PyData) (v : V) (u : Value), Sh X.K H v d → RelV v u → ∃ as, Reads s.heap u d as ∧ sysModules ∉ as
  | .none, _, _, h, r => by
    cases h; cases r
    exact ⟨_, .none, by simp⟩
  | .bool b, _, _, h, r => by
    cases h; cases r
    exact ⟨_, .bool b, by simp⟩
  | .int i, _, _, h, r => by
    cases h
    obtain ⟨t, rfl⟩ := r
    exact ⟨_, .int i t, by simp⟩
  | .str x, _, _, h, r => by
    cases h
    obtain ⟨t, rfl⟩ := r
    exact ⟨_, .str x t, by simp⟩
  | .list ds, _, _, h, r => by
    cases h with
    | lst hs na ha =>
      cases r
      obtain ⟨its, rv, ⟨o, n, ho, hc, _, hd⟩, _⟩ := I.list hs
      obtain ⟨as, hr, hn⟩ := Sh.readsAll I ds _ its ha rv
      refine ⟨_, .list ho hc hd hr, fun z => ?_⟩
      rcases List.mem_cons.mp z with e | e
      · exact na e.symm
      · exact hn e
  | .tuple ds, _, _, h, r => by
    cases h with
    | tup hs ha =>
      cases r
      obtain ⟨its, rv, ⟨o, ho, hc, n, hd⟩, _⟩ := I.tuple hs
      obtain ⟨as, hr, hn⟩ := Sh.readsAll I ds _ its ha rv
      exact ⟨_, .tuple ho hc hd hr, hn⟩
  | .dict kvs, _, _, h, r => by
    cases h with
    | @emp a he =>
      cases r
      obtain ⟨_, hs, vs, kv, o, es, ep, ho, hx, hd, _, hp, _⟩ := I.hok a _ he
      cases kv
      cases hl : es.toList with
      | cons e l =>
        rw [hl] at hp
        cases hp
      | nil =>
        refine ⟨_, .dict ho hx.1 hd (as := []) (bs := []) (by rw [hl]; exact .nil) (by rw [hl]; exact .nil), fun z => ?_⟩
        have z : sysModules = a := by simpa using z
        rw [← z] at hs
        simp at hs
theorem Sh.readsAll (I : Inv X pins σ H s) : ∀ (ds : List PyData) (vs : List V) (us : List Value), ShAll X.K H vs ds → Vals vs us → ∃ as, ReadsAll s.heap us ds as ∧ sysModules ∉ as
  | [], _, _, h, r => by
    cases h; cases r
    exact ⟨_, .nil, by simp⟩
  | d :: ds, _, _, h, r => by
    cases h with
    | cons h1 h2 =>
      cases r with
      | cons r1 r2 =>
        obtain ⟨as, q1, n1⟩ := Sh.reads I d _ _ h1 r1
        obtain ⟨bs, q2, n2⟩ := Sh.readsAll I ds _ _ h2 r2
        refine ⟨_, .cons q1 q2, fun z => ?_⟩
        rcases List.mem_append.mp z with e | e
        · exact n1 e
        · exact n2 e
end
end
def rRepr (K : PySem.W.Frag) : List V → Hp → VK → Prop := fun xs H Q => ∃ (v : V) (d : PyData), xs = [v] ∧ Sh K H v d ∧ d.showable = true ∧ d.depth ≤ 60 ∧ d.shown.length ≤ sizeLine ∧ Q (.str d.shown) H
theorem call_repr {X : Cx} (hG : X.A.guards = some []) (hu : X.A.units + 64 < cLine) : CallR X (.builtin "repr") (rRepr X.K) := by
  intro pins s σ H xs us Q I r h
  obtain ⟨v, d, rfl, hv, hs, hd, hl, q⟩ := h
  obtain ⟨u, rfl, ru⟩ := vals1 r
  obtain ⟨as, rd, na⟩ := hv.reads I d v u ru
  have big : ∀ a, u = .ref a → wpAny (model X.prog X.w) X.A (call (.builtin "repr") [u]) (EP X pins σ Q) X.xe s := by
    rintro a rfl
    exact PySem.repr_of_reads' rd hs (fun _ => na) hG (by omega) (fun _ _ e => e) (fun h' u tk hk => ⟨.str d.shown, H, I.kept hk, ⟨u, rfl⟩, q⟩) hl
  cases hv with
  | non => cases ru; exact PySem.P.repr_of_none ⟨.str _, H, I.tok _, ⟨_, rfl⟩, q⟩
  | bl b => cases ru; exact PySem.P.repr_of_bool ⟨.str _, H, I.tok _, ⟨_, rfl⟩, q⟩
  | int i => obtain ⟨t, rfl⟩ := ru; exact PySem.P.repr_of_int (of_decide_eq_true hs) ⟨.str _, H, I.tok _, ⟨_, rfl⟩, q⟩
  | str x => obtain ⟨t, rfl⟩ := ru; exact PySem.P.repr_of_str (h := ⟨.str _, H, I.tok _, ⟨_, rfl⟩, q⟩) (hsz := hl)
  | emp e => exact big _ ru
  | lst a b c => exact big _ ru
  | tup a b => exact big _ ru
/-- a new list, apart from the dict of modules -/
def tLstN (t : TA) : TE := fun σ H Q => t σ H fun xs H1 => xs.length ≤ sizeLine ∧ ∀ p, H1 p = none → p ≠ sysModules → Q (.ref p) (upd H1 p (.lst xs))
theorem pe_lstN {X : Cx} {es : List Expr} {t : TA} {pos : Pos} (h : PA X es t) : PE X (.List es pos) (tLstN t) := by
  refine ⟨fun pins s σ H Q I hq => wpAny_List_spliced (thn (h.run pos pins s σ H _ I hq) fun us s1 ⟨xs, H1, I1, r, z, q⟩ => ⟨by rw [← r.length]; exact z, ?_⟩)⟩
  have hf : H1 s1.heap.objs.size = none := I1.hok.fresh (Nat.le_refl _)
  have hb := I1.big
  exact ⟨.ref s1.heap.objs.size, upd H1 s1.heap.objs.size (.lst xs), I1.laid (t' := s1.toks) (fun b u e => Heap.get?_push_of_some _ e) (Nat.le_refl _) ⟨z, us, 0, r, Heap.get?_push_size _ rfl⟩, rfl, q _ hf (Nat.ne_of_gt hb)⟩
end Wq
set_option Elab.async false
set_option linter.all false
set_option maxRecDepth 100000
set_option maxHeartbeats 1000000
/-! protocol lines, without a heap -/
namespace Pl
open PySem
open SX (S S_tl)
abbrev Ws := List Str
def wds (x : Str) : Ws := (TL.spl [32] 0 [] x.cps.toList).map S
def LST : Ws := ["list", "next", "back"]
abbrev Hs := List (Str × Ws)
def hC : Hs := [("write", ["new"]), ("sync", ["new", "names"]), ("rename", []), ("remove", ["dropped"]), ("tell", [])]
def hT : Hs := [("take", [])]
def hR : Hs := [("write", []), ("sync", ["names", "taken"]), ("rename", []), ("remove", ["stray"])]
def SHL : Ws := ["sync names", "write list", "sync list", "remove list", "rename list next", "rename list back", "write next", "sync next", "remove next", "rename next list", "rename next back", "write back", "sync back", "remove back", "rename back list", "rename back next"]
def mC : Ws := ["sync names", "write list", "sync list", "remove list", "rename list next", "rename list back", "write next", "sync next", "remove next", "rename next list", "rename next back", "write back", "sync back", "remove back", "rename back list", "rename back next", "write new", "sync new", "remove dropped", "tell"]
def mT : Ws := ["take list", "take next", "take back", "take list next", "take list next back", "take list back", "take list back next", "take next list", "take next list back", "take next back", "take next back list", "take back list", "take back list next", "take back next", "take back next list"]
def mR : Ws := ["sync names", "write list", "sync list", "remove list", "rename list next", "rename list back", "write next", "sync next", "remove next", "rename next list", "rename next back", "write back", "sync back", "remove back", "rename back list", "rename back next", "sync taken", "remove stray"]
def wC : List Ws := [["sync", "names"], ["write", "list"], ["sync", "list"], ["remove", "list"], ["rename", "list", "next"], ["rename", "list", "back"], ["write", "next"], ["sync", "next"], ["remove", "next"], ["rename", "next", "list"], ["rename", "next", "back"], ["write", "back"], ["sync", "back"], ["remove", "back"], ["rename", "back", "list"], ["rename", "back", "next"], ["write", "new"], ["sync", "new"], ["remove", "dropped"], ["tell"]]
def wT : List Ws := [["take", "list"], ["take", "next"], ["take", "back"], ["take", "list", "next"], ["take", "list", "next", "back"], ["take", "list", "back"], ["take", "list", "back", "next"], ["take", "next", "list"], ["take", "next", "list", "back"], ["take", "next", "back"], ["take", "next", "back", "list"], ["take", "back", "list"], ["take", "back", "list", "next"], ["take", "back", "next"], ["take", "back", "next", "list"]]
def wR : List Ws := [["sync", "names"], ["write", "list"], ["sync", "list"], ["remove", "list"], ["rename", "list", "next"], ["rename", "list", "back"], ["write", "next"], ["sync", "next"], ["remove", "next"], ["rename", "next", "list"], ["rename", "next", "back"], ["write", "back"], ["sync", "back"], ["remove", "back"], ["rename", "back", "list"], ["rename", "back", "next"], ["sync", "taken"], ["remove", "stray"]]
theorem mC_w : mC.map wds = wC := by decide +kernel
theorem mT_w : mT.map wds = wT := by decide +kernel
theorem mR_w : mR.map wds = wR := by decide +kernel
def mostW (h : Str) : Nat := if h = "rename" then 3 else if h = "take" then 4 else 2
def behind (hs : Hs) (ahead : Ws) : Ws := match ahead with
  | [] => hs.map (·.1)
  | h :: _ => if h = "tell" then [] else if ahead.length = mostW h then [] else LST.filter (fun x => decide (x ∉ ahead)) ++ (hs.lookup h).getD []
def manyOf (ws : Ws) : Nat := match ws with
  | [] => 2
  | h :: _ => if h = "rename" then 3 else if h = "tell" then 1 else 2
def lOk (mw : List Ws) (p : Ws) : Bool := mw.any fun m => decide (m.take p.length = p)
def pOk (hs : Hs) (p : Ws) : Bool := match p.getLast? with
  | none => true
  | some w => decide (w ∈ behind hs p.dropLast)
def fitsB (hs : Hs) (mw : List Ws) : Bool := !mw.isEmpty && mw.all fun m => !m.isEmpty && (List.range (m.length + 1)).all fun k =>
  ((behind hs (m.take k)).all fun w => lOk mw (m.take k ++ [w])) && ((match m[k]? with | none => true | some w => decide (w ∈ behind hs (m.take k))) && (decide (k = 0) || (decide (m.take k ∈ mw) == decide (manyOf (m.take k) ≤ k))))
theorem fitC : fitsB hC wC = true := by decide +kernel
theorem fitT : fitsB hT wT = true := by decide +kernel
theorem fitR : fitsB hR wR = true := by decide +kernel
structure Fits (hs : Hs) (mw : List Ws) : Prop where
  ne : mw ≠ []
  ne1 : ∀ m ∈ mw, m ≠ []
  a1 : ∀ m ∈ mw, ∀ k, k ≤ m.length → ∀ w ∈ behind hs (m.take k), lOk mw (m.take k ++ [w]) = true
  a2 : ∀ m ∈ mw, ∀ k w, m[k]? = some w → w ∈ behind hs (m.take k)
  b : ∀ m ∈ mw, ∀ k, 1 ≤ k → k ≤ m.length → (m.take k ∈ mw ↔ manyOf (m.take k) ≤ k)
theorem fits_of {hs : Hs} {mw : List Ws} (h : fitsB hs mw = true) : Fits hs mw := by
  unfold fitsB at h
  rw [Bool.and_eq_true, List.all_eq_true] at h
  obtain ⟨h0, h⟩ := h
  have key : ∀ m ∈ mw, m ≠ [] ∧ ∀ k, k ≤ m.length → (∀ w ∈ behind hs (m.take k), lOk mw (m.take k ++ [w]) = true) ∧ (∀ w, m[k]? = some w → w ∈ behind hs (m.take k)) ∧ (1 ≤ k → (m.take k ∈ mw ↔ manyOf (m.take k) ≤ k)) := fun m hm => by
    have h1 := h m hm
    rw [Bool.and_eq_true, List.all_eq_true] at h1
    refine ⟨fun e => by rw [e] at h1; exact absurd h1.1 (by decide), fun k hk => ?_⟩
    have h2 := h1.2 k (List.mem_range.mpr (by omega))
    rw [Bool.and_eq_true, Bool.and_eq_true, List.all_eq_true] at h2
    obtain ⟨h3, h4, h5⟩ := h2
    refine ⟨h3, fun w e => ?_, fun h1k => ?_⟩
    · rw [e] at h4
      exact of_decide_eq_true h4
    · rw [decide_eq_false (by omega), Bool.false_or, beq_iff_eq, decide_eq_decide] at h5
      exact h5
  refine ⟨fun e => by rw [e] at h0; exact absurd h0 (by decide), fun m hm => (key m hm).1, fun m hm k hk => ((key m hm).2 k hk).1, fun m hm k w e => ?_, fun m hm k h1 hk => ((key m hm).2 k hk).2.2 h1⟩
  exact ((key m hm).2 k (Nat.le_of_lt (List.getElem?_eq_some_iff.mp e).1)).2.1 w e
theorem step {hs : Hs} {mw : List Ws} (F : Fits hs mw) {p : Ws} (h : lOk mw p = true) (w : Str) : w ∈ behind hs p ↔ lOk mw (p ++ [w]) = true := by
  constructor
  · intro hw
    obtain ⟨m, hm, e⟩ := List.any_eq_true.mp h
    have e := of_decide_eq_true e
    have hl : p.length ≤ m.length := by
      have := congrArg List.length e
      rw [List.length_take] at this
      omega
    rw [← e] at hw
    have := F.a1 m hm p.length hl w hw
    rw [e] at this
    exact this
  · intro hw
    obtain ⟨m, hm, e⟩ := List.any_eq_true.mp hw
    have e := of_decide_eq_true e
    rw [List.length_append] at e
    have hl : p.length < m.length := by
      have := congrArg List.length e
      rw [List.length_take, List.length_append] at this
      simp only [List.length_cons, List.length_nil] at this
      omega
    have e1 : m.take p.length = p := by
      have := congrArg (List.take p.length) e
      rw [List.take_take, List.take_append_of_le_length (Nat.le_refl _), List.take_length] at this
      rw [Nat.min_eq_left (Nat.le_add_right _ _)] at this
      exact this
    have e2 : m[p.length]? = some w := by
      have := congrArg (fun l : Ws => l[p.length]?) e
      simp only [List.length_cons, List.length_nil] at this
      rw [List.getElem?_take_of_lt (by omega)] at this
      rw [this]
      simp
    have := F.a2 m hm p.length w e2
    rw [e1] at this
    exact this
def firstBad (ok : Ws → Bool) (ws : Ws) : Option Nat := (List.range ws.length).find? fun i => !ok (ws.take (i + 1))
theorem bad_some {ok : Ws → Bool} {ws : Ws} {i : Nat} (hi : i < ws.length) (h1 : ∀ j, j < i → ok (ws.take (j + 1)) = true) (h2 : ok (ws.take (i + 1)) = false) : firstBad ok ws = some i := by
  unfold firstBad
  rw [List.find?_range_eq_some]
  exact ⟨by rw [h2]; rfl, List.mem_range.mpr hi, fun j hj => by rw [h1 j hj]; rfl⟩
theorem bad_none {ok : Ws → Bool} {ws : Ws} (h : ∀ j, j < ws.length → ok (ws.take (j + 1)) = true) : firstBad ok ws = none := by
  unfold firstBad
  rw [List.find?_eq_none]
  intro j hj
  rw [h j (List.mem_range.mp hj)]
  decide
theorem bad_cases (ok : Ws → Bool) (ws : Ws) : (firstBad ok ws = none ∧ ∀ j, j < ws.length → ok (ws.take (j + 1)) = true) ∨ ∃ i, firstBad ok ws = some i ∧ i < ws.length ∧ (∀ j, j < i → ok (ws.take (j + 1)) = true) ∧ ok (ws.take (i + 1)) = false := by
  cases e : firstBad ok ws with
  | none =>
    refine .inl ⟨rfl, fun j hj => ?_⟩
    unfold firstBad at e
    have := List.find?_eq_none.mp e j (List.mem_range.mpr hj)
    simpa using this
  | some i =>
    unfold firstBad at e
    obtain ⟨h1, h2, h3⟩ := List.find?_range_eq_some.mp e
    exact .inr ⟨i, rfl, List.mem_range.mp h2, fun j hj => by simpa using h3 j hj, by simpa using h1⟩
theorem pOk_take {hs : Hs} {ws : Ws} {j : Nat} {w : Str} (e : ws[j]? = some w) : pOk hs (ws.take (j + 1)) = decide (w ∈ behind hs (ws.take j)) := by
  have : ws.take (j + 1) = ws.take j ++ [w] := by rw [List.take_add_one, e]; rfl
  unfold pOk
  rw [this, List.getLast?_append, List.dropLast_concat]
  rfl
theorem lOk_nil {mw : List Ws} (h : mw ≠ []) : lOk mw [] = true := by
  cases mw with
  | nil => exact absurd rfl h
  | cons m r => simp [lOk]
theorem lOk_take {mw : List Ws} (h : mw ≠ []) {ws : Ws} {j : Nat} (hj : ∀ i, i < j → lOk mw (ws.take (i + 1)) = true) : lOk mw (ws.take j) = true := by
  cases j with
  | zero => exact lOk_nil h
  | succ j => exact hj j (Nat.lt_succ_self j)
theorem same_at {hs : Hs} {mw : List Ws} (F : Fits hs mw) {ws : Ws} {j : Nat} (hj : j < ws.length) (h : ∀ i, i < j → lOk mw (ws.take (i + 1)) = true) : pOk hs (ws.take (j + 1)) = lOk mw (ws.take (j + 1)) := by
  have e : ws[j]? = some ws[j] := List.getElem?_eq_getElem hj
  rw [pOk_take e]
  have e2 : ws.take (j + 1) = ws.take j ++ [ws[j]] := by rw [List.take_add_one, e]; rfl
  rw [e2, Bool.eq_iff_iff, decide_eq_true_eq]
  exact step F (lOk_take F.ne h) _
theorem same_bad {hs : Hs} {mw : List Ws} (F : Fits hs mw) (ws : Ws) : firstBad (pOk hs) ws = firstBad (lOk mw) ws := by
  rcases bad_cases (lOk mw) ws with ⟨e, h⟩ | ⟨i, e, hi, h1, h2⟩
  · rw [e]
    exact bad_none fun j hj => (same_at F hj fun i hi => h i (by omega)).trans (h j hj)
  · rw [e]
    refine bad_some hi (fun j hj => (same_at F (by omega) fun k hk => h1 k (by omega)).trans (h1 j hj)) ((same_at F hi h1).trans h2)
def off (ws : Ws) (i : Nat) : Nat := ((ws.take i).map fun w => w.length + 1).sum
def colP (hs : Hs) (ws : Ws) (len : Nat) : Nat := match firstBad (pOk hs) ws with
  | some i => off ws i + 1
  | none => if ws.length < manyOf ws then len + 1 else 0
def colL (mw : List Ws) (ws : Ws) (len : Nat) : Nat := if ws ∈ mw then 0 else match firstBad (lOk mw) ws with
  | some i => off ws i + 1
  | none => len + 1
theorem lOk_of {mw : List Ws} {ws : Ws} (h : ws ∈ mw) (j : Nat) : lOk mw (ws.take j) = true := by
  refine List.any_eq_true.mpr ⟨ws, h, decide_eq_true ?_⟩
  rw [List.length_take, List.take_eq_take_iff]
  omega
theorem col_eq {hs : Hs} {mw : List Ws} (F : Fits hs mw) {ws : Ws} (ne : ws ≠ []) (len : Nat) : colP hs ws len = colL mw ws len := by
  have hl : 1 ≤ ws.length := List.length_pos_iff.mpr ne
  unfold colP colL
  rw [same_bad F ws]
  by_cases hm : ws ∈ mw
  · rw [if_pos hm, bad_none fun j _ => lOk_of hm (j + 1)]
    have := (F.b ws hm ws.length hl (Nat.le_refl _)).mp (by rw [List.take_length]; exact hm)
    rw [List.take_length] at this
    show (if ws.length < manyOf ws then len + 1 else 0) = 0
    rw [if_neg (by omega)]
  · rw [if_neg hm]
    rcases bad_cases (lOk mw) ws with ⟨e, h⟩ | ⟨i, e, _⟩
    · rw [e]
      show (if ws.length < manyOf ws then len + 1 else 0) = len + 1
      have h1 : lOk mw ws = true := by
        have := lOk_take F.ne (j := ws.length) h
        rw [List.take_length] at this
        exact this
      obtain ⟨m, hm2, e2⟩ := List.any_eq_true.mp h1
      have e2 := of_decide_eq_true e2
      have hl2 : ws.length ≤ m.length := by
        have := congrArg List.length e2
        rw [List.length_take] at this
        omega
      have := F.b m hm2 ws.length hl hl2
      rw [e2] at this
      rw [if_pos (by
        have : ¬ manyOf ws ≤ ws.length := fun z => hm (this.mpr z)
        omega)]
    · rw [e]
end Pl
set_option Elab.async false
set_option linter.all false
set_option maxRecDepth 100000
set_option maxHeartbeats 1000000
/-! lines and words of texts; what is due -/
namespace Pl
open PySem
open SX (S S_tl S_inj split_S join_S)
def cutAt (c : Nat) : List Nat → List (List Nat)
  | [] => [[]]
  | x :: r => if x = c then [] :: cutAt c r else
    match cutAt c r with
    | [] => [[x]]
    | p :: ps => (x :: p) :: ps
theorem jn2 (c : Nat) (l m : List Nat) (r : List (List Nat)) : TL.joinL [c] (l :: m :: r) = l ++ c :: TL.joinL [c] (m :: r) := by rw [TL.joinL.eq_3]; rfl
theorem jnc (c x : Nat) (m : List Nat) (ms : List (List Nat)) : TL.joinL [c] ((x :: m) :: ms) = x :: TL.joinL [c] (m :: ms) := by
  cases ms with
  | nil => simp [TL.joinL]
  | cons k ks => rw [jn2, jn2]; rfl
theorem cut_ok (c : Nat) : ∀ t, cutAt c t ≠ [] ∧ (∀ l ∈ cutAt c t, c ∉ l) ∧ TL.joinL [c] (cutAt c t) = t
  | [] => by
    refine ⟨List.cons_ne_nil _ _, fun l h => ?_, rfl⟩
    rw [List.mem_singleton.mp h]
    exact List.not_mem_nil
  | x :: r => by
    obtain ⟨g1, g2, g3⟩ := cut_ok c r
    cases er : cutAt c r with
    | nil => exact absurd er g1
    | cons m ms =>
    rw [er] at g2 g3
    unfold cutAt
    by_cases e : x = c
    · rw [if_pos e, er]
      refine ⟨List.cons_ne_nil _ _, fun l hl => ?_, by rw [jn2, g3, e]; rfl⟩
      rcases List.mem_cons.mp hl with rfl | hl
      · exact List.not_mem_nil
      · exact g2 l hl
    · rw [if_neg e, er]
      refine ⟨List.cons_ne_nil _ _, fun l hl => ?_, by rw [jnc, g3]⟩
      rcases List.mem_cons.mp hl with rfl | hl
      · intro hm
        rcases List.mem_cons.mp hm with h | h
        · exact e h.symm
        · exact g2 m List.mem_cons_self h
      · exact g2 l (List.mem_cons_of_mem _ hl)
theorem cut_spl (c : Nat) (t : List Nat) : TL.spl [c] 0 [] t = cutAt c t := by
  obtain ⟨g1, g2, g3⟩ := cut_ok c t
  have := SX.spl_join (c := c) (sep := []) g1 g2
  rw [g3] at this
  exact this
theorem cut_join {c : Nat} {ls : List (List Nat)} (h1 : ls ≠ []) (h2 : ∀ l ∈ ls, c ∉ l) : cutAt c (TL.joinL [c] ls) = ls := by
  rw [← cut_spl]
  exact SX.spl_join (c := c) (sep := []) h1 h2
/-- signs of the parts are signs of the text -/
theorem cut_sub {c : Nat} : ∀ {t l : List Nat}, l ∈ cutAt c t → ∀ x ∈ l, x ∈ t
  | [], l, h, x, hx => by
    rw [List.mem_singleton.mp h] at hx
    cases hx
  | y :: r, l, h, x, hx => by
    unfold cutAt at h
    by_cases e : y = c
    · rw [if_pos e] at h
      rcases List.mem_cons.mp h with rfl | h
      · cases hx
      · exact List.mem_cons_of_mem _ (cut_sub h x hx)
    · rw [if_neg e] at h
      cases er : cutAt c r with
      | nil => exact absurd er (cut_ok c r).1
      | cons m ms =>
        rw [er] at h
        rcases List.mem_cons.mp h with rfl | h
        · rcases List.mem_cons.mp hx with rfl | hx
          · exact List.mem_cons_self
          · exact List.mem_cons_of_mem _ (cut_sub (by rw [er]; exact List.mem_cons_self) x hx)
        · exact List.mem_cons_of_mem _ (cut_sub (by rw [er]; exact List.mem_cons_of_mem _ h) x hx)
/-- how long they are together -/
theorem cut_len (c : Nat) : ∀ t : List Nat, ((cutAt c t).map fun l => l.length + 1).sum = t.length + 1
  | [] => rfl
  | y :: r => by
    have ih := cut_len c r
    unfold cutAt
    by_cases e : y = c
    · rw [if_pos e, List.map_cons, List.sum_cons, ih, List.length_cons, List.length_nil]
      omega
    · rw [if_neg e]
      cases er : cutAt c r with
      | nil => exact absurd er (cut_ok c r).1
      | cons m ms =>
        rw [er] at ih
        simp only [List.map_cons, List.sum_cons, List.length_cons] at ih ⊢
        omega
theorem wds_cut (x : Str) : wds x = (cutAt 32 x.cps.toList).map S := by
  unfold wds
  rw [cut_spl]
theorem wds_ne (x : Str) : wds x ≠ [] := by
  rw [wds_cut]
  exact fun e => (cut_ok 32 _).1 (List.map_eq_nil_iff.mp e)
theorem mapS_inj {a b : List (List Nat)} (h : a.map S = b.map S) : a = b := (List.map_inj_right fun _ _ h => S_inj h).mp h
theorem str_ext {a b : Str} (h : a.cps.toList = b.cps.toList) : a = b := by
  exact (S_tl a).symm.trans ((congrArg S h).trans (S_tl b))
theorem wds_inj {x y : Str} (h : wds x = wds y) : x = y := by
  rw [wds_cut, wds_cut] at h
  have h := mapS_inj h
  refine str_ext ?_
  rw [← (cut_ok 32 x.cps.toList).2.2, h, (cut_ok 32 y.cps.toList).2.2]
theorem lit_sp : (Str.ofString " ") = S [32] := by decide +kernel
theorem lit_nl : (Str.ofString "\n") = S [10] := by decide +kernel
theorem split_sp (x : Str) : Txt.split x (Str.ofString " ") = wds x := by
  have := split_S (a := x.cps.toList) (b := [32]) (by decide) (by decide)
  rw [S_tl] at this
  rw [lit_sp]
  exact this
theorem join_sp (x : Str) : Txt.join (Str.ofString " ") (wds x) = x := by
  rw [lit_sp, wds_cut, join_S, (cut_ok 32 _).2.2] <;> exact S_tl x
theorem wd_sub {x w : Str} (h : w ∈ wds x) : ∀ c ∈ w.cps.toList, c ∈ x.cps.toList := by
  rw [wds_cut] at h
  obtain ⟨l, hl, rfl⟩ := List.mem_map.mp h
  intro c hc
  exact cut_sub hl c (by simpa using hc)
theorem wds_sum (x : Str) : ((wds x).map fun w => w.length + 1).sum = x.length + 1 := by
  have := cut_len 32 x.cps.toList
  rw [wds_cut, List.map_map]
  have e : ((fun w : Str => w.length + 1) ∘ S) = fun l : List Nat => l.length + 1 := by
    funext l
    show (S l).length + 1 = _
    rw [SX.S_len]
  rw [e, this]
  simp [Str.length]
/-- lines -/
def lns (x : Str) : List Str := (cutAt 10 x.cps.toList).map S
def linesIn (x : Str) : List Str := if x = "" then [] else lns x
theorem split_nl (x : Str) : Txt.split x (Str.ofString "\n") = lns x := by
  have := split_S (a := x.cps.toList) (b := [10]) (by decide) (by decide)
  rw [S_tl, cut_spl] at this
  rw [lit_nl]
  exact this
def Nl (x : Str) : Prop := 10 ∉ x.cps.toList
def jn (ls : List Str) : Str := Txt.join (Str.ofString "\n") ls
theorem mapS_tl (ls : List Str) : (ls.map fun x : Str => x.cps.toList).map S = ls := by
  rw [List.map_map]
  have : (S ∘ fun x : Str => x.cps.toList) = id := funext fun x => S_tl x
  rw [this, List.map_id]
theorem jn_S (ls : List Str) : jn ls = S (TL.joinL [10] (ls.map fun x : Str => x.cps.toList)) := by
  unfold jn
  rw [lit_nl, ← join_S, mapS_tl]
theorem jn_len : ∀ {ls : List Str}, ls ≠ [] → (TL.joinL [10] (ls.map fun x : Str => x.cps.toList)).length + 1 = (ls.map fun x => x.length + 1).sum
  | [x], _ => by
    simp [TL.joinL, Str.length]
  | x :: y :: r, _ => by
    have ih := jn_len (ls := y :: r) (List.cons_ne_nil _ _)
    rw [List.map_cons, List.map_cons, jn2, List.length_append, List.length_cons]
    rw [List.map_cons] at ih
    rw [List.map_cons, List.sum_cons, ← ih]
    show x.cps.toList.length + (_ + 1) + 1 = x.length + 1 + _
    have : x.cps.toList.length = x.length := by simp [Str.length]
    omega
theorem lines_jn {ls : List Str} (h : ls ≠ [("" : Str)]) (hn : ∀ l ∈ ls, Nl l) : linesIn (jn ls) = ls := by
  unfold linesIn
  by_cases h0 : ls = []
  · subst h0
    rw [if_pos (by decide +kernel)]
  · have cut := cut_join (c := 10) (ls := ls.map fun x : Str => x.cps.toList) (fun e => h0 (List.map_eq_nil_iff.mp e)) fun l hl => by
      obtain ⟨x, hx, rfl⟩ := List.mem_map.mp hl
      exact hn x hx
    have e1 : lns (jn ls) = ls := by
      unfold lns
      rw [jn_S]
      show (cutAt 10 (S _).cps.toList).map S = ls
      have : ∀ l : List Nat, (S l).cps.toList = l := fun l => by simp
      rw [this, cut, mapS_tl]
    by_cases h1 : jn ls = ""
    · exfalso
      rw [h1] at e1
      have e2 : lns "" = [("" : Str)] := by decide +kernel
      exact h (e1.symm.trans e2)
    · rw [if_neg h1, e1]
/-! what is due -/
def colRow (k : Nat) (x : Str) : Nat := colL (if k = 0 then wC else if k = 1 then wT else wR) (wds x) x.length
def rrows : List Str → List (Nat × Str)
  | [] => []
  | x :: r => (1, x) :: r.map fun y => (2, y)
def rowsOf (c r : List Str) : List (Nat × Str) := c.map (fun x => (0, x)) ++ rrows r
def fw : List (Nat × Str) → Nat → Option (Nat × Nat)
  | [], _ => none
  | (k, x) :: r, n => if 0 < colRow k x then some (n, colRow k x) else fw r (n + 1)
theorem fw_some : ∀ {l : List (Nat × Str)} {i n k : Nat} {x : Str}, l[i]? = some (k, x) → (∀ j q, j < i → l[j]? = some q → colRow q.1 q.2 = 0) → 0 < colRow k x → fw l n = some (n + i, colRow k x)
  | q :: r, 0, n, k, x, h, _, hp => by
    obtain rfl := Option.some.inj h
    unfold fw
    rw [if_pos hp]
    rfl
  | q :: r, i + 1, n, k, x, h, hb, hp => by
    have h0 := hb 0 q (Nat.succ_pos i) rfl
    obtain ⟨qk, qx⟩ := q
    unfold fw
    have h0 : colRow qk qx = 0 := h0
    rw [if_neg (by omega), fw_some (l := r) (i := i) (n := n + 1) h (fun j q hj e => hb (j + 1) q (Nat.succ_lt_succ hj) e) hp]
    congr 2
    omega
theorem fw_none : ∀ {l : List (Nat × Str)} {n : Nat}, (∀ q ∈ l, colRow q.1 q.2 = 0) → fw l n = none
  | [], _, _ => rfl
  | q :: r, n, h => by
    have h0 := h q List.mem_cons_self
    obtain ⟨qk, qx⟩ := q
    unfold fw
    have h0 : colRow qk qx = 0 := h0
    rw [if_neg (by omega)]
    exact fw_none fun q hq => h q (List.mem_cons_of_mem _ hq)
def tellsOf (c : List Str) : List Nat := (List.range c.length).filter fun i => decide (c[i]? = some "tell")
inductive Due
  | many (n : Nat)
  | text (l k : Nat)
  | ok
def due (c r : List Str) : Due :=
  if 16 < c.length then .many c.length else if 16 < r.length then .many r.length else
  match fw (rowsOf c r) 1 with
  | some q => .text q.1 q.2
  | none => match tellsOf c with
    | _ :: t :: _ => .text (t + 1) 1
    | [] => .text (c.length + 1) 1
    | [_] => if r = [] then .text (c.length + 1) 1 else .ok
end Pl
set_option Elab.async false
set_option linter.all false
set_option maxRecDepth 100000
set_option maxHeartbeats 1000000
/-! a written dict with text keys: its copy, its get -/
namespace Wd
open PySem PySem.Spec PyProof.Rows L2
def Ents (P : Params) : List DictEntry → List (Str × V) → Prop := Paired fun e q => (∃ t, e.key = .str q.1 t) ∧ e.hash = PyData.keyHash P q.1 ∧ RelV q.2 e.val
def At (K : PySem.W.Frag) (w : World) (a : Addr) (kvs : List (Str × V)) : Prop :=
  ∃ es n, K.lookup a = some ⟨.type "dict", none, .dict es n, #[]⟩ ∧ Ents w.params es.toList kvs ∧ (kvs.map (·.1)).Nodup ∧ kvs.length ≤ 1000 ∧ (a == sysModules) = false
def ents (kvs : List (Str × V)) : List (Key × V) := kvs.map fun q => (Sum.inr q.1, q.2)
theorem pairs_of {prog : Program} {w : World} : ∀ {es : List DictEntry} {kvs : List (Str × V)}, Ents w.params es kvs → ∃ vs : List (Key × Value), KV (ents kvs) vs ∧ Pairs (mixKind prog w) es vs ∧ vs.map (·.1) = (ents kvs).map (·.1) ∧ ∀ e ∈ es, ∃ k, (mixKind prog w).is k e.key = true ∧ e.hash = (mixKind prog w).hash k
  | [], [], _ => ⟨[], .nil, .nil, rfl, fun e h => by cases h⟩
  | e :: es, q :: kvs, .cons h t => by
    obtain ⟨vs, h1, h2, h3, h4⟩ := pairs_of (prog := prog) t
    obtain ⟨⟨u, ek⟩, eh, ev⟩ := h
    have is : (mixKind prog w).is (Sum.inr q.1) e.key = true := by
      rw [ek]
      show Value.isStrOf q.1 (.str q.1 u) = true
      simp [Value.isStrOf]
    refine ⟨(Sum.inr q.1, e.val) :: vs, .cons ⟨rfl, ev⟩ h1, ?_, by rw [List.map_cons, h3]; rfl, fun f hf => ?_⟩
    · obtain ⟨hh, kk, vv⟩ := e
      exact .cons is rfl h2
    · rcases List.mem_cons.mp hf with rfl | hf
      · exact ⟨_, is, eh⟩
      · exact h4 f hf
section
variable {X : Cx}
theorem At.obj {pins : List (Addr × Obj)} {σ : L2.St} {H : Hp} {s : Shared} {a : Addr} {kvs : List (Str × V)} (I : Inv X pins σ H s) (h : At X.K X.w a kvs) : (a == sysModules) = false ∧ ∃ vs, KV (ents kvs) vs ∧ s.heap.DictOf (mixKind X.prog X.w) a vs := by
  obtain ⟨es, n, hl, he, nd, few, low⟩ := h
  obtain ⟨vs, h1, h2, h3, h4⟩ := pairs_of (prog := X.prog) he
  refine ⟨low, vs, h1, _, es, n, I.kIn _ _ hl, ⟨rfl, rfl, rfl⟩, rfl, fun e q => h4 e (Array.mem_toList_iff.mpr q), h2, ?_⟩
  rw [h3]
  unfold ents
  rw [List.map_map]
  have : ((fun q : Key × V => q.1) ∘ fun q : Str × V => ((Sum.inr q.1 : Key), q.2)) = (Sum.inr ∘ fun q : Str × V => q.1) := rfl
  rw [this, ← List.map_map]
  exact List.pairwise_map.mpr (nd.imp fun hne he => hne (Sum.inr.inj he))
/-- a copy -/
theorem call_copy : CallR X (.type "dict") (fun xs H Q => ∃ (a : Addr) (kvs : List (Str × V)), xs = [.ref a] ∧ At X.K X.w a kvs ∧ ∀ p, H p = none → Q (.ref p) (upd H p (.dK (ents kvs)))) := by
  intro pins s σ H xs us Q I r q
  obtain ⟨a, kvs, rfl, ha, q⟩ := q
  obtain ⟨u, rfl, rx⟩ := vals1 r
  cases rx
  obtain ⟨low, vs, rel, dd⟩ := ha.obj I
  have ln : (ents kvs).length ≤ sizeLine := by
    obtain ⟨_, _, _, _, _, few, _⟩ := ha
    unfold ents
    rw [List.length_map, sizeLine_eq]
    omega
  refine PySem.kt_call_dict low dd (by rw [← rel.length]; exact ln) fun h2 d2 hs => ?_
  have big : (s.heap.objs.size == sysModules) = false := by
    rw [beq_eq_false_iff_ne]
    exact Nat.ne_of_gt I.big
  refine ⟨.ref s.heap.objs.size, upd H s.heap.objs.size (.dK (ents kvs)), ?_, rfl, q _ (I.hok.fresh (Nat.le_refl _))⟩
  refine I.laid (t' := s.toks) (fun b o e => ?_) (Nat.le_refl _) ?_
  · exact (hs.2 b (Nat.ne_of_lt (Heap.lt_size e))).trans (Heap.get?_push_of_some _ e)
  · exact (show ObjOk X.prog X.w _ _ _ (.dK (ents kvs)) from ⟨ln, big, vs, rel, d2⟩)
def tGet (K : PySem.W.Frag) (w : World) (td ty tx : TE) : TE := fun σ H Q => td σ H fun x H1 => ∃ (a : Addr) (kvs : List (Str × V)), x = .ref a ∧ At K w a kvs ∧ ty σ H1 fun y H2 => ∃ z : Str, y = .str z ∧ tx σ H2 fun u H3 => Q ((valV (ents kvs) (Sum.inr z)).getD u) H3
theorem pe_get {o e f : Expr} {apos cpos : Pos} {td ty tx : TE} (ho : PE X o td) (he : PE X e ty) (hf : PE X f tx) (m : M2 X o "get" apos e f cpos) : PE X (.Call (.Attribute o "get" apos) [e, f] [] cpos) (tGet X.K X.w td ty tx) := by
  refine ⟨fun pins s σ H Q I h => ?_⟩
  refine wpAny_Call_method m.base m.few m.line PySem.F.plainAttrs_dict PySem.F.slot_dict_get PySem.F.type_dict_get ?_
  refine thn (ho.run pins s σ H _ I h) fun u s1 ⟨x, H1, I1, rx, a, kvs, ex, ha, q1⟩ => ?_
  subst ex
  obtain rfl : u = Value.ref a := rx
  obtain ⟨_, _, _, dd1⟩ := ha.obj I1
  refine ⟨dd1.typeIs, fun b q => ?_, ?_⟩
  · cases q
    obtain ⟨ob, _, _, g1, g2, _⟩ := dd1
    exact ⟨ob, g1, g2.2.1⟩
  rw [m.trees]
  refine Calls.callWith_builtin rfl (Calls.evalArgs_plain (Calls.spliced_cons ?_))
  refine thn (he.run pins s1 σ H1 _ I1 q1) fun kv s2 ⟨y, H2, I2, ry, z, ey, q2⟩ => ?_
  refine Calls.spliced_cons (thn (hf.run pins s2 σ H2 _ I2 q2) fun fv s3 ⟨d, H3, I3, rd, q3⟩ => Calls.spliced_nil ?_)
  subst ey
  obtain ⟨low, vs, rel, dd⟩ := ha.obj I3
  have is : (mixKind X.prog X.w).is (Sum.inr z) kv = true := kV_is (k := Sum.inr z) ry
  refine call_meetsIn PySem.F.slot_dict_get dd.typeIs PySem.F.entry_dict_get (PySem.F.args_dict_get_3 _ _ _) (meets_dict_get_default (mixKind X.prog X.w) a is low fv) ⟨_, dd.mapOf, ?_⟩
  exact ⟨_, H3, I3.tok _, (rel.val (Sum.inr z)).getD rd, q3⟩
end
end Wd
set_option Elab.async false
set_option linter.all false
set_option maxRecDepth 100000
set_option maxHeartbeats 1000000
/-! a list comprehension whose element may let an error out of a call -/
namespace Lr
open PySem PySem.Spec PyProof.Rows L2
/-- what a call let out, as it was -/
def Out (X : Cx) (E : XK) (e : Value) (s' : Shared) : Prop := ∃ (pins : List (Addr × Obj)) (σ : L2.St) (H : Hp) (s : Shared), Inv X pins σ H s ∧ L2.CX X.prog X.w X.stack H s E e s'
abbrev blkE (X : Cx) (E : XK) (s : Shared) (H : Hp) (scope : Scope) (ce : Env) (fp : List Addr) : Cx := (X.blk s H scope ce fp).wish (Out (X.blk s H scope ce fp) E)
theorem passes_in {X : Cx} {E E' : XK} {s : Shared} {H : Hp} {scope : Scope} {ce : Env} {fp : List Addr} (hE : ∀ c d G, E' c d G → E c d G) : Passes (L2.CX X.prog X.w) (blkE X E s H scope ce fp) E' := fun pins σ H s e s' I c => by
  obtain ⟨a, B, H', cls, d, r1, r2, r3, r4, r5, r6, r7, r8⟩ := c
  exact ⟨pins, σ, H, s, I.unwish, a, B, H', cls, d, r1, r2, r3, r4, r5, r6, r7, hE _ _ _ r8⟩
section
variable {X : Cx} {E : XK} {pins : List (Addr × Obj)} {σ : L2.St} {H3 : Hp} {s3 : Shared} {scope : Scope} {ce : Env} {fp : List Addr}
theorem heldSame {B : Heap} {l : List Env} {a C L : Addr} {Z : Obj → Prop} {h h2 : Heap} {m m2 : Str → Option Value} (x : HandSPX.HeldZ B l a Z L h) (nB : B.get? C = none) (hn : h.Ns C m) (hn2 : h2.Ns C m2) (sb : Heap.SameBut C h h2) : HandSPX.HeldZ B l a Z L h2 := by
  obtain ⟨x1, x2, x3, oe, vs, T, oT, ts, x4, x5, x6, x7, x8, x9, y1, y2, y3⟩ := x
  obtain ⟨oC, es, ep, c1, c2, _⟩ := hn
  have other : ∀ b o ws, h.get? b = some o → o.data = .fields ws → h2.get? b = some o := fun b o ws e1 e2 => by
    refine (sb.2 b fun z => ?_).trans e1
    rw [z, c1] at e1
    cases e1
    rw [c2] at e2
    cases e2
  refine ⟨fun b o e => (sb.2 b fun z => ?_).trans (x1 b o e), x2, Heap.FunFrames.sameBut sb hn2 x3, oe, vs, T, oT, ts, other _ _ _ x4 x6, x5, x6, x7, x8, x9, other _ _ _ y1 y2, y2, y3⟩
  rw [z, nB] at e
  cases e
theorem fails (I3 : Inv X pins σ H3 s3) (tk : Takes X fun c d _ G => E c d G) (hs : X.stack = X.env :: X.outer) (hf : X.env.frame = some X.env.locals) (hcf : ce.frame = X.env.frame) (cL : ce.locals = s3.heap.objs.size)
    (f3 : ∀ b ∈ fp, FpOk X pins H3 b) {e : Value} {s' : Shared} (h : Out (X.blk s3 H3 scope ce fp) E e s') : notedBy (model X.prog X.w) X.A ce (CompFails (model X.prog X.w) X.A X.xe ce) e s' := by
  obtain ⟨pins', σ', H4, s4, Ib, a, B, H', cls, d, rfl, fl, hok, ub, na, os, ag, hE⟩ := h
  have fl : HandSPX.FlyingZ B X.stack a (Zc cls d) s'.heap := fl
  have ub : UB (frs X.stack) H4 H' s4.heap B s'.heap := ub
  have bs : Un (frs X.stack) fp H3 H4 s3.heap s4.heap := Ib.base
  have nC3 : ∀ b o, s3.heap.get? b = some o → b ≠ ce.locals := fun b o q z => by
    have := Heap.lt_size q
    rw [z, cL] at this
    exact absurd this (Nat.lt_irrefl _)
  have nCf : ce.locals ∉ frs X.stack := fun z => by
    obtain ⟨_, o, q, _⟩ := I3.stack.mem z
    exact nC3 _ _ q rfl
  obtain ⟨m, hn4, _⟩ := Ib.loc
  have hn4 : s4.heap.Ns ce.locals m := hn4
  obtain ⟨oC, es, ep, c1, c2, c3⟩ := hn4
  have HC4 : H4 ce.locals = none := Ib.free
  have HC' : H' ce.locals = none := ub.free _ _ c1 HC4
  have cB := ub.keep _ _ c1 HC4 nCf
  have hn' : s'.heap.Ns ce.locals m := ⟨oC, es, ep, fl.1 _ _ cB, c2, c3⟩
  -- the ground without the block's own names
  obtain ⟨B0, g1, g2⟩ := restrict B fun b => decide (b ≠ ce.locals)
  have up0 : ∀ b o, B.get? b = some o → b ≠ ce.locals → B0.get? b = some o := fun b o q z => by
    rw [g1 b (decide_eq_true z)]
    exact q
  have dn0 : ∀ b o, B0.get? b = some o → B.get? b = some o ∧ b ≠ ce.locals := fun b o q => by
    by_cases z : b = ce.locals
    · rw [g2 b (decide_eq_false fun k => k z)] at q
      cases q
    · rw [g1 b (decide_eq_true z)] at q
      exact ⟨q, z⟩
  have no0 : ∀ b, B.get? b = none → B0.get? b = none := fun b q => by
    cases r : B0.get? b with
    | none => rfl
    | some o =>
      rw [(dn0 b o r).1] at q
      cases q
  have nB0 : B0.get? ce.locals = none := g2 _ (decide_eq_false fun k => k rfl)
  have ff : ∀ l : List Env, s'.heap.FunFrames B l → s'.heap.FunFrames B0 l := by
    intro l
    induction l with
    | nil => exact fun _ => trivial
    | cons env rest ih =>
      rintro ⟨k1, ⟨L, o, k2, k3, k4, k5⟩, k6⟩
      exact ⟨k1, ⟨L, o, k2, no0 _ k3, k4, k5⟩, ih k6⟩
  obtain ⟨t1, t2, t3, oe, vs, T, oT, ts, t4, t5, t6, t7, t8, t9⟩ := fl
  have fl0 : HandSPX.FlyingZ B0 (X.env :: X.outer) a (Zc cls d) s'.heap := by
    rw [← hs]
    exact ⟨fun b o q => t1 b o (dn0 b o q).1, no0 _ t2, ff _ t3, oe, vs, T, oT, ts, t4, t5, t6, t7, no0 _ t8, t9⟩
  have hfr : X.A.frames = some (X.env :: X.outer) := by rw [I3.ok.frames, hs]
  show wpAny _ _ (noteFrame (.ref a) ce) _ _ s'
  rw [noteFrame_env _ hcf]
  refine HandSPX.looks_onZ Zc.steady hfr hf fl0 fun h1 held1 up1 => ?_
  refine ⟨m, up1.ns hn', fun h2 m2 hn2 sb => ?_⟩
  have held2 := heldSame held1 nB0 (up1.ns hn') hn2 sb
  obtain ⟨_, _, _, oe2, vs2, T2, _, _, w1, _, w2, w3, _⟩ := id held2
  unfold PySem.passOn
  refine wpAny_bind (wpAny_field w1 w2 w3 ?_)
  rw [if_neg (by simp)]
  rw [hcf, hf]
  refine wpAny_bind (HandSPX.setFlight_onZ held2 fun h3 held3 up3 => ?_)
  refine wpAny_throw (tk _ _ ?_)
  -- the def's own state behind it
  obtain ⟨G, e1, e2⟩ := restrict h3 fun b => (B0.get? b).isSome || decide (b ∈ frs X.stack)
  have inG : ∀ b o, B0.get? b = some o → G.get? b = some o := fun b o q => by
    rw [e1 b (by rw [q]; rfl)]
    exact held3.1 b o q
  have frG : ∀ b, b ∈ frs X.stack → G.get? b = h3.get? b := fun b hb => e1 b (by rw [decide_eq_true hb, Bool.or_true])
  have ofG : ∀ b o, G.get? b = some o → h3.get? b = some o := fun b o q => by
    cases r : ((B0.get? b).isSome || decide (b ∈ frs X.stack)) with
    | true => rw [e1 b r] at q; exact q
    | false => rw [e2 b r] at q; cases q
  have grG : ∀ b o, G.get? b = some o → b ∉ frs X.stack → B0.get? b = some o := fun b o q hb => by
    cases r : B0.get? b with
    | none =>
      rw [e2 b (by rw [r, decide_eq_false hb]; rfl)] at q
      cases q
    | some o' =>
      rw [inG b o' r] at q
      exact q
  -- frames stay up to slots
  have slots : ∀ b o, s'.heap.get? b = some o → b ∈ frs X.stack → (∀ ws, o.data ≠ .fields ws) → ∃ sl, G.get? b = some { o with slots := sl } := fun b o q hb nf => by
    obtain ⟨s1, q1⟩ := up1 b o q nf
    have q2 : h2.get? b = some { o with slots := s1 } := (sb.2 b fun z => nCf (z ▸ hb)).trans q1
    obtain ⟨s2, q3⟩ := up3 b _ q2 nf
    exact ⟨s2, (frG b hb).trans q3⟩
  have IX : Inv X pins σ H' { s' with heap := G } := by
    refine I3.call' (ch := fp) (os.trans (show s4.os = s3.os from Ib.os)) ⟨fun b o q n hb hx => ?_, fun b o q n hb hx => ?_, fun b o q n hx => ?_, fun b o q hx => ?_, fun b xs q => ub.tups _ _ (bs.tups _ _ q), fun b o' u q => ub.frzs _ _ _ (bs.frzs _ _ _ q), fun b ps q => ?_⟩ (fun b o q => ?_) ag fun b hb => ?_
    · exact inG _ _ (up0 _ _ (ub.keep _ _ (bs.keep _ _ q n hb hx) (bs.free _ _ q n hx) hb) (nC3 _ _ q))
    · obtain ⟨_, o', q', nf⟩ := I3.stack.mem hb
      rw [q] at q'
      cases q'
      obtain ⟨s1, q1⟩ := bs.slot _ _ q n hb hx
      obtain ⟨s2, q2⟩ := ub.slot _ _ q1 hb
      obtain ⟨s5, q5⟩ := slots b _ q2 hb nf
      exact ⟨s5, q5⟩
    · obtain ⟨o', q1⟩ := bs.there _ _ q hx
      exact ub.free _ _ q1 (bs.free _ _ q n hx)
    · obtain ⟨o', q1⟩ := bs.there _ _ q hx
      by_cases hb : b ∈ frs X.stack
      · obtain ⟨_, o2, q2, nf⟩ := I3.stack.mem hb
        rw [q] at q2
        cases q2
        obtain ⟨s1, q3⟩ := bs.slot _ _ q (I3.stkFree b hb) hb hx
        obtain ⟨s2, q4⟩ := ub.slot _ _ q3 hb
        obtain ⟨s5, q5⟩ := slots _ _ q4 hb nf
        exact ⟨_, q5⟩
      · obtain ⟨o2, q2⟩ := ub.there _ _ q1 hb
        exact ⟨o2, inG _ _ (up0 _ _ q2 (nC3 _ _ q))⟩
    · obtain ⟨more, q1⟩ := bs.tbls _ _ q
      obtain ⟨more2, q2⟩ := ub.tbls _ _ q1
      exact ⟨more ++ more2, by rw [q2, Array.append_assoc]⟩
    · refine (hok b o q).stay (fun c u hc r => inG _ _ (up0 _ _ r fun z => ?_)) (fun _ r => r) fun _ _ r => r
      rcases hc with hc | hc
      · rw [← hc, z, HC'] at q
        cases q
      · rw [z, HC'] at hc
        cases hc
    · exact ⟨(f3 b hb).2.2.2.1, (f3 b hb).2.1, (f3 b hb).2.2.2.2.1, (f3 b hb).2.2.2.2.2⟩
  refine ⟨a, B0, { s' with heap := G }, pins, σ, H', cls, d, rfl, IX, fun b o q hb => grG b o q hb, Heap.UpToSlots.of_keeps ofG, .inr (.inr ?_), na, rfl, ag, hE⟩
  rw [hs]
  exact held3
end
end Lr
set_option Elab.async false
set_option linter.all false
set_option maxRecDepth 100000
set_option maxHeartbeats 1000000
namespace Lr
open PySem PySem.Spec PyProof.Rows L2
section
variable {X : Cx} {E : XK}
/-- the walk of such a comprehension -/
theorem core {pins : List (Addr × Obj)} {z0 : Shared} {σ : L2.St} {H : Hp} {Q : VK} {elt tg iter : Expr} {ifs : List Expr} {scope : Scope} {own : List (Str × Nat)} {pos pos' : Pos} {wi : TI} {g : TG} {tt : TT} {te : TE} {use : Option (Value → Sem Unit)} {Qf : Value → Shared → Prop}
    (calm : X.calm = true) (dis : X.N.Nodup) (tk : Takes X fun c d _ G => E c d G) (hst : X.stack = X.env :: X.outer) (hfm : X.env.frame = some X.env.locals) (I : Inv X pins σ H z0) (walk : PI X tg iter wi) (blk : BlkOk X.N X.env.scope scope own)
    (tgt : ∀ (z : Shared) (G : Hp) (C : Addr) (cl : List (Str × Addr)) (fp : List Addr), PG (X.blk z G scope (compEnvC scope cl C X.env) fp) tg g)
    (tst : ∀ (z : Shared) (G : Hp) (C : Addr) (cl : List (Str × Addr)) (fp : List Addr), PTs (X.blk z G scope (compEnvC scope cl C X.env) fp) ifs tt)
    (elm : ∀ (z : Shared) (G : Hp) (C : Addr) (cl : List (Str × Addr)) (fp : List Addr), PE (blkE X E z G scope (compEnvC scope cl C X.env) fp) elt te)
    (fold : ∀ x, foldedSetIterable iter X.env x = pure x) (h : tLc wi g tt te (own.map (·.2)) σ H Q)
    (ends : ∀ D ce z m G, Inv X pins σ G z → Q (.ref D) G → z.heap.Ns (Env.locals ce) m → FpOk X pins G ce.locals → compEnds (model X.prog X.w) X.A X.xe use Qf (.ref D) ce (.ok .next) z) :
    wpAny (model X.prog X.w) X.A (comprehension (.ListComp elt [⟨tg, iter, ifs, 0⟩] scope pos) scope X.env pos' (newList []) false (eval iter X.env) use) Qf X.xe z0 := by
  have clo : ∀ y ∈ scope.names, y.2 = .free → ∃ c, X.env.cells.lookup y.1 = some c := fun y hy e =>
    (blk.free y hy e).elim (fun k => I.ok.has _ (.inl k)) fun k => I.ok.has _ (.inr k)
  refine comprehension_at (use := use) rfl fold (closure_ok clo) blk.kind (fun y hy e => (blk.uniq y hy).trans (congrArg some e)) ?_
  refine thn (walk.run pins z0 σ H _ I h) fun xv z1 hx => ?_
  refine thn hx fun itv z2 hx2 => ?_
  obtain ⟨it, fp, tn, J, H2, er, I2, T, st2, f2, q⟩ := hx2
  subst er
  refine wpAny_newObj_type (newEnv_comp ?_) (Nat.zero_le _)
  generalize eD : z2.heap.objs.size = D
  have freshD : H2 D = none := I2.hok.fresh (by rw [eD]; exact Nat.le_refl _)
  obtain ⟨W, ⟨m0, w0⟩, turn⟩ := q D freshD
  generalize ez3 : ({ z2 with heap := z2.heap.push { cls := .type "list", data := .seq ([] : List Value).toArray } } : Shared) = z3
  have eh : z3.heap = z2.heap.push { cls := .type "list", data := .seq ([] : List Value).toArray } := by rw [← ez3]
  have I3 : Inv X pins σ (upd H2 D (.lst [])) z3 := by
    rw [← ez3]
    refine I2.laid (t' := z2.toks) (fun b o e => Heap.get?_push_of_some _ e) (by rw [eD]; exact Nat.le_refl _) ⟨Nat.zero_le _, [], 0, .nil, ?_⟩
    rw [← eD]
    exact Heap.get?_push_size _ rfl
  have below : ∀ b ∈ fp, b < z2.heap.objs.size := fun b hb => by
    obtain ⟨o, e, _⟩ := T.obj _ _ st2 b hb
    exact Heap.lt_size e
  have f3 : ∀ b ∈ fp, FpOk X pins (upd H2 D (.lst [])) b ∧ b < z3.heap.objs.size := fun b hb => by
    have lt := below b hb
    have ne : b ≠ D := by rw [← eD]; exact Nat.ne_of_lt lt
    exact ⟨⟨by rw [upd_ne ne]; exact (f2 b hb).1, (f2 b hb).2⟩, by rw [eh, Heap.size_push]; exact Nat.lt_succ_of_lt lt⟩
  have st3 : tn 0 z3.heap := T.keep _ _ _ st2 fun b _ o e => by
    rw [eh]
    exact Heap.get?_push_of_some _ e
  have I4 := block_start I3 blk dis f3
  have pg := tgt z3 (upd H2 D (.lst [])) z3.heap.objs.size (cellsFrom (z3.heap.objs.size + 1) scope.names (cloFrom X.env.cells scope.names [])) fp
  have pt := tst z3 (upd H2 D (.lst [])) z3.heap.objs.size (cellsFrom (z3.heap.objs.size + 1) scope.names (cloFrom X.env.cells scope.names [])) fp
  have pe := elm z3 (upd H2 D (.lst [])) z3.heap.objs.size (cellsFrom (z3.heap.objs.size + 1) scope.names (cloFrom X.env.cells scope.names [])) fp
  show codeAny _ _ (.compStart (.ListComp elt [⟨tg, iter, ifs, 0⟩] scope pos) 0 (.ref it) (.ref D) (compEnvC scope (cellsFrom (z3.heap.objs.size + 1) scope.names (cloFrom X.env.cells scope.names [])) z3.heap.objs.size X.env))
    (compEnds (model X.prog X.w) X.A X.xe use Qf (.ref D) (compEnvC scope (cellsFrom (z3.heap.objs.size + 1) scope.names (cloFrom X.env.cells scope.names [])) z3.heap.objs.size X.env)) { z3 with heap := pushCells (z3.heap.push { cls := .type "dict", data := .dict #[] }) scope.names }
  have nofp : ∀ b ∈ fp, (upd H2 D (.lst [])) b = none := fun b hb => (f3 b hb).1.1
  generalize ece : compEnvC scope (cellsFrom (z3.heap.objs.size + 1) scope.names (cloFrom X.env.cells scope.names [])) z3.heap.objs.size X.env = ce at I4 pg pt pe ⊢
  have cL : ce.locals = z3.heap.objs.size := by rw [← ece]; rfl
  have cF : ce.frame = X.env.frame := by rw [← ece]; rfl
  generalize eH3 : upd H2 D (.lst []) = H3 at I3 I4 pg pt pe w0 nofp f3
  generalize ez4 : ({ z3 with heap := pushCells (z3.heap.push { cls := .type "dict", data := .dict #[] }) scope.names } : Shared) = z4 at I4 ⊢
  have st4 : tn 0 z4.heap := T.keep _ _ _ st3 fun b _ o e => by
    rw [← ez4]
    exact pushCells_keeps _ _ _ _ (Heap.get?_push_of_some _ e)
  have idle : ∀ {τ : L2.St} {G : Hp} {z : Shared}, Inv (X.blk z3 H3 scope ce fp) [] τ G z → (∀ b ∈ fp, G b = none) → ∀ b ∈ fp, FpOk (X.blk z3 H3 scope ce fp) [] G b := fun {τ G z} J hn b hb => by
    have x := J.ok.exf b hb
    exact ⟨hn b hb, x.1, J.ok.exfs b hb, .inl hb, fun y c e => x.2 y c e, fun p hp => absurd (show p ∈ ([] : List (Addr × Obj)) ++ [] from hp) (by simp)⟩
  have loop : codeAny (model X.prog X.w) X.A (.compLoop (.ListComp elt [⟨tg, iter, ifs, 0⟩] scope pos) 0 (.ref it) (.ref D) ce) (compEnds (model X.prog X.w) X.A X.xe use Qf (.ref D) ce) z4 := by
    refine compLoop_any (fun n z => ∃ i G, Inv (X.blk z3 H3 scope ce fp) [] (wipe σ (own.map (·.2))) G z ∧ tn i z.heap ∧ (∀ b ∈ fp, G b = none) ∧ W i n G) ?_ m0 ⟨0, H3, I4, st4, nofp, w0⟩
    rintro n z5 ⟨i, H5, I5, st5, n5, w5⟩
    rcases turn i n H5 w5 with ⟨stop, qq⟩ | ⟨go, Nx, hNx, step⟩
    · have last := T.done (X.blk z3 H3 scope ce fp) rfl rfl rfl calm i [] z5 _ H5 (fun _ _ => False) I5 (idle I5 n5) st5 stop
      refine thnF last fun r z6 ⟨hr, I6⟩ => ?_
      subst hr
      have I7 : Inv X pins σ H5 z6 := I3.call' (ch := fp) I6.os I6.base I6.hok I6.bare fun b hb => by
        have x := (f3 b hb).1
        exact ⟨x.2.2.2.1, x.2.1, x.2.2.2.2.1, x.2.2.2.2.2⟩
      have nC : H5 ce.locals = none := I6.free
      obtain ⟨m, hn, _⟩ := I6.loc
      exact ends D ce z6 m H5 I7 qq hn (I3.fpOk (by rw [cL]; exact Nat.le_refl _) nC)
    · have next := T.item (X.blk z3 H3 scope ce fp) rfl rfl rfl calm i [] z5 _ H5 (fun _ _ => False) I5 (idle I5 n5) st5 go
      refine thnF next fun r z6 ⟨u, hr, h6⟩ => ?_
      subst hr
      refine thnF h6 fun _ z7 ⟨x, H7, I7, r7, y7, st7, n7⟩ => ?_
      have I8 := I7.pinned (idle I7 n7) (T.obj _ _ st7)
      refine thnF (pg.run _ z7 _ H7 x u _ I8 r7 (step x H7 y7)) fun _ z8 ⟨τ, H8, J8, hw8, q8⟩ => ?_
      refine thnF (pt.run _ z8 τ H8 _ J8 q8) fun b z9 ⟨H9, J9, q9⟩ => ?_
      have again : ∀ {z : Shared} {G : Hp}, Inv (X.blk z3 H3 scope ce fp) ([] ++ pinsAt fp z7.heap) τ G z → Nx G → ∃ m, m < n ∧ ∃ i G, Inv (X.blk z3 H3 scope ce fp) [] (wipe σ (own.map (·.2))) G z ∧ tn i z.heap ∧ (∀ b ∈ fp, G b = none) ∧ W i m G := fun {z G} J nx => by
        obtain ⟨k, hk, w⟩ := hNx G nx
        have pinned : ∀ b ∈ fp, ∀ o, z7.heap.get? b = some o → z.heap.get? b = some o ∧ G b = none := fun b hb o e => by
          have x := J.pin (b, o) (List.mem_append_right _ (List.mem_append_right _ (mem_pinsAt hb e)))
          exact ⟨x.1, x.2.1⟩
        have ln : (wipe σ (own.map (·.2))).length = τ.length := by rw [← hw8, wipe_length]
        refine ⟨k, hk, i + 1, G, (J.unpinned (pins := [])).weak ln (fun j v e => ?_), T.keep _ _ _ st7 fun b hb o e => (pinned b hb o e).1, fun b hb => ?_, w⟩
        · rw [← hw8] at e
          exact (wipe_some e).1
        · obtain ⟨o, e, _⟩ := T.obj _ _ st7 b hb
          exact (pinned b hb o e).2
      cases b with
      | false => exact again J9 q9
      | true =>
        have pr := pe.run _ z9 τ H9 _ (J9.wish _) q9
        refine wpAny_mono pr (fun v z10 ⟨yv, H10, J10, r10, acc, hD10, hz10, nx⟩ => ?_) fun e z hx => fails I3 tk hst hfm cF cL (fun b hb => (f3 b hb).1) hx
        exact app_ok (X := X.blk z3 H3 scope ce fp) J10.unwish hD10 hz10 r10 fun z11 J11 => again J11 nx
  exact codeAny_compStart_list loop (T.self X.A 0 _ _ _ st4 loop)
/-- as a value -/
theorem pe_lcE {elt tg iter : Expr} {ifs : List Expr} {scope : Scope} {own : List (Str × Nat)} {pos : Pos} {wi : TI} {g : TG} {tt : TT} {te : TE} (calm : X.calm = true) (dis : X.N.Nodup) (tk : Takes X fun c d _ G => E c d G) (hst : X.stack = X.env :: X.outer) (hfm : X.env.frame = some X.env.locals)
    (walk : PI X tg iter wi) (blk : BlkOk X.N X.env.scope scope own)
    (tgt : ∀ (z : Shared) (G : Hp) (C : Addr) (cl : List (Str × Addr)) (fp : List Addr), PG (X.blk z G scope (compEnvC scope cl C X.env) fp) tg g)
    (tst : ∀ (z : Shared) (G : Hp) (C : Addr) (cl : List (Str × Addr)) (fp : List Addr), PTs (X.blk z G scope (compEnvC scope cl C X.env) fp) ifs tt)
    (elm : ∀ (z : Shared) (G : Hp) (C : Addr) (cl : List (Str × Addr)) (fp : List Addr), PE (blkE X E z G scope (compEnvC scope cl C X.env) fp) elt te)
    (fold : ∀ x, foldedSetIterable iter X.env x = pure x := by intro _; rfl) : PE X (.ListComp elt [⟨tg, iter, ifs, 0⟩] scope pos) (tLc wi g tt te (own.map (·.2))) := by
  refine ⟨fun pins z σ H Q I h => ?_⟩
  rw [eval_ListComp]
  refine core calm dis tk hst hfm I walk blk tgt tst elm fold h fun D ce z' m G J q hn f => ⟨m, hn, fun h2 sb => ?_⟩
  obtain ⟨f0, f1, f2, f3, f4, f5⟩ := f
  refine ⟨.ref D, G, ?_, rfl, q⟩
  exact J.turned (t' := z'.toks) (fun b o hb e => (sb.2 b hb).trans e) f0 f1 f3 f4 f5
/-- a local's name given to it, on one line -/
theorem ps_setLcE {i : Nat} {y : Str} {py : Pos} {elt tg iter : Expr} {ifs : List Expr} {scope : Scope} {own : List (Str × Nat)} {pos spos : Pos} {wi : TI} {g : TG} {tt : TT} {te : TE} (calm : X.calm = true) (dis : X.N.Nodup) (tk : Takes X fun c d _ G => E c d G) (hst : X.stack = X.env :: X.outer) (hfm : X.env.frame = some X.env.locals)
    (hy : X.N[i]? = some y) (hyl : X.env.scope.names.lookup y = some .local) (sw : swapsWith (.ListComp elt [⟨tg, iter, ifs, 0⟩] scope pos) (some (.Name y py)) spos.line X.env = pure true) (walk : PI X tg iter wi) (blk : BlkOk X.N X.env.scope scope own)
    (tgt : ∀ (z : Shared) (G : Hp) (C : Addr) (cl : List (Str × Addr)) (fp : List Addr), PG (X.blk z G scope (compEnvC scope cl C X.env) fp) tg g)
    (tst : ∀ (z : Shared) (G : Hp) (C : Addr) (cl : List (Str × Addr)) (fp : List Addr), PTs (X.blk z G scope (compEnvC scope cl C X.env) fp) ifs tt)
    (elm : ∀ (z : Shared) (G : Hp) (C : Addr) (cl : List (Str × Addr)) (fp : List Addr), PE (blkE X E z G scope (compEnvC scope cl C X.env) fp) elt te)
    (fold : ∀ x, foldedSetIterable iter X.env x = pure x := by intro _; rfl) : PS X (.Assign [.Name y py] (.ListComp elt [⟨tg, iter, ifs, 0⟩] scope pos) spos) (tAsg (tLc wi g tt te (own.map (·.2))) (gName i)) := by
  refine ⟨fun pins z σ H D I h => ?_⟩
  rw [exec_Assign_Name_used _ _ _ _ sw]
  refine wpAny_bind (wpAny_standAt (wpAny_bind ?_))
  show wpAny _ X.A (do
    let _ ← comprehension (.ListComp elt [⟨tg, iter, ifs, 0⟩] scope pos) scope X.env (firstIterPos [⟨tg, iter, ifs, 0⟩] pos) (newList []) false (eval iter X.env) (some (assign (.Name y py) X.env))) _ _ z
  have h : tLc wi g tt te (own.map (·.2)) σ H fun x G => gName i x σ G D.nx := h
  have main := core (E := E) (pos := pos) (pos' := firstIterPos [⟨tg, iter, ifs, 0⟩] pos) (use := some (assign (.Name y py) X.env)) (Qf := fun _ z' => SP X pins D .next z') calm dis tk hst hfm I walk blk tgt tst elm fold h fun L ce z' m G J q hn f => ?_
  · exact wpAny_bind (thn main fun _ z' hq => wpAny_pure (wpAny_pure hq))
  show wpAny _ _ (assign (.Name y py) X.env (.ref L)) _ _ _
  refine wpAny_assign_Name (store_ok2 (v := V.ref L) J dis hy (.inl hyl) rfl (fun z2 J2 ⟨a, sb, ha⟩ => ?_) (.inr hyl))
  obtain ⟨f0, f1, f2, f3, f4, f5⟩ := f
  have ne : ce.locals ≠ a := ha.elim (fun w => by rw [w]; exact f1) fun w e => f4 y a w e.symm
  refine ⟨m, hn.sameBut sb ne, fun h3 sb3 => ?_⟩
  refine ⟨_, G, ?_, q⟩
  exact J2.turned (t' := z2.toks) (fun b o hb e => (sb3.2 b hb).trans e) f0 f1 f3 f4 f5
end
end Lr
set_option Elab.async false
set_option linter.all false
set_option maxRecDepth 100000
set_option maxHeartbeats 1000000
namespace Wq
open PySem PySem.Spec PyProof.Rows L2
theorem hu64 {A : Around} {k : Nat} (hr : Room k A) : A.units + 64 < cLine := by
  have := hr.un
  omega
abbrev nI (n : Nat) : V := .int (n : Int)
theorem sNew {H : Hp} {q : Addr} {o : HO} (h : H q = none) : Same H (upd H q o) := fun b u e => by rw [upd_ne (ne_of_none e h)]; exact e
def SameP (p : Addr) (H H' : Hp) : Prop := ∀ b o, H b = some o → b ≠ p → H' b = some o
theorem SameP.refl {p : Addr} {H : Hp} : SameP p H H := fun _ _ e _ => e
theorem SameP.trans {p : Addr} {H H1 H2 : Hp} (a : SameP p H H1) (b : SameP p H1 H2) : SameP p H H2 := fun x o e n => b x o (a x o e n) n
theorem SameP.of {p : Addr} {H H' : Hp} (s : Same H H') : SameP p H H' := fun b o e _ => s b o e
theorem SameP.upd {p : Addr} {H : Hp} {o : HO} : SameP p H (L2.upd H p o) := fun b u e n => by rw [upd_ne n]; exact e
theorem SameP.new {p q : Addr} {H : Hp} {o : HO} (h : H q = none) : SameP p H (L2.upd H q o) := fun b u e n => by rw [upd_ne (ne_of_none e h)]; exact e
section
variable {X : Cx} {e : Expr} {t t' : TE}
theorem pe_imp (h : PE X e t) (i : ∀ σ H Q, t' σ H Q → t σ H Q) : PE X e t' := ⟨fun pins s σ H Q I q => h.run pins s σ H Q I (i σ H Q q)⟩
end
section
variable {X : Cx} {e : Expr} {t t' : TT}
theorem pt_imp (h : PT X e t) (i : ∀ σ H Q, t' σ H Q → t σ H Q) : PT X e t' := ⟨fun pins s σ H Q I q => h.run pins s σ H Q I (i σ H Q q)⟩
end
section
variable {X : Cx} {k j : Nat} {x : Str} {sp : Sp} {p pos : Pos}
theorem pe_cl0 (c : Cl X.prog X.w X.K X.mg X.base k x sp) (hr : Room j X.A) (hk : k ≤ j) (hg : Gl X x) (hdb : (x == ("__debug__" : Str)) = false := by decide) : PE X (.Call (.Name x p) [] [] pos) (tCall sp [] E0 tNil) := by
  obtain ⟨f, fd, ps, F, hm, kp, b⟩ := c.ex
  exact pe_call0 F (hr.mono hk) hg hm kp b .nil pass0 hdb
end
theorem SqL_same {K : PySem.W.Frag} {H H' : Hp} {a : Addr} {xs : List V} (h : SqL K H a xs) (s : Same H H') : SqL K H' a xs := by
  rcases h with (h | ⟨o, h⟩) | h
  · exact .inl (.inl (s _ _ h))
  · exact .inl (.inr ⟨o, s _ _ h⟩)
  · exact .inr h
theorem SqT_same {K : PySem.W.Frag} {H H' : Hp} {a : Addr} {xs : List V} (h : SqT K H a xs) (s : Same H H') : SqT K H' a xs := by
  rcases h with (h | ⟨o, h⟩) | h
  · exact .inl (.inl (s _ _ h))
  · exact .inl (.inr ⟨o, s _ _ h⟩)
  · exact .inr h
def StT (K : PySem.W.Frag) (n : Addr) (xs : List V) : Prop := ∃ (o : Obj) (its : Array Value) (m : Nat), K.lookup n = some o ∧ o.cls = .type "tuple" ∧ o.data = .seq its m ∧ its.size ≤ sizeLine ∧ Vals xs its.toList
theorem StT.sq {K : PySem.W.Frag} {n : Addr} {xs : List V} (h : StT K n xs) {H : Hp} : SqT K H n xs := .inr h
theorem pss_pre {X : Cx} {b : List Stmt} {t t' : TS} (h : PSs X b t) (i : ∀ D σ H, t' D σ H → t D σ H) : PSs X b t' := ⟨fun pins s σ H D I q => h.run pins s σ H D I (i D σ H q)⟩
/-- callables with promises that let errors out -/
structure Cle (P : Program) (w : World) (K : PySem.W.Frag) (mg : Str → Option Value) (base : Heap) (k : Nat) (x : Str) (sp : Sp) : Prop where
  ex : ∃ (f : Addr) (fd : FuncData) (ps : List Str), FnOk P w K mg base (L2.CX P w) k f fd ps sp ∧ mg x = some (.ref f) ∧ PySem.W.keepIn K (.ref f) = true ∧ Binds K fd ps []
/-! what is known of the program's own words -/
theorem pgi {X : Cx} {x : Str} {n : Int} {t : Tok} {pos : Pos} (hm : X.mg x = some (.int n t)) (hg : Gl X x := by rfl) (hd : (x == ("__debug__" : Str)) = false := by decide) : PE X (.Name x pos) (tC (.int n)) := pe_glob hg hm ⟨_, rfl⟩ hd
theorem pgs {X : Cx} {x : Str} {z : Str} {t : Tok} {pos : Pos} (hm : X.mg x = some (.str z t)) (hg : Gl X x := by rfl) (hd : (x == ("__debug__" : Str)) = false := by decide) : PE X (.Name x pos) (tC (.str z)) := pe_glob hg hm ⟨_, rfl⟩ hd
/-! errors with two fields, with three -/
structure TxtE (K : PySem.W.Frag) (mg : Str → Option Value) (CE fI : Addr) (x : Str) (fs : List Str) : Prop where
  ox : OexC K CE
  nf : ∀ f ∈ fs, PySem.W.findIn K (.ref CE) f = some none
  iC : PySem.W.findIn K (.ref CE) "__init__" = some (some (.ref fI))
  tI : PySem.W.typeIn K (.ref fI) = some (.type "function")
  gC : mg x = some (.ref CE)
  xf : XfC K CE
  te : PySem.W.exmOne K (.ref CE) (.ref CE) = some true
def spE2 (CE : Addr) (f1 f2 : Str) : Sp := fun vs H Q _ => ∃ (a : Addr) (v1 v2 : V), vs = [.ref a, v1, v2] ∧ H a = some (exo a CE none) ∧ ∀ d, H d = none → d ≠ a → Q .non (upd (upd (upd H d (exd d [(f1, v1)])) a (exo a CE (some d))) d (exd d [(f2, v2), (f1, v1)]))
def spE3 (CE : Addr) (f1 f2 f3 : Str) : Sp := fun vs H Q _ => ∃ (a : Addr) (v1 v2 v3 : V), vs = [.ref a, v1, v2, v3] ∧ H a = some (exo a CE none) ∧ ∀ d, H d = none → d ≠ a → Q .non (upd (upd (upd (upd H d (exd d [(f1, v1)])) a (exo a CE (some d))) d (exd d [(f2, v2), (f1, v1)])) d (exd d [(f3, v3), (f2, v2), (f1, v1)]))
/-- an error is out: its fields -/
def Err2 (H H' : Hp) (d : Addr) (fs : List (Str × V)) : Prop := Same H H' ∧ H d = none ∧ H' d = some (.xd fs)
theorem err2_pre {H G G2 : Hp} {d : Addr} {fs : List (Str × V)} (s : Same H G) (h : Err2 G G2 d fs) : Err2 H G2 d fs := by
  refine ⟨s.trans h.1, ?_, h.2.2⟩
  cases e : H d with
  | none => rfl
  | some o =>
    have := s _ _ e
    rw [h.2.1] at this
    cases this
theorem err2_heap {H : Hp} {a d CE : Addr} {f1 f2 : Str} {v1 v2 : V} (ha : H a = none) (hd : (upd H a (exo a CE none)) d = none) (hda : d ≠ a) :
    Err2 H (upd (del (upd (upd (upd (upd H a (exo a CE none)) d (exd d [(f1, v1)])) a (exo a CE (some d))) d (exd d [(f2, v2), (f1, v1)])) a) d (.xd [(f2, v2), (f1, v1)])) d [(f2, v2), (f1, v1)] := by
  have hd' : H d = none := by rw [upd_ne hda] at hd; exact hd
  refine ⟨fun b o e => ?_, hd', upd_same⟩
  have hba : b ≠ a := ne_of_none e ha
  have hbd : b ≠ d := ne_of_none e hd'
  rw [upd_ne hbd, del_ne hba, upd_ne hbd, upd_ne hba, upd_ne hbd, upd_ne hba]
  exact e
theorem err3_heap {H : Hp} {a d CE : Addr} {f1 f2 f3 : Str} {v1 v2 v3 : V} (ha : H a = none) (hd : (upd H a (exo a CE none)) d = none) (hda : d ≠ a) :
    Err2 H (upd (del (upd (upd (upd (upd (upd H a (exo a CE none)) d (exd d [(f1, v1)])) a (exo a CE (some d))) d (exd d [(f2, v2), (f1, v1)])) d (exd d [(f3, v3), (f2, v2), (f1, v1)])) a) d (.xd [(f3, v3), (f2, v2), (f1, v1)])) d [(f3, v3), (f2, v2), (f1, v1)] := by
  have hd' : H d = none := by rw [upd_ne hda] at hd; exact hd
  refine ⟨fun b o e => ?_, hd', upd_same⟩
  have hba : b ≠ a := ne_of_none e ha
  have hbd : b ≠ d := ne_of_none e hd'
  rw [upd_ne hbd, del_ne hba, upd_ne hbd, upd_ne hbd, upd_ne hba, upd_ne hbd, upd_ne hba]
  exact e
abbrev sTI : Stmt := inClass (top 3) 0
abbrev sMI : Stmt := inClass (top 4) 0
theorem scTI : FnScope ["self", "line", "column"] ["self", "line", "column"] (defScope sTI) := ⟨rfl, rfl, rfl, by decide +kernel, rfl, by decide +kernel, by decide +kernel⟩
theorem scMI : FnScope ["self", "what", "many", "limit"] ["self", "what", "many", "limit"] (defScope sMI) := ⟨rfl, rfl, rfl, by decide +kernel, rfl, by decide +kernel, by decide +kernel⟩
section
variable {P : Program} {w : World} {K : PySem.W.Frag} {mg : Str → Option Value} {base : Heap} {C CE fI : Addr}
theorem ok_TI {fd : FuncData} (F : Fun K "__init__" "BadText.__init__" sTI fI fd) (T : TxtE K mg CE fI "BadText" ["line", "column"]) : FnOk P w K mg base CX0 1 fI fd ["self", "line", "column"] (spE2 CE "line" "column") := by
  refine F.ok scTI (fun vs H Q E h => ?_) (fun cdv A outer s H vs Q E hr h => ?_)
  · obtain ⟨a, v1, v2, rfl, _⟩ := h
    rfl
  · obtain ⟨a, v1, v2, rfl, ha, k⟩ := h
    refine ⟨_, pss_cons (ps_ost (pv 0) (pv 1)) (pss_one (ps_ost (pv 0) (pv 2))), _, rfl, _, rfl, a, CE, rfl, T.ox, T.nf _ (by decide), .inl ⟨ha, fun dx n ne => ?_⟩⟩
    exact ⟨_, rfl, _, rfl, a, CE, rfl, T.ox, T.nf _ (by decide), .inr ⟨dx, _, upd_same, by rw [upd_ne ne]; exact upd_same, by show 1 ≤ 900; decide, k dx n ne⟩⟩
theorem ok_MI {fd : FuncData} (F : Fun K "__init__" "TooMany.__init__" sMI fI fd) (T : TxtE K mg CE fI "TooMany" ["what", "many", "limit"]) : FnOk P w K mg base CX0 1 fI fd ["self", "what", "many", "limit"] (spE3 CE "what" "many" "limit") := by
  refine F.ok scMI (fun vs H Q E h => ?_) (fun cdv A outer s H vs Q E hr h => ?_)
  · obtain ⟨a, v1, v2, v3, rfl, _⟩ := h
    rfl
  · obtain ⟨a, v1, v2, v3, rfl, ha, k⟩ := h
    refine ⟨_, pss_cons (ps_ost (pv 0) (pv 1)) (pss_cons (ps_ost (pv 0) (pv 2)) (pss_one (ps_ost (pv 0) (pv 3)))), _, rfl, _, rfl, a, CE, rfl, T.ox, T.nf _ (by decide), .inl ⟨ha, fun dx n ne => ?_⟩⟩
    refine ⟨_, rfl, _, rfl, a, CE, rfl, T.ox, T.nf _ (by decide), .inr ⟨dx, _, upd_same, by rw [upd_ne ne]; exact upd_same, by show 1 ≤ 900; decide, ?_⟩⟩
    exact ⟨_, rfl, _, rfl, a, CE, rfl, T.ox, T.nf _ (by decide), .inr ⟨dx, _, by rw [upd_ne ne.symm]; exact upd_same, upd_same, by show 2 ≤ 900; decide, k dx n ne⟩⟩
end
/-- nothing is let out -/
def EF : XK := fun _ _ _ => False
theorem passF {X : Cx} : Passes (L2.CX X.prog X.w) X EF := passes_call takes0 (fun _ _ _ _ h => h)
/-! an attribute as one of several targets -/
def gFld (K : PySem.W.Frag) (ta : TE) (f : Str) : TG := fun v σ H Q => ta σ H fun x H1 => ∃ a C dx fs, x = .ref a ∧ H1 a = some (.ins C dx fs) ∧ Cls K C ∧ NoAttr K C f ∧ fs.length < 1000 ∧ Q σ (upd H1 a (.ins C dx (putF f v fs)))
theorem pg_fld {X : Cx} {o : Expr} {f : Str} {pos : Pos} {ta : TE} (ho : PE X o ta) : PG X (.Attribute o f pos) (gFld X.K ta f) := by
  refine ⟨fun pins s σ H v u Q I r h => ?_⟩
  rw [assign_Attribute]
  refine wpAny_bind (wpAny_holding (thn (ho.run pins s σ H _ I h) fun ov s1 ⟨x, H1, I1, rx, a, C, dx, fs, ex, ea, c, n, l, q⟩ => ?_))
  subst ex
  obtain rfl : ov = Value.ref a := rx
  refine wpAny_bind (wpAny_standAt (wpAny_bind (wpAny_holding (setattr_ok I1 ea c n l r fun s3 I3 => ?_))))
  exact wpAny_release ⟨σ, _, I3, q⟩
/-! membership, cuts -/
theorem inV_str {x : Str} {l : List Str} : inV (.str x) (l.map V.str) = decide (x ∈ l) := by
  induction l with
  | nil => rfl
  | cons y r ih =>
    have e : inV (.str x) ((y :: r).map V.str) = (eqV (.str y) (.str x) || inV (.str x) (r.map V.str)) := rfl
    have e2 : eqV (.str y) (.str x) = decide (y = x) := by
      show (y == x) = _
      by_cases h : y = x
      · rw [decide_eq_true h, beq_iff_eq]; exact h
      · rw [decide_eq_false h, beq_eq_false_iff_ne]; exact h
    rw [e, ih, e2]
    by_cases h : y = x
    · subst h; simp
    · have h' : ¬ x = y := fun z => h z.symm
      simp [h, h']
theorem flat_str (l : List Str) : (l.map V.str).all flatV = true := by
  rw [List.all_eq_true]
  intro v hv
  obtain ⟨x, _, rfl⟩ := List.mem_map.mp hv
  rfl
theorem cut_from {xs : List V} {k : Nat} : cutV xs (some (k : Int)) none = xs.drop k := by
  unfold cutV
  rw [HT.sIx_nat, HT.sIx_none]
  by_cases h : k ≤ xs.length
  · rw [Nat.min_eq_left h, List.take_of_length_le (by rw [List.length_drop]; omega)]
  · rw [Nat.min_eq_right (by omega), List.drop_eq_nil_of_le (by omega), List.drop_eq_nil_of_le (by omega), List.take_nil]
theorem cut_to {xs : List V} {k : Nat} : cutV xs none (some (k : Int)) = xs.take k := by
  unfold cutV
  rw [HT.sIx_nat, HT.sIx_none, List.drop_zero, Nat.sub_zero]
  by_cases h : k ≤ xs.length
  · rw [Nat.min_eq_left h]
  · rw [Nat.min_eq_right (by omega), List.take_of_length_le (Nat.le_refl _), List.take_of_length_le (by omega)]
/-! tuples and lists of texts as data -/
theorem dpS {K : PySem.W.Frag} {H : Hp} : ∀ l : List Str, DpAll K H (l.map V.str) (l.map PyData.str)
  | [] => .nil
  | x :: r => .cons (.str x) (dpS r)
/-- plain signs alone -/
def As (x : Str) : Prop := ∀ c ∈ x.cps.toList, c < 128
theorem As.ok {x : Str} (h : As x) : PyData.strOk x = true := by
  show x.cps.all (fun c => decide (c < 0x110000)) = true
  rw [Array.all_eq_true']
  intro c hc
  have := h c (Array.mem_toList_iff.mpr hc)
  exact decide_eq_true (by omega)
theorem layS : ∀ l : List Str, (∀ x ∈ l, As x) → PyData.canLayAll0 (l.map PyData.str) = true
  | [], _ => by simp [PyData.canLayAll0]
  | x :: r, h => by
    have h1 := (h x List.mem_cons_self).ok
    have h2 := layS r fun y hy => h y (List.mem_cons_of_mem _ hy)
    simp [PyData.canLayAll0, PyData.canLay0, h1, h2]
theorem deepS : ∀ l : List Str, PyData.depthAll (l.map PyData.str) = 0
  | [] => by simp [PyData.depthAll]
  | x :: r => by simp [PyData.depthAll, PyData.depth, deepS r]
theorem shapS (l : List Str) (h : ∀ x ∈ l, As x) : SeqAt.shaped (.list (l.map PyData.str)) = true := by
  show (PyData.canLay0 (.list (l.map PyData.str)) && decide (PyData.depth (.list (l.map PyData.str)) ≤ 64)) = true
  rw [Bool.and_eq_true]
  refine ⟨by simp only [PyData.canLay0]; exact layS l h, decide_eq_true ?_⟩
  simp only [PyData.depth, deepS]
  omega
theorem shapT (l : List Str) (h : ∀ x ∈ l, As x) : SeqAt.shaped (.tuple (l.map PyData.str)) = true := by
  show (PyData.canLay0 (.tuple (l.map PyData.str)) && decide (PyData.depth (.tuple (l.map PyData.str)) ≤ 64)) = true
  rw [Bool.and_eq_true]
  refine ⟨by simp only [PyData.canLay0]; exact layS l h, decide_eq_true ?_⟩
  simp only [PyData.depth, deepS]
  omega
theorem eqvS : ∀ a b : List Str, PyData.eqvAll (a.map PyData.str) (b.map PyData.str) = decide (a = b)
  | [], [] => by simp [PyData.eqvAll]
  | [], _ :: _ => by simp [PyData.eqvAll]
  | _ :: _, [] => by simp [PyData.eqvAll]
  | x :: a, y :: b => by
    show (PyData.eqv (.str x) (.str y) && PyData.eqvAll (a.map PyData.str) (b.map PyData.str)) = _
    rw [eqvS a b, PyData.eqv]
    by_cases h1 : x = y <;> by_cases h2 : a = b <;> simp [h1, h2]
theorem eqvLS (a b : List Str) : PyData.eqv (.list (a.map PyData.str)) (.list (b.map PyData.str)) = decide (a = b) := by
  rw [← eqvS]
  simp [PyData.eqv]
theorem eqvTS (a b : List Str) : PyData.eqv (.tuple (a.map PyData.str)) (.tuple (b.map PyData.str)) = decide (a = b) := by
  rw [← eqvS]
  simp [PyData.eqv]
end Wq
set_option Elab.async false
set_option linter.all false
set_option maxRecDepth 100000
set_option maxHeartbeats 2000000
namespace Wq
open PySem PySem.Spec PyProof.Rows L2
open Pl (Ws wds lns linesIn Hs behind mostW manyOf LST colP firstBad pOk off)
structure TxtP (K : PySem.W.Frag) (mg : Str → Option Value) : Prop where
  isi : mg "isinstance" = none
  str : mg "str" = none
  sum : mg "sum" = none
  dict : mg "dict" = none
  gL : ∃ a, mg "LISTS" = some (.ref a) ∧ StT K a (LST.map V.str)
  gM : ∃ n t, mg "MOST_LINES" = some (.int n t) ∧ n = 16
abbrev sLines : Stmt := top 12
theorem scLines : FnScope ["text"] ["text"] (defScope sLines) := ⟨rfl, rfl, rfl, by decide +kernel, rfl, by decide +kernel, by decide +kernel⟩
def spLines : Sp := fun vs H Q _ => ∃ x : Str, vs = [.str x] ∧ x.length ≤ 100000 ∧ ∀ p G, Same H G → G p = some (.lst ((linesIn x).map V.str)) → Q (.ref p) G
section
variable {P : Program} {w : World} {K : PySem.W.Frag} {mg : Str → Option Value} {base : Heap}
theorem ok_lines (D : DefAt K mg "lines_in" sLines) (T : Txt K mg) (TP : TxtP K mg) : Cl P w K mg base 1 "lines_in" spLines := by
  refine cl_of D scLines (fun vs H Q E h => ?_) (fun _ _ _ _ _ _ us hl => match us, hl with | [_], _ => rfl) (fun f cdv A outer s H vs Q E hr h => ?_)
  · obtain ⟨x, rfl, _⟩ := h
    rfl
  · obtain ⟨x, rfl, hx, k⟩ := h
    refine ⟨_, pss_cons (ps_if (pt_not (pt_val (pe_callB call_isi (by rfl) (by exact TP.isi) (by decide +kernel) (pa_cons (pv 0) (pa_cons (pe_bltn rfl (by exact TP.str) (by decide +kernel) (v := .ty "str") rfl) pa_nil)))))
(pss_one (ps_ret (pe_lst (pa_cons pe_str pa_nil))))
pss_nil)
(pss_one (ps_ret (pe_ifExp (pt_cmpR op_ne (pv 0) pe_str (nomark _)) (pe_split (pv 0) pe_str) (pe_lst pa_nil)))), ?_⟩
    refine ⟨_, rfl, .str x, .ty "str", _, _, _, rfl, .ty "str", .base (.str _), kit_ty (r := true) (by decide +kernel), true, rfl, ?_⟩
    refine (if_neg (by decide)).mpr ?_
    refine ⟨_, rfl, rfl, _, rfl, ?_⟩
    by_cases e : x = ""
    · subst e
      refine (if_neg (by decide)).mpr ?_
      refine ⟨by show 0 ≤ sizeLine; rw [sizeLine_eq]; decide, fun p hp => ?_⟩
      refine k p _ (sNew hp) ?_
      rw [upd_same]
      rfl
    · have e' : (!decide (V.str x = V.str "")) = true := by
        rw [decide_eq_false (fun z => e (V.str.inj z))]
        rfl
      refine (if_pos e').mpr ?_
      refine ⟨_, rfl, ⟨_, rfl⟩, x, Str.ofString "\n", rfl, rfl, by rfl, by rw [sizeLine_eq]; omega, fun p hp => ?_⟩
      rw [Pl.split_nl]
      refine k p _ (sNew hp) ?_
      rw [upd_same]
      unfold linesIn
      rw [if_neg e]
/-! what may come behind words -/
/-- the words of a dict of heads, known by their names -/
def HdV (K : PySem.W.Frag) (kvs : List (Str × V)) (hs : Hs) : Prop := Paired (fun (q : Str × V) (h : Str × Ws) => q.1 = h.1 ∧ ∃ a, q.2 = .ref a ∧ StT K a (h.2.map V.str)) kvs hs
def HdAt (K : PySem.W.Frag) (H : Hp) (d : Addr) (hs : Hs) : Prop := ∃ kvs, H d = some (.dK (Wd.ents kvs)) ∧ HdV K kvs hs
theorem HdAt.same {K : PySem.W.Frag} {H G : Hp} {d : Addr} {hs : Hs} (h : HdAt K H d hs) (s : Same H G) : HdAt K G d hs := by
  obtain ⟨kvs, h1, h2⟩ := h
  exact ⟨kvs, s _ _ h1, h2⟩
theorem hd_keys {K : PySem.W.Frag} : ∀ {kvs : List (Str × V)} {hs : Hs}, HdV K kvs hs → (Wd.ents kvs).map (fun kv => kV kv.1) = (hs.map (·.1)).map V.str
  | [], [], .nil => rfl
  | q :: kvs, h :: hs, .cons r t => by
    have := hd_keys t
    unfold Wd.ents at this ⊢
    rw [List.map_cons, List.map_cons, this, List.map_cons, List.map_cons, ← r.1]
    rfl
theorem hd_get {K : PySem.W.Frag} {x : Str} : ∀ {kvs : List (Str × V)} {hs : Hs}, HdV K kvs hs → x ∈ hs.map (·.1) → ∃ a, valV (Wd.ents kvs) (Sum.inr x) = some (.ref a) ∧ StT K a (((hs.lookup x).getD []).map V.str)
  | [], [], .nil, hx => by cases hx
  | q :: kvs, h :: hs, .cons r t, hx => by
    obtain ⟨qk, qv⟩ := q
    obtain ⟨hk, hw⟩ := h
    obtain ⟨rfl, a, rfl, ha⟩ := r
    by_cases e : qk = x
    · subst e
      refine ⟨a, valV_pos rfl, ?_⟩
      rw [List.lookup_cons_self]
      exact ha
    · have hx' : x ∈ hs.map (·.1) := by
        rcases List.mem_cons.mp hx with z | z
        · exact absurd z.symm e
        · exact z
      obtain ⟨b, h1, h2⟩ := hd_get t hx'
      refine ⟨b, (valV_neg fun z => e (Sum.inr.inj z)).trans h1, ?_⟩
      have e2 : (x == qk) = false := beq_eq_false_iff_ne.mpr fun z => e z.symm
      rw [List.lookup_cons, e2]
      exact h2
structure TxtW (K : PySem.W.Frag) (w : World) (mg : Str → Option Value) : Prop where
  gM : ∃ a, mg "MOST_WORDS" = some (.ref a) ∧ Wd.At K w a [("rename", .int 3), ("take", .int 4)]
  gC : ∃ a kvs, mg "COMMIT_WORDS" = some (.ref a) ∧ Wd.At K w a kvs ∧ HdV K kvs Pl.hC
  gT : ∃ a kvs, mg "TAKE" = some (.ref a) ∧ Wd.At K w a kvs ∧ HdV K kvs Pl.hT
  gR : ∃ a kvs, mg "RECOVERY_WORDS" = some (.ref a) ∧ Wd.At K w a kvs ∧ HdV K kvs Pl.hR
abbrev sWB : Stmt := top 15
abbrev NWB : List Str := ["ahead", "heads", "lists", "name"]
theorem scWB : FnScope NWB ["ahead", "heads"] (defScope sWB) := ⟨rfl, rfl, rfl, by decide +kernel, rfl, by decide +kernel, by decide +kernel⟩
def spWB (K : PySem.W.Frag) : Sp := fun vs H Q _ => ∃ (l d : Addr) (ahead : Ws) (hs : Hs), vs = [.ref l, .ref d] ∧ SqL K H l (ahead.map V.str) ∧ HdAt K H d hs ∧ (∀ h t, ahead = h :: t → h ∈ hs.map (·.1)) ∧ (∀ q ∈ hs, q.2.length ≤ 10) ∧
  ∀ p G, Same H G → G p = some (.lst ((behind hs ahead).map V.str)) → Q (.ref p) G
theorem lookup_len {hs : Hs} (h : ∀ q ∈ hs, q.2.length ≤ 10) (x : Str) : ((hs.lookup x).getD []).length ≤ 10 := by
  cases e : hs.lookup x with
  | none => decide
  | some w =>
    show w.length ≤ 10
    induction hs with
    | nil => cases e
    | cons q r ih =>
      rw [List.lookup_cons] at e
      by_cases g : (x == q.1) = true
      · rw [g] at e
        obtain rfl := Option.some.inj e
        exact h q List.mem_cons_self
      · rw [Bool.not_eq_true] at g
        rw [g] at e
        exact ih (fun q hq => h q (List.mem_cons_of_mem _ hq)) e
theorem mostW_get (h : Str) : (valV (Wd.ents [("rename", .int 3), ("take", .int 4)]) (Sum.inr h)).getD (.int 2) = nI (mostW h) := by
  unfold mostW
  by_cases e : h = "rename"
  · subst e
    rfl
  · by_cases e2 : h = "take"
    · subst e2
      rfl
    · rw [if_neg e, if_neg e2]
      have : valV (Wd.ents [("rename", .int 3), ("take", .int 4)]) (Sum.inr h) = none := (valV_neg fun z => e (Sum.inr.inj z).symm).trans ((valV_neg fun z => e2 (Sum.inr.inj z).symm).trans valV_nil)
      rw [this]
      rfl
theorem filt1 {α : Type} {p : α → Bool} {y : α} : [y].filter p = if p y = true then [y] else [] := by cases e : p y <;> simp [List.filter_cons, e]
theorem behind_cons (hs : Hs) (h : Str) (t : Ws) : behind hs (h :: t) = if h = "tell" then [] else if (h :: t).length = mostW h then [] else LST.filter (fun x => decide (x ∉ h :: t)) ++ (hs.lookup h).getD [] := rfl
theorem ok_WB (D : DefAt K mg "words_behind" sWB) (T : Txt K mg) (TP : TxtP K mg) (TW : TxtW K w mg) : Cl P w K mg base 1 "words_behind" (spWB K) := by
  refine cl_of D scWB (fun vs H Q E h => ?_) (fun _ _ _ _ _ _ us hl => match us, hl with | [_, _], _ => rfl) (fun f cdv A outer s H vs Q E hr h => ?_)
  · obtain ⟨l, d, ahead, hs, rfl, _⟩ := h
    rfl
  obtain ⟨l, d, ahead, hs, rfl, hl, hd, hk, h10, k⟩ := h
  have hu := hu_of hr
  obtain ⟨aL, gL, hL⟩ := TP.gL
  obtain ⟨aM, gM, hM⟩ := TW.gM
  refine ⟨_, pss_cons (ps_if (pt_cmpR op_eq (pe_callB call_len_seq (by rfl) (by exact T.len) PySem.boot_len (pa_cons (pv 0) pa_nil)) pe_int (nomark _))
 (pss_one (ps_ret (pe_callTy (call_listD rfl) (by rfl) (by exact T.list) (by decide +kernel) (pa_cons (pv 1) pa_nil)))) pss_nil)
(pss_cons (ps_if (pt_cmpR op_eq (pe_ix ix_list (pv 0) pe_int (fun _ _ => rfl)) pe_str (nomark _)) (pss_one (ps_ret (pe_lst pa_nil))) pss_nil)
(pss_cons (ps_if (pt_cmpR op_eq (pe_callB call_len_seq (by rfl) (by exact T.len) PySem.boot_len (pa_cons (pv 0) pa_nil)) (Wd.pe_get (pe_glob rfl (by exact gM) (v := .ref aM) rfl) (pe_ix ix_list (pv 0) pe_int (fun _ _ => rfl)) pe_int ⟨rfl, rfl, rfl, rfl⟩) (nomark _)) (pss_one (ps_ret (pe_lst pa_nil))) pss_nil)
(pss_cons (ps_setLc (i := 2) (own := [("name", 3)]) (g := gName 3) (tt := tTest (tOp (rIn K true) (tVar 3) (tVar 0))) (by rfl) scWB.nd rfl rfl (sw_true rfl rfl rfl (by decide +kernel)) (pi_tup (pe_glob rfl (by exact gL) (v := .ref aL) rfl)) (blkOk_by (own := [("name", 3)]) (N := NWB) (sc := defScope sWB) (by decide +kernel)) (fun _ _ _ _ _ => (pg_name (i := 3) scWB.nd rfl (Or.inl rfl))) (fun _ _ _ _ _ => (pts_one (pt_cmpR op_notIn_seq (pv 3) (pv 0) rfl))) (fun _ _ _ _ _ => (pv 3)))
(pss_one (ps_ret (pe_op op_cat (pv 2) (pe_callTy call_list_of (by rfl) (by exact T.list) (by decide +kernel) (pa_cons (pe_dget hu (pv 1) (pe_ix ix_list (pv 0) pe_int (fun _ _ => rfl)) (fun _ _ => rfl)) pa_nil)))))))), ?_⟩
  obtain ⟨kvs, hd1, hd2⟩ := id hd
  refine ⟨_, rfl, l, _, rfl, .inl hl, rfl, _, rfl, ?_⟩
  cases ahead with
  | nil =>
    refine (if_pos (by decide)).mpr ?_
    refine ⟨_, rfl, d, _, rfl, .inl hd1, fun p hp => ?_⟩
    refine k p _ (sNew hp) ?_
    rw [upd_same, hd_keys hd2]
    rfl
  | cons h t =>
  have h0 : atI ((h :: t).map V.str) 0 = some (V.str h) := atI_nat (j := 0) rfl
  refine (if_neg (fun z => ?_)).mpr ?_
  · have z := V.int.inj (of_decide_eq_true z)
    rw [List.length_map, List.length_cons] at z
    omega
  refine ⟨_, rfl, l, _, _, _, rfl, rfl, hl, h0, rfl, _, rfl, ?_⟩
  by_cases e1 : h = "tell"
  · refine (if_pos (by rw [e1]; decide)).mpr ?_
    refine ⟨by show 0 ≤ sizeLine; rw [sizeLine_eq]; decide, fun p hp => ?_⟩
    refine k p _ (sNew hp) ?_
    rw [upd_same]
    rw [behind_cons, if_pos e1]
    rfl
  refine (if_neg (fun z => e1 (V.str.inj (of_decide_eq_true z)))).mpr ?_
  refine ⟨_, rfl, l, _, rfl, .inl hl, aM, _, rfl, hM, _, rfl, l, _, _, _, rfl, rfl, hl, h0, h, rfl, ?_⟩
  dsimp only [tC]
  rw [mostW_get]
  refine ⟨rfl, _, rfl, ?_⟩
  by_cases e2 : (h :: t).length = mostW h
  · refine (if_pos (decide_eq_true (by rw [List.length_map, e2]))).mpr ?_
    refine ⟨by show 0 ≤ sizeLine; rw [sizeLine_eq]; decide, fun p hp => ?_⟩
    refine k p _ (sNew hp) ?_
    rw [upd_same]
    rw [behind_cons, if_neg e1, if_pos e2]
    rfl
  refine (if_neg (fun z => e2 (by
    have z := V.int.inj (of_decide_eq_true z)
    rw [List.length_map] at z
    omega))).mpr ?_
  refine ⟨aL, rfl, ⟨_, hL.sq⟩, fun D hD => ?_⟩
  refine lc_tup (K := K) (a := aL) (xs := LST.map V.str) (fun i G => Same H G ∧ G D = some (.lst (((LST.take i).filter fun x => decide (x ∉ h :: t)).map V.str))) ⟨sNew hD, upd_same⟩ (fun i G _ _ => hL.sq) ?_ ?_
  · rintro i x G hx ⟨s1, hG⟩
    rw [List.getElem?_map] at hx
    cases ex : LST[i]? with
    | none => rw [ex] at hx; cases hx
    | some y =>
    rw [ex] at hx
    obtain rfl := Option.some.inj hx
    refine ⟨rfl, _, rfl, _, rfl, l, _, rfl, .inl (SqL_same hl s1), rfl, flat_str _, _, rfl, ?_⟩
    have et : LST.take (i + 1) = LST.take i ++ [y] := by rw [List.take_add_one, ex]; rfl
    rw [inV_str]
    by_cases hm : y ∈ h :: t
    · refine (if_neg (by rw [decide_eq_true hm]; decide)).mpr ?_
      refine ⟨s1, ?_⟩
      rw [et, List.filter_append, hG, filt1, if_neg (by rw [decide_eq_false (fun z => z hm)]; decide), List.append_nil]
    · refine (if_pos (by rw [decide_eq_false hm]; rfl)).mpr ?_
      refine ⟨_, rfl, _, hG, ?_, ?_, ?_⟩
      · rw [List.length_map, sizeLine_eq]
        have := List.length_filter_le (fun x => decide (x ∉ h :: t)) (LST.take i)
        rw [List.length_take] at this
        have : LST.length = 3 := rfl
        omega
      · exact fun b o e => by rw [upd_ne (ne_of_none e hD)]; exact s1 b o e
      · rw [upd_same, et, List.filter_append, filt1, if_pos (decide_eq_true hm), List.map_append]
        rfl
  · rintro G ⟨s1, hG⟩
    obtain ⟨aw, hv, hw⟩ := hd_get hd2 (hk h t rfl)
    have h3 : ((LST.filter fun x => decide (x ∉ h :: t)).map V.str).length ≤ 3 := by
      rw [List.length_map]
      exact List.length_filter_le _ _
    have hG : G D = some (.lst ((LST.filter fun x => decide (x ∉ h :: t)).map V.str)) := hG
    have hw10 := lookup_len h10 h
    refine ⟨_, rfl, _, rfl, _, rfl, l, _, _, _, rfl, rfl, SqL_same hl s1, h0, d, _, rfl, (show DGet G d (.str h) (some (.ref aw)) from hv ▸ DGet.k (k := Sum.inr h) (s1 _ _ hd1)), aw, _, rfl, .inr hw.sq, fun q hq => ?_⟩
    have s2 := sNew (o := .lst (((hs.lookup h).getD []).map V.str)) hq
    refine ⟨D, q, _, _, rfl, rfl, s2 _ _ hG, upd_same, by
      rw [List.length_map, sizeLine_eq]
      rw [List.length_map] at h3 ⊢
      omega, fun p hp => ?_⟩
    refine k p _ (s1.trans (s2.trans (sNew hp))) ?_
    rw [upd_same, ← List.map_append]
    rw [behind_cons, if_neg e1, if_neg e2]
end
end Wq
set_option Elab.async false
set_option linter.all false
set_option maxRecDepth 100000
set_option maxHeartbeats 2000000
namespace Wq
open PySem PySem.Spec PyProof.Rows L2
open Pl (Ws wds lns linesIn Hs behind mostW manyOf LST colP firstBad pOk off bad_some bad_none pOk_take)
abbrev sRD : Stmt := top 14
abbrev NRD : List Str := ["line", "number", "heads", "words", "at", "many", "word"]
theorem scRD : FnScope NRD ["line", "number", "heads"] (defScope sRD) := ⟨rfl, rfl, rfl, by decide +kernel, rfl, by decide +kernel, by decide +kernel⟩
def spRD (K : PySem.W.Frag) (CT : Addr) : Sp := fun vs H Q E => ∃ (x : Str) (n : Int) (d : Addr) (hs : Hs), vs = [.str x, .int n, .ref d] ∧ x.length ≤ 100000 ∧ HdAt K H d hs ∧ (∀ q ∈ hs, q.2.length ≤ 10) ∧
  (colP hs (wds x) x.length = 0 → ∀ t G, Same H G → G t = some (.tup ((wds x).map V.str)) → Q (.ref t) G) ∧
  (∀ c, colP hs (wds x) x.length = c → 0 < c → ∀ e G, Err2 H G e [("column", nI c), ("line", .int n)] → E (.ref CT) (some e) G)
theorem off_int (ws : Ws) (i : Nat) : ((ws.take i).map fun w : Str => ((w.length : Int) + 1)).sum = ((off ws i : Nat) : Int) := by
  unfold off
  induction ws.take i with
  | nil => rfl
  | cons w r ih =>
    rw [List.map_cons, List.sum_cons, ih, List.map_cons, List.sum_cons]
    omega
theorem wds_len (x : Str) : (wds x).length ≤ x.length + 1 := by
  rw [← Pl.wds_sum]
  induction wds x with
  | nil => exact Nat.zero_le _
  | cons w r ih =>
    rw [List.length_cons, List.map_cons, List.sum_cons]
    omega
theorem wd_len {x w : Str} (h : w ∈ wds x) : w.length ≤ x.length := by
  have h1 := Pl.wds_sum x
  have : ∀ l : List Str, w ∈ l → w.length + 1 ≤ (l.map fun w => w.length + 1).sum := by
    intro l
    induction l with
    | nil => intro h; cases h
    | cons y r ih =>
      intro h
      rw [List.map_cons, List.sum_cons]
      rcases List.mem_cons.mp h with e | h
      · rw [e]; omega
      · have := ih h; omega
  have := this _ h
  omega
section
variable {P : Program} {w : World} {K : PySem.W.Frag} {mg : Str → Option Value} {base : Heap} {CT fT : Addr}
theorem ok_RD {fdT : FuncData} (D : DefAt K mg "read_line" sRD) (T : Txt K mg) (TP : TxtP K mg) (TE : TxtE K mg CT fT "BadText" ["line", "column"]) (GI : FnOk P w K mg base CX0 1 fT fdT ["self", "line", "column"] (spE2 CT "line" "column")) (bI : L2.Binds K fdT ["self", "line", "column"] [])
    (CW : Cl P w K mg base 1 "words_behind" (spWB K)) : Cle P w K mg base 3 "read_line" (spRD K CT) := by
  obtain ⟨f, fd, FF, hm⟩ := D.ex
  refine ⟨f, fd, ["line", "number", "heads"], FF.okX scRD (fun vs H Q E h => ?_) (fun cdv A outer s H vs Q E hr h => ?_), hm, FF.kp, FF.binds fun _ _ _ _ _ _ us hl => match us, hl with | [_, _, _], _ => rfl⟩
  · obtain ⟨x, n, d, hs, rfl, _⟩ := h
    rfl
  obtain ⟨x, n, d, hs, rfl, hx, hd, h10, k1, k2⟩ := h
  refine ⟨_, pss_cons (ps_set (i := 3) scRD.nd rfl (Or.inl rfl) (pe_split (pv 0) pe_str))
(C8.pss_cut (ps_for (passes_of rfl) rfl (pi_range1 rfl (by exact T.range) (pa_cons (pe_callB call_len_seq (by rfl) (by exact T.len) PySem.boot_len (pa_cons (pv 3) pa_nil)) pa_nil)) (pg_name (i := 4) scRD.nd rfl (Or.inl rfl))
(pss_one (ps_if (pt_cmpR op_notIn_seq (pe_ix ix_list (pv 3) (pv 4) (fun _ _ => rfl)) (pe_cl CW hr (by decide) rfl (pa_cons (pe_slice sl_list (pv 3) po_none (po_some (pv 4))) (pa_cons (pv 2) pa_nil))) rfl)
(pss_one (ps_raise rfl (takes_of rfl rfl rfl rfl) (pmk_oex TE.ox TE.iC TE.tI GI (hr.mono (by decide)) bI .nil pass0 rfl (by exact TE.gC) (by exact (pa_cons (pv 1) (pa_cons (pe_op op_add (pe_callB (cr_sum rfl) (by rfl) (by exact TP.sum) (by decide +kernel) (pa_cons (pe_lc (own := [("word", 6)]) (g := gName 6) (tt := tYes) (by rfl) scRD.nd (pi_list (pe_slice sl_list (pv 3) po_none (po_some (pv 4)))) (blkOk_by (own := [("word", 6)]) (N := NRD) (sc := defScope sRD) (by decide +kernel)) (fun _ _ _ _ _ => (pg_name (i := 6) scRD.nd rfl (Or.inl rfl))) (fun _ _ _ _ _ => pts_nil) (fun _ _ _ _ _ => (pe_op op_add (pe_callB call_len_str (by rfl) (by exact T.len) PySem.boot_len (pa_cons (pv 6) pa_nil)) pe_int))) pa_nil)) pe_int) pa_nil))))))
pss_nil)))
(C8.pss_cut (ps_set (i := 5) scRD.nd rfl (Or.inl rfl) (pe_ifExp (pt_cmpR op_eq (pe_ix ix_list (pv 3) pe_int (fun _ _ => rfl)) pe_str (nomark _)) pe_int (pe_ifExp (pt_cmpR op_eq (pe_ix ix_list (pv 3) pe_int (fun _ _ => rfl)) pe_str (nomark _)) pe_int pe_int)))
(pss_cons (ps_if (pt_cmpR op_lt (pe_callB call_len_seq (by rfl) (by exact T.len) PySem.boot_len (pa_cons (pv 3) pa_nil)) (pv 5) (nomark _))
(pss_one (ps_raise rfl (takes_of rfl rfl rfl rfl) (pmk_oex TE.ox TE.iC TE.tI GI (hr.mono (by decide)) bI .nil pass0 rfl (by exact TE.gC) (by exact (pa_cons (pv 1) (pa_cons (pe_op op_add (pe_callB call_len_str (by rfl) (by exact T.len) PySem.boot_len (pa_cons (pv 0) pa_nil)) pe_int) pa_nil))))))
pss_nil)
(pss_one (ps_ret (pe_callTy call_tuple_of (by rfl) (by exact T.tuple) (by decide +kernel) (pa_cons (pv 3) pa_nil))))))), ?_⟩
  refine ⟨_, rfl, ⟨_, rfl⟩, x, Str.ofString " ", rfl, rfl, by rfl, by rw [sizeLine_eq]; omega, fun q hq => ?_⟩
  rw [Pl.split_sp]
  have hwl := wds_len x
  have hwn := Pl.wds_ne x
  have hwx : ∀ w ∈ wds x, w.length ≤ 100000 := fun w hw => Nat.le_trans (wd_len hw) hx
  generalize hW : wds x = ws at *
  have hlen : (ws.map V.str).length = ws.length := List.length_map ..
  have s0 := sNew (o := .lst (ws.map V.str)) hq
  generalize hH0 : upd H q (.lst (ws.map V.str)) = H0 at *
  have hq0 : H0 q = some (.lst (ws.map V.str)) := by rw [← hH0]; exact upd_same
  refine ⟨fun σ G => ∃ x4 : Option V, σ = [some (.str x), some (.int n), some (.ref d), some (.ref q), x4, none, none] ∧ Same H0 G ∧ firstBad (pOk hs) ws = none, ?_, ?_⟩
  · refine ⟨_, rfl, q, _, rfl, .inl (.inl (.inl hq0)), _, rfl, by omega, by rw [hlen]; omega, ?_⟩
    refine for_range (lo := 0) (n := (ws.map V.str).length) (fun i σ G => ∃ x4 : Option V, σ = [some (.str x), some (.int n), some (.ref d), some (.ref q), x4, none, none] ∧ Same H0 G ∧ ∀ j, j < i → pOk hs (ws.take (j + 1)) = true) ⟨_, rfl, .refl _, fun j hj => absurd hj (Nat.not_lt_zero _)⟩ ?_ ?_
    · rintro i σ G hi ⟨x4, rfl, s1, hj⟩
      rw [hlen] at hi
      have ei : ws[i]? = some ws[i] := List.getElem?_eq_getElem hi
      generalize ws[i] = wd at ei
      have hat : atI (ws.map V.str) (0 + (i : Int)) = some (V.str wd) := by
        rw [Int.zero_add]
        exact atI_nat (by rw [List.getElem?_map, ei]; rfl)
      refine ⟨_, rfl, _, rfl, q, _, _, _, rfl, rfl, .inl (.inl (s1 _ _ hq0)), hat, ?_⟩
      refine ⟨_, rfl, _, rfl, _, rfl, q, _, rfl, .inl (.inl (s1 _ _ hq0)), fun p hp => ?_⟩
      rw [Int.zero_add, cut_to, ← List.map_take]
      have s2 := sNew (o := .lst ((ws.take i).map V.str)) hp
      refine ⟨_, rfl, p, d, ws.take i, hs, rfl, .inl (.inl upd_same), (hd.same (s0.trans (s1.trans s2))), fun h t e => ?_, h10, fun r G2 s3 hr2 => ?_⟩
      · cases i with
        | zero => cases e
        | succ i =>
          have h0 := hj 0 (Nat.succ_pos i)
          have e0 : ws[0]? = some h := by
            have := congrArg (fun l : Ws => l[0]?) e
            simpa using this
          rw [pOk_take e0] at h0
          exact of_decide_eq_true h0
      refine ⟨r, _, rfl, .inl (.inl (.inl hr2)), rfl, flat_str _, _, rfl, ?_⟩
      rw [inV_str]
      by_cases hmem : wd ∈ behind hs (ws.take i)
      · refine (if_neg (by rw [decide_eq_true hmem]; decide)).mpr ?_
        refine ⟨_, rfl, s1.trans (s2.trans s3), fun j hj2 => ?_⟩
        by_cases e : j = i
        · rw [e, pOk_take ei]
          exact decide_eq_true hmem
        · exact hj j (by omega)
      · refine (if_pos (by rw [decide_eq_false hmem]; rfl)).mpr ?_
        have bad : firstBad (pOk hs) ws = some i := bad_some hi hj (by rw [pOk_take ei]; exact decide_eq_false hmem)
        have hcol : colP hs ws x.length = off ws i + 1 := by
          unfold colP
          rw [bad]
        have sA := s0.trans (s1.trans (s2.trans s3))
        have q3 := s3 _ _ (s2 _ _ (s1 _ _ hq0))
        refine ⟨_, rfl, _, rfl, _, rfl, _, rfl, q, _, rfl, .inl (.inl q3), fun p2 hp2 => ?_⟩
        rw [cut_to, ← List.map_take]
        have s4 := sNew (o := .lst ((ws.take i).map V.str)) hp2
        refine ⟨p2, rfl, ⟨_, .inl (.inl upd_same)⟩, fun D hD => ?_⟩
        refine lc_list (K := K) (a := p2) (xs := (ws.take i).map V.str) (fun j G => Same G2 G ∧ G p2 = some (.lst ((ws.take i).map V.str)) ∧ G D = some (.lst (((((ws.take i).map fun w : Str => ((w.length : Int) + 1)).take j)).map V.int)))
          ⟨s4.trans (sNew hD), by rw [upd_ne (ne_of_none upd_same hD), upd_same], by rw [upd_same]; rfl⟩ (fun j G _ h => .inl (.inl h.2.1)) ?_ ?_
        · rintro j y G hy ⟨s5, hp5, hD5⟩
          rw [List.getElem?_map] at hy
          cases ey : (ws.take i)[j]? with
          | none => rw [ey] at hy; cases hy
          | some v =>
          rw [ey] at hy
          obtain rfl := Option.some.inj hy
          have hv : v.length ≤ 100000 := hwx v (List.mem_of_mem_take (List.mem_of_getElem? ey))
          refine ⟨rfl, _, rfl, v, rfl, by rw [sizeLine_eq]; omega, _, _, rfl, rfl, _, hD5, ?_, ?_, ?_, ?_⟩
          · rw [List.length_map, List.length_take, List.length_map, List.length_take, sizeLine_eq]
            omega
          · intro b o e
            rw [upd_ne]
            · exact s5 b o e
            · exact ne_of_none (s4 _ _ e) hD
          · rw [upd_ne]
            · exact hp5
            · exact ne_of_none upd_same hD
          · rw [upd_same, List.take_add_one (i := j), List.getElem?_map, ey, List.map_append]
            rfl
        · rintro G5 ⟨s5, hp5, hD5⟩
          rw [List.length_map, List.take_of_length_le (by rw [List.length_map]; exact Nat.le_refl _)] at hD5
          refine ⟨D, _, rfl, .inl (.inl hD5), _, _, rfl, rfl, ?_⟩
          refine ⟨(by show 2 ≤ 1000; decide), fun a ha => ⟨a, _, _, rfl, upd_same, fun e he hea => ⟨rfl, e, _, by rw [upd_ne hea.symm]; exact upd_same, upd_same, by rw [upd_ne hea] at he; exact he, ?_⟩⟩⟩
          rw [off_int]
          have er := err2_heap (f1 := "line") (f2 := "column") (v1 := .int n) (v2 := .int ((off ws i : Nat) + 1)) ha he hea
          exact k2 (off ws i + 1) hcol (Nat.succ_pos _) e _ (err2_pre (sA.trans s5) er)
    · rintro σ G ⟨x4, rfl, s1, hj⟩
      exact ⟨x4, rfl, s1, bad_none fun j h => hj j (by omega)⟩
  rintro σ G ⟨x4, rfl, s1, hb⟩
  cases ws with
  | nil => exact absurd rfl hwn
  | cons w0 wr =>
  have q1 := s1 _ _ hq0
  have h0 : atI ((w0 :: wr).map V.str) 0 = some (V.str w0) := atI_nat (j := 0) rfl
  have hmany : (if w0 = "rename" then (3 : Int) else if w0 = "tell" then 1 else 2) = ((manyOf (w0 :: wr) : Nat) : Int) := by
    unfold manyOf
    show _ = (((if w0 = "rename" then 3 else if w0 = "tell" then 1 else 2 : Nat)) : Int)
    by_cases e1 : w0 = "rename"
    · rw [if_pos e1, if_pos e1]; rfl
    · by_cases e2 : w0 = "tell"
      · rw [if_neg e1, if_pos e2, if_neg e1, if_pos e2]; rfl
      · rw [if_neg e1, if_neg e2, if_neg e1, if_neg e2]; rfl
  have hcol : colP hs (w0 :: wr) x.length = if (w0 :: wr).length < manyOf (w0 :: wr) then x.length + 1 else 0 := by
    unfold colP
    rw [hb]
  generalize hM : manyOf (w0 :: wr) = M at *
  refine ⟨fun σ G => ∃ x4 : Option V, σ = [some (.str x), some (.int n), some (.ref d), some (.ref q), x4, some (nI M), none] ∧ Same H0 G, ?_, ?_⟩
  · refine ⟨_, rfl, q, _, _, _, rfl, rfl, .inl (.inl q1), h0, rfl, _, rfl, ?_⟩
    by_cases e1 : w0 = "rename"
    · refine (if_pos (decide_eq_true (congrArg V.str e1))).mpr ?_
      rw [if_pos e1] at hmany
      exact ⟨x4, congrArg (fun z => [some (V.str x), some (.int n), some (.ref d), some (.ref q), x4, some (V.int z), none]) hmany, s1⟩
    · refine (if_neg (fun z => e1 (V.str.inj (of_decide_eq_true z)))).mpr ?_
      refine ⟨_, rfl, q, _, _, _, rfl, rfl, .inl (.inl q1), h0, rfl, _, rfl, ?_⟩
      by_cases e2 : w0 = "tell"
      · refine (if_pos (decide_eq_true (congrArg V.str e2))).mpr ?_
        rw [if_neg e1, if_pos e2] at hmany
        exact ⟨x4, congrArg (fun z => [some (V.str x), some (.int n), some (.ref d), some (.ref q), x4, some (V.int z), none]) hmany, s1⟩
      · refine (if_neg (fun z => e2 (V.str.inj (of_decide_eq_true z)))).mpr ?_
        rw [if_neg e1, if_neg e2] at hmany
        exact ⟨x4, congrArg (fun z => [some (V.str x), some (.int n), some (.ref d), some (.ref q), x4, some (V.int z), none]) hmany, s1⟩
  rintro σ G2 ⟨x4, rfl, s2⟩
  have q2 := s2 _ _ hq0
  refine ⟨_, rfl, q, _, rfl, .inl (.inl (.inl q2)), _, rfl, _, _, rfl, rfl, _, rfl, ?_⟩
  by_cases e : (w0 :: wr).length < M
  · refine (if_pos (decide_eq_true (by rw [hlen]; omega))).mpr ?_
    rw [if_pos e] at hcol
    refine ⟨_, rfl, _, rfl, x, rfl, by rw [sizeLine_eq]; omega, _, _, rfl, rfl, ?_⟩
    refine ⟨(by show 2 ≤ 1000; decide), fun a ha => ⟨a, _, _, rfl, upd_same, fun e he hea => ⟨rfl, e, _, by rw [upd_ne hea.symm]; exact upd_same, upd_same, by rw [upd_ne hea] at he; exact he, ?_⟩⟩⟩
    have er := err2_heap (f1 := "line") (f2 := "column") (v1 := .int n) (v2 := .int ((x.length : Int) + 1)) ha he hea
    exact k2 (x.length + 1) hcol (Nat.succ_pos _) e _ (err2_pre (s0.trans s2) er)
  · refine (if_neg (fun z => e (by
      have z : (((w0 :: wr).map V.str).length : Int) < (M : Int) := of_decide_eq_true z
      rw [hlen] at z
      omega))).mpr ?_
    rw [if_neg e] at hcol
    refine ⟨_, rfl, q, _, rfl, .inl ⟨.inl (.inl q2), fun t ht => ?_⟩⟩
    exact k1 hcol t _ (s0.trans (s2.trans (sNew ht))) upd_same
end
end Wq
set_option Elab.async false
set_option linter.all false
set_option maxRecDepth 100000
set_option maxHeartbeats 2000000
namespace Pl
open PySem
open SX (S S_tl S_inj split_S join_S)
theorem lns_sum (x : Str) : ((lns x).map fun w => w.length + 1).sum = x.length + 1 := by
  have := cut_len 10 x.cps.toList
  unfold lns
  rw [List.map_map]
  have e : ((fun w : Str => w.length + 1) ∘ S) = fun l : List Nat => l.length + 1 := by
    funext l
    show (S l).length + 1 = _
    rw [SX.S_len]
  rw [e, this]
  simp [Str.length]
theorem sum_mem {l : List Str} {w : Str} (h : w ∈ l) : w.length + 1 ≤ (l.map fun w => w.length + 1).sum := by
  induction l with
  | nil => cases h
  | cons y r ih =>
    rw [List.map_cons, List.sum_cons]
    rcases List.mem_cons.mp h with e | h
    · rw [e]; omega
    · have := ih h; omega
theorem sum_len (l : List Str) : l.length ≤ (l.map fun w => w.length + 1).sum := by
  induction l with
  | nil => exact Nat.zero_le _
  | cons w r ih =>
    rw [List.length_cons, List.map_cons, List.sum_cons]
    omega
theorem ln_len {x l : Str} (h : l ∈ linesIn x) : l.length ≤ x.length := by
  unfold linesIn at h
  split at h
  · cases h
  · have h1 := sum_mem h
    rw [lns_sum] at h1
    omega
theorem lns_many (x : Str) : (linesIn x).length ≤ x.length + 1 := by
  unfold linesIn
  split
  · exact Nat.zero_le _
  · have h1 := sum_len (lns x)
    rw [lns_sum] at h1
    exact h1
theorem rrows_get {r : List Str} {j : Nat} {l : Str} (h : r[j]? = some l) : (rrows r)[j]? = some (if j = 0 then 1 else 2, l) := by
  cases r with
  | nil => cases h
  | cons a r =>
    cases j with
    | zero =>
      obtain rfl := Option.some.inj h
      rfl
    | succ j =>
      show (r.map fun y => (2, y))[j]? = _
      rw [List.getElem?_map, show r[j]? = some l from h]
      rfl
theorem rrows_len (r : List Str) : (rrows r).length = r.length := by
  cases r with
  | nil => rfl
  | cons a r => simp [rrows]
theorem rows_c {c r : List Str} {j : Nat} {l : Str} (h : c[j]? = some l) : (rowsOf c r)[j]? = some (0, l) := by
  unfold rowsOf
  have hj : j < c.length := (List.getElem?_eq_some_iff.mp h).1
  rw [List.getElem?_append_left (by rw [List.length_map]; exact hj), List.getElem?_map, h]
  rfl
theorem rows_r {c r : List Str} {j : Nat} {l : Str} (h : r[j]? = some l) : (rowsOf c r)[c.length + j]? = some (if j = 0 then 1 else 2, l) := by
  unfold rowsOf
  rw [List.getElem?_append_right (by rw [List.length_map]; omega), List.length_map, Nat.add_sub_cancel_left]
  exact rrows_get h
theorem due_text {c r : List Str} (h1 : c.length ≤ 16) (h2 : r.length ≤ 16) {i k : Nat} {x : Str} (h : (rowsOf c r)[i]? = some (k, x)) (hb : ∀ j q, j < i → (rowsOf c r)[j]? = some q → colRow q.1 q.2 = 0) (hp : 0 < colRow k x) : due c r = .text (i + 1) (colRow k x) := by
  unfold due
  rw [if_neg (by omega), if_neg (by omega), fw_some h hb hp, Nat.add_comm 1 i]
theorem rows_cases {c r : List Str} {j : Nat} {q : Nat × Str} (h : (rowsOf c r)[j]? = some q) : (∃ l, c[j]? = some l ∧ q = (0, l)) ∨ ∃ i l, j = c.length + i ∧ r[i]? = some l ∧ q = (if i = 0 then 1 else 2, l) := by
  by_cases hj : j < c.length
  · have e := List.getElem?_eq_getElem hj
    rw [rows_c e] at h
    exact .inl ⟨_, e, (Option.some.inj h).symm⟩
  · have hl := (List.getElem?_eq_some_iff.mp h).1
    unfold rowsOf at hl
    rw [List.length_append, List.length_map, rrows_len] at hl
    have e := List.getElem?_eq_getElem (l := r) (i := j - c.length) (by omega)
    refine .inr ⟨j - c.length, _, by omega, e, ?_⟩
    have := rows_r (c := c) e
    rw [show c.length + (j - c.length) = j by omega, h] at this
    exact Option.some.inj this
theorem due_end {c r : List Str} (h1 : c.length ≤ 16) (h2 : r.length ≤ 16) (hc : ∀ (j : Nat) l, c[j]? = some l → colRow 0 l = 0) (hr : ∀ (j : Nat) l, r[j]? = some l → colRow (if j = 0 then 1 else 2) l = 0) : due c r = match tellsOf c with
    | _ :: t :: _ => .text (t + 1) 1
    | [] => .text (c.length + 1) 1
    | [_] => if r = [] then .text (c.length + 1) 1 else .ok := by
  have : fw (rowsOf c r) 1 = none := by
    refine fw_none fun q hq => ?_
    obtain ⟨j, hj⟩ := List.getElem?_of_mem hq
    rcases rows_cases hj with ⟨l, e, rfl⟩ | ⟨i, l, _, e, rfl⟩
    · exact hc j l e
    · exact hr i l e
  unfold due
  rw [if_neg (by omega), if_neg (by omega), this] <;> rfl
theorem col0 (x : Str) : colP hC (wds x) x.length = colRow 0 x := col_eq (fits_of fitC) (wds_ne x) _
theorem col1 (x : Str) : colP hT (wds x) x.length = colRow 1 x := col_eq (fits_of fitT) (wds_ne x) _
theorem col2 (x : Str) : colP hR (wds x) x.length = colRow 2 x := col_eq (fits_of fitR) (wds_ne x) _
theorem wds_tell : wds "tell" = (["tell"] : List Str) := by decide +kernel
theorem tell_iff (x : Str) : decide (wds x = (["tell"] : List Str)) = decide (x = "tell") := by
  by_cases e : x = "tell"
  · subst e
    rw [decide_eq_true wds_tell, decide_eq_true rfl]
  · rw [decide_eq_false e, decide_eq_false]
    intro h
    rw [← wds_tell] at h
    exact e (wds_inj h)
end Pl
namespace Wq
open PySem PySem.Spec PyProof.Rows L2
open Pl (Ws wds lns linesIn Hs behind mostW manyOf LST colP colRow firstBad pOk off due Due rowsOf tellsOf)
/-- a copy of a dict that stands still -/
def rCp (K : PySem.W.Frag) (w : World) : List V → Hp → VK → Prop := fun xs H Q => ∃ (a : Addr) (kvs : List (Str × V)), xs = [.ref a] ∧ Wd.At K w a kvs ∧ ∀ p, H p = none → Q (.ref p) (upd H p (.dK (Wd.ents kvs)))
theorem call_cp {X : Cx} : CallR X (.type "dict") (rCp X.K X.w) := Wd.call_copy
def teC (K : PySem.W.Frag) (w : World) (CT aC : Addr) (E : XK) : TE := tCall (spRD K CT) [] E (tCons (tOp (rIxL K) (tVar 2) (tVar 9)) (tCons (tOp (rI0 fun i j => .int (i + j)) (tVar 9) (tC (.int 1))) (tCons (tCB (rCp K w) (tCons (tC (.ref aC)) tNil)) tNil)))
def teF (K : PySem.W.Frag) (w : World) (CT aT aR : Addr) (E : XK) : TE := tCall (spRD K CT) [] E (tCons (tOp (rIxL K) (tVar 3) (tVar 9)) (tCons (tOp (rI0 fun i j => .int (i + j)) (tOp (rI0 fun i j => .int (i + j)) (tVar 5) (tVar 9)) (tC (.int 1))) (tCons (tIf (tTest (tOp rEq (tVar 9) (tC (.int 0)))) (tCB (rCp K w) (tCons (tC (.ref aT)) tNil)) (tCB (rCp K w) (tCons (tC (.ref aR)) tNil))) tNil)))
abbrev sRP : Stmt := top 13
abbrev NRP : List Str := ["commit", "recovery", "commit_lines", "recovery_lines", "lines", "many", "told", "further", "tells", "at"]
theorem scRP : FnScope NRP ["commit", "recovery"] (defScope sRP) := ⟨rfl, rfl, rfl, by decide +kernel, rfl, by decide +kernel, by decide +kernel⟩
def spRP (CT CM : Addr) : Sp := fun vs H Q E => ∃ (x y : Str), vs = [.str x, .str y] ∧ x.length ≤ 100000 ∧ y.length ≤ 100000 ∧ (∀ l ∈ linesIn x, As l) ∧
  (due (linesIn x) (linesIn y) = .ok → ∀ t a b G, Same H G → G t = some (.tup [.ref a, .ref b]) → Q (.ref t) G) ∧
  (∀ n, due (linesIn x) (linesIn y) = .many n → ∀ e G, Err2 H G e [("limit", .int 16), ("many", nI n), ("what", .str "lines")] → E (.ref CM) (some e) G) ∧
  (∀ l k, due (linesIn x) (linesIn y) = .text l k → ∀ e G, Err2 H G e [("column", nI k), ("line", nI l)] → E (.ref CT) (some e) G)
/-- tuples of the words of lines -/
def TsAt (G : Hp) (D : Addr) (ls : List Str) : Prop := ∃ ts : List Addr, G D = some (.lst (ts.map V.ref)) ∧ ts.length = ls.length ∧ ∀ (j : Nat) (t : Addr) (l : Str), ts[j]? = some t → ls[j]? = some l → G t = some (.tup ((wds l).map V.str))
theorem ts_same {G G' : Hp} {D : Addr} {ls : List Str} (h : TsAt G D ls) (s : Same G G') : TsAt G' D ls := by
  obtain ⟨ts, h1, h2, h3⟩ := h
  exact ⟨ts, s _ _ h1, h2, fun j t l e1 e2 => s _ _ (h3 j t l e1 e2)⟩
theorem ts_push {G G' : Hp} {D t : Addr} {ls : List Str} {l : Str} (h : TsAt G D ls) (s : Same G G') (ht : G' t = some (.tup ((wds l).map V.str))) (_ : G D ≠ none) : ∃ acc : List V, G' D = some (.lst acc) ∧ acc.length = ls.length ∧ TsAt (upd G' D (.lst (acc ++ [.ref t]))) D (ls ++ [l]) := by
  obtain ⟨ts, h1, h2, h3⟩ := h
  refine ⟨ts.map V.ref, s _ _ h1, by rw [List.length_map, h2], ts ++ [t], by rw [upd_same, List.map_append]; rfl, by rw [List.length_append, List.length_append, h2]; rfl, fun j u m e1 e2 => ?_⟩
  have nt : ∀ b xs, G' b = some (.tup xs) → b ≠ D := fun b xs e => ne_of e (s _ _ h1) (by intro z; cases z)
  by_cases hj : j < ls.length
  · rw [List.getElem?_append_left (by omega)] at e1
    rw [List.getElem?_append_left hj] at e2
    have := s _ _ (h3 j u m e1 e2)
    rw [upd_ne (nt _ _ this)]
    exact this
  · have hj2 : j < (ts ++ [t]).length := (List.getElem?_eq_some_iff.mp e1).1
    rw [List.length_append] at hj2
    have hj2 : j < ts.length + 1 := hj2
    have e : j = ls.length := by omega
    subst e
    rw [List.getElem?_append_right (by omega), ← h2, Nat.sub_self] at e1
    rw [List.getElem?_append_right (Nat.le_refl _), Nat.sub_self] at e2
    obtain rfl := Option.some.inj e1
    obtain rfl := Option.some.inj e2
    rw [upd_ne (nt _ _ ht)]
    exact ht
theorem as_tell : ∀ l ∈ (["tell"] : List Str), As l := fun l hl => by
  rw [List.mem_singleton.mp hl]
  unfold As
  decide +kernel
theorem hC10 : ∀ q ∈ Pl.hC, q.2.length ≤ 10 := by decide +kernel
theorem hT10 : ∀ q ∈ Pl.hT, q.2.length ≤ 10 := by decide +kernel
theorem hR10 : ∀ q ∈ Pl.hR, q.2.length ≤ 10 := by decide +kernel
section
variable {P : Program} {w : World} {K : PySem.W.Frag} {mg : Str → Option Value} {base : Heap} {CT fT CM fM : Addr}
theorem ok_RP {fdT fdM : FuncData} (D : DefAt K mg "read_protocol" sRP) (T : Txt K mg) (TP : TxtP K mg) (TW : TxtW K w mg) (TE : TxtE K mg CT fT "BadText" ["line", "column"]) (GI : FnOk P w K mg base CX0 1 fT fdT ["self", "line", "column"] (spE2 CT "line" "column")) (bI : L2.Binds K fdT ["self", "line", "column"] [])
    (TM : TxtE K mg CM fM "TooMany" ["what", "many", "limit"]) (GM : FnOk P w K mg base CX0 1 fM fdM ["self", "what", "many", "limit"] (spE3 CM "what" "many" "limit")) (bM : L2.Binds K fdM ["self", "what", "many", "limit"] [])
    (CL : Cl P w K mg base 1 "lines_in" spLines) (CR : Cle P w K mg base 3 "read_line" (spRD K CT)) : Cle P w K mg base 4 "read_protocol" (spRP CT CM) := by
  obtain ⟨f, fd, FF, hm⟩ := D.ex
  obtain ⟨fR, fdR, psR, GR, hmR, kpR, bR⟩ := CR.ex
  obtain ⟨n16, t16, gM, e16⟩ := TP.gM
  subst e16
  obtain ⟨aC, kC, gC, atC, hvC⟩ := TW.gC
  obtain ⟨aT, kT, gT, atT, hvT⟩ := TW.gT
  obtain ⟨aR, kR, gR, atR, hvR⟩ := TW.gR
  refine ⟨f, fd, ["commit", "recovery"], FF.okX scRP (fun vs H Q E h => ?_) (fun cdv A outer s H vs Q E hr h => ?_), hm, FF.kp, FF.binds fun _ _ _ _ _ _ us hl => match us, hl with | [_, _], _ => rfl⟩
  · obtain ⟨x, y, rfl, _⟩ := h
    rfl
  obtain ⟨x, y, rfl, hx, hy, hA, kok, kmany, ktext⟩ := h
  refine ⟨_, pss_cons (ps_set (i := 2) scRP.nd rfl (Or.inr rfl) (pe_cl CL hr (by decide) rfl (pa_cons (pv 0) pa_nil)))
(pss_cons (ps_set (i := 3) scRP.nd rfl (Or.inr rfl) (pe_cl CL hr (by decide) rfl (pa_cons (pv 1) pa_nil)))
(C8.pss_cut (ps_for (passes_of rfl) rfl (pi_tup (pe_tup (pa_cons (pv 2) (pa_cons (pv 3) pa_nil)))) (pg_name (i := 4) scRP.nd rfl (Or.inl rfl))
(pss_one (ps_if (pt_cmpR op_gt (pe_callB call_len_seq (by rfl) (by exact T.len) PySem.boot_len (pa_cons (pv 4) pa_nil)) (pgi (by exact gM)) (nomark _))
(pss_one (ps_raise rfl (takes_of rfl rfl rfl rfl) (pmk_oex TM.ox TM.iC TM.tI GM (hr.mono (by decide)) bM .nil pass0 rfl (by exact TM.gC) (by exact (pa_cons pe_str (pa_cons (pe_callB call_len_seq (by rfl) (by exact T.len) PySem.boot_len (pa_cons (pv 4) pa_nil)) (pa_cons (pgi (by exact gM)) pa_nil)))))))
pss_nil)))
(pss_cons (ps_set (i := 5) scRP.nd rfl (Or.inr rfl) (pe_callB call_len_seq (by rfl) (by exact T.len) PySem.boot_len (pa_cons (pv 2) pa_nil)))
(C8.pss_cut (ps_set (i := 6) scRP.nd rfl (Or.inr rfl) (Lr.pe_lcE (E := E) (own := [("at", 9)]) (g := gName 9) (tt := tYes) (te := teC K w CT aC E) rfl scRP.nd (takes_of rfl rfl rfl rfl) rfl rfl (pi_range1 rfl (by exact T.range) (pa_cons (pv 5) pa_nil)) (blkOk_by (own := [("at", 9)]) (N := NRP) (sc := defScope sRP) (by decide +kernel)) (fun _ _ _ _ _ => (pg_name (i := 9) scRP.nd rfl (Or.inl rfl))) (fun _ _ _ _ _ => pts_nil) (fun _ _ _ _ _ => (pe_call GR hr rfl hmR kpR bR .nil (Lr.passes_in fun _ _ _ h => h) (pa_cons (pe_ix ix_list (pv 2) (pv 9) (fun _ _ => rfl)) (pa_cons (pe_op op_add (pv 9) pe_int) (pa_cons (pe_callTy (T := "dict") call_cp (by rfl) (by exact TP.dict) (by decide +kernel) (pa_cons (pe_glob rfl (by exact gC) (v := .ref aC) rfl) pa_nil)) pa_nil)))))))
(C8.pss_cut (Lr.ps_setLcE (i := 7) (E := E) (own := [("at", 9)]) (g := gName 9) (tt := tYes) (te := teF K w CT aT aR E) rfl scRP.nd (takes_of rfl rfl rfl rfl) rfl rfl rfl rfl (sw_true rfl rfl rfl (by decide +kernel)) (pi_range1 rfl (by exact T.range) (pa_cons (pe_callB call_len_seq (by rfl) (by exact T.len) PySem.boot_len (pa_cons (pv 3) pa_nil)) pa_nil)) (blkOk_by (own := [("at", 9)]) (N := NRP) (sc := defScope sRP) (by decide +kernel)) (fun _ _ _ _ _ => (pg_name (i := 9) scRP.nd rfl (Or.inl rfl))) (fun _ _ _ _ _ => pts_nil) (fun _ _ _ _ _ => (pe_call GR hr rfl hmR kpR bR .nil (Lr.passes_in fun _ _ _ h => h) (pa_cons (pe_ix ix_list (pv 3) (pv 9) (fun _ _ => rfl)) (pa_cons (pe_op op_add (pe_op op_add (pv 5) (pv 9)) pe_int) (pa_cons (pe_ifExp (pt_cmpR op_eq (pv 9) pe_int (nomark _)) (pe_callTy (T := "dict") call_cp (by rfl) (by exact TP.dict) (by decide +kernel) (pa_cons (pe_glob rfl (by exact gT) (v := .ref aT) rfl) pa_nil)) (pe_callTy (T := "dict") call_cp (by rfl) (by exact TP.dict) (by decide +kernel) (pa_cons (pe_glob rfl (by exact gR) (v := .ref aR) rfl) pa_nil))) pa_nil))))))
(C8.pss_cut (ps_setLc (i := 8) (own := [("at", 9)]) (g := gName 9) (tt := tTest (tOp (rEqD K) (tOp (rIxL K) (tVar 6) (tVar 9)) (tTup (tCons (tC (.str "tell")) tNil)))) (by rfl) scRP.nd rfl rfl (sw_true rfl rfl rfl (by decide +kernel)) (pi_range1 rfl (by exact T.range) (pa_cons (pv 5) pa_nil)) (blkOk_by (own := [("at", 9)]) (N := NRP) (sc := defScope sRP) (by decide +kernel)) (fun _ _ _ _ _ => (pg_name (i := 9) scRP.nd rfl (Or.inl rfl))) (fun _ _ _ _ _ => (pts_one (pt_cmpR (op_eqD (hu64 hr)) (pe_ix ix_list (pv 6) (pv 9) (fun _ _ => rfl)) (pe_tup (pa_cons pe_str pa_nil)) (nomark _)))) (fun _ _ _ _ _ => (pv 9)))
(pss_cons (ps_if (pt_cmpR op_gt (pe_callB call_len_seq (by rfl) (by exact T.len) PySem.boot_len (pa_cons (pv 8) pa_nil)) pe_int (nomark _))
(pss_one (ps_raise rfl (takes_of rfl rfl rfl rfl) (pmk_oex TE.ox TE.iC TE.tI GI (hr.mono (by decide)) bI .nil pass0 rfl (by exact TE.gC) (by exact (pa_cons (pe_op op_add (pe_ix ix_list (pv 8) pe_int (fun _ _ => rfl)) pe_int) (pa_cons pe_int pa_nil))))))
pss_nil)
(pss_cons (ps_if (pt_cmpR op_eq (pe_callB call_len_seq (by rfl) (by exact T.len) PySem.boot_len (pa_cons (pv 8) pa_nil)) pe_int (nomark _))
(pss_one (ps_raise rfl (takes_of rfl rfl rfl rfl) (pmk_oex TE.ox TE.iC TE.tI GI (hr.mono (by decide)) bI .nil pass0 rfl (by exact TE.gC) (by exact (pa_cons (pe_op op_add (pv 5) pe_int) (pa_cons pe_int pa_nil))))))
pss_nil)
(pss_cons (ps_if (pt_cmpR op_eq (pe_callB call_len_seq (by rfl) (by exact T.len) PySem.boot_len (pa_cons (pv 7) pa_nil)) pe_int (nomark _))
(pss_one (ps_raise rfl (takes_of rfl rfl rfl rfl) (pmk_oex TE.ox TE.iC TE.tI GI (hr.mono (by decide)) bI .nil pass0 rfl (by exact TE.gC) (by exact (pa_cons (pe_op op_add (pv 5) pe_int) (pa_cons pe_int pa_nil))))))
pss_nil)
(pss_one (ps_ret (pe_tup (pa_cons (pe_callTy call_tuple_of (by rfl) (by exact T.tuple) (by decide +kernel) (pa_cons (pv 6) pa_nil)) (pa_cons (pe_callTy call_tuple_of (by rfl) (by exact T.tuple) (by decide +kernel) (pa_cons (pv 7) pa_nil)) pa_nil)))))))))))))), ?_⟩
  have hcl : ∀ l ∈ linesIn x, l.length ≤ 100000 := fun l h => Nat.le_trans (Pl.ln_len h) hx
  have hrl : ∀ l ∈ linesIn y, l.length ≤ 100000 := fun l h => Nat.le_trans (Pl.ln_len h) hy
  have hcm := Pl.lns_many x
  have hrm := Pl.lns_many y
  refine ⟨_, rfl, x, rfl, hx, fun pc G0 s0 hpc => ⟨_, rfl, y, rfl, hy, fun pr G1 s1 hpr => ?_⟩⟩
  have hpc := s1 _ _ hpc
  have s01 := s0.trans s1
  generalize linesIn x = c at *
  generalize linesIn y = r at *
  have hlc : (c.map V.str).length = c.length := List.length_map ..
  have hlr : (r.map V.str).length = r.length := List.length_map ..
  refine ⟨fun σ G => ∃ x4 : Option V, σ = [some (.str x), some (.str y), some (.ref pc), some (.ref pr), x4, none, none, none, none, none] ∧ Same G1 G ∧ c.length ≤ 16 ∧ r.length ≤ 16, ?_, ?_⟩
  · refine ⟨_, rfl, _, rfl, by show 2 ≤ sizeLine; rw [sizeLine_eq]; decide, fun tp htp => ?_⟩
    have s2 := sNew (o := .tup [.ref pc, .ref pr]) htp
    refine ⟨tp, rfl, ⟨_, .inl (.inl upd_same)⟩, ?_⟩
    refine for_tup (K := K) (a := tp) (xs := [.ref pc, .ref pr]) (fun i σ G => ∃ x4 : Option V, σ = [some (.str x), some (.str y), some (.ref pc), some (.ref pr), x4, none, none, none, none, none] ∧ Same G1 G ∧ G tp = some (.tup [.ref pc, .ref pr]) ∧ (1 ≤ i → c.length ≤ 16) ∧ (2 ≤ i → r.length ≤ 16))
      ⟨_, rfl, s2, upd_same, fun z => absurd z (by omega), fun z => absurd z (by omega)⟩ (fun i σ G _ ⟨_, _, _, h, _⟩ => .inl (.inl h)) ?_ ?_
    · rintro i v σ G hi ⟨x4, rfl, s3, htp3, c1, c2⟩
      have hpc3 := s3 _ _ hpc
      have hpr3 := s3 _ _ hpr
      match i, hi, c1 with
      | 0, hi, _ =>
        obtain rfl := Option.some.inj hi
        refine ⟨_, rfl, pc, _, rfl, .inl (.inl (.inl hpc3)), _, _, rfl, rfl, _, rfl, ?_⟩
        by_cases e : 16 < c.length
        · refine (if_pos (decide_eq_true (by rw [hlc]; omega))).mpr ?_
          refine ⟨_, rfl, pc, _, rfl, .inl (.inl (.inl hpc3)), (by show 3 ≤ 1000; decide), fun a ha => ⟨a, _, _, _, rfl, upd_same, fun d hd hda => ⟨rfl, d, _, by rw [upd_ne hda.symm, upd_ne hda.symm]; exact upd_same, upd_same, by rw [upd_ne hda] at hd; exact hd, ?_⟩⟩⟩
          rw [hlc]
          have er := err3_heap (f1 := "what") (f2 := "many") (f3 := "limit") (v1 := .str "lines") (v2 := nI c.length) (v3 := .int 16) ha hd hda
          exact kmany c.length (by unfold due; rw [if_pos e]) d _ (err2_pre (s01.trans s3) er)
        · refine (if_neg (fun z => e (by
            have z : (16 : Int) < ((c.map V.str).length : Int) := of_decide_eq_true z
            rw [hlc] at z
            omega))).mpr ?_
          exact ⟨_, rfl, s3, htp3, fun _ => by omega, fun z => absurd z (by omega)⟩
      | 1, hi, c1 =>
        obtain rfl := Option.some.inj hi
        have c1 := c1 (Nat.le_refl _)
        refine ⟨_, rfl, pr, _, rfl, .inl (.inl (.inl hpr3)), _, _, rfl, rfl, _, rfl, ?_⟩
        by_cases e : 16 < r.length
        · refine (if_pos (decide_eq_true (by rw [hlr]; omega))).mpr ?_
          refine ⟨_, rfl, pr, _, rfl, .inl (.inl (.inl hpr3)), (by show 3 ≤ 1000; decide), fun a ha => ⟨a, _, _, _, rfl, upd_same, fun d hd hda => ⟨rfl, d, _, by rw [upd_ne hda.symm, upd_ne hda.symm]; exact upd_same, upd_same, by rw [upd_ne hda] at hd; exact hd, ?_⟩⟩⟩
          rw [hlr]
          have er := err3_heap (f1 := "what") (f2 := "many") (f3 := "limit") (v1 := .str "lines") (v2 := nI r.length) (v3 := .int 16) ha hd hda
          exact kmany r.length (by unfold due; rw [if_neg (by omega), if_pos e]) d _ (err2_pre (s01.trans s3) er)
        · refine (if_neg (fun z => e (by
            have z : (16 : Int) < ((r.map V.str).length : Int) := of_decide_eq_true z
            rw [hlr] at z
            omega))).mpr ?_
          exact ⟨_, rfl, s3, htp3, fun _ => c1, fun _ => by omega⟩
    · rintro σ G ⟨x4, rfl, s3, _, c1, c2⟩
      exact ⟨x4, rfl, s3, c1 (by show 1 ≤ 2; decide), c2 (by show 2 ≤ 2; decide)⟩
  rintro σ G2 ⟨x4, rfl, s2, c16, r16⟩
  have hpc2 := s2 _ _ hpc
  have hpr2 := s2 _ _ hpr
  refine ⟨_, rfl, pc, _, rfl, .inl (.inl (.inl hpc2)), ?_⟩
  rw [hlc]
  refine ⟨fun σ G => ∃ D1 : Addr, σ = [some (.str x), some (.str y), some (.ref pc), some (.ref pr), x4, some (nI c.length), some (.ref D1), none, none, none] ∧ Same G2 G ∧ TsAt G D1 c ∧ ∀ (j : Nat) (l : Str), c[j]? = some l → colRow 0 l = 0, ?_, ?_⟩
  · refine ⟨_, rfl, _, rfl, by omega, by omega, fun D hD => ?_⟩
    refine lc_range (lo := 0) (n := c.length) (fun i G => Same G2 G ∧ TsAt G D (c.take i) ∧ ∀ (j : Nat) (l : Str), j < i → c[j]? = some l → colRow 0 l = 0)
      ⟨sNew hD, ⟨[], upd_same, rfl, fun j t l h => by cases h⟩, fun j l h => absurd h (Nat.not_lt_zero _)⟩ ?_ ?_
    · rintro i G hi ⟨s3, hT, hcol⟩
      have ei : c[i]? = some c[i] := List.getElem?_eq_getElem hi
      generalize c[i] = l at ei
      have hll := hcl l (List.mem_of_getElem? ei)
      have hat : atI (c.map V.str) (0 + (i : Int)) = some (V.str l) := by
        rw [Int.zero_add]
        exact atI_nat (by rw [List.getElem?_map, ei]; rfl)
      refine ⟨rfl, _, rfl, _, rfl, pc, _, _, _, rfl, rfl, .inl (.inl (s3 _ _ hpc2)), hat, _, rfl, _, _, rfl, rfl, aC, kC, rfl, atC, fun dC hdC => ?_⟩
      have s4 := sNew (o := .dK (Wd.ents kC)) hdC
      have eL : V.int (0 + (i : Int) + 1) = nI (i + 1) := congrArg V.int (by omega)
      refine ⟨l, _, dC, Pl.hC, rfl, hll, ⟨kC, upd_same, hvC⟩, hC10, fun h0 t G4 s5 ht => ?_, fun k hk hp e G4 hE => ?_⟩
      · rw [Pl.col0] at h0
        obtain ⟨acc, h1, h2, h3⟩ := ts_push hT (s4.trans s5) ht (show G D ≠ none by obtain ⟨ts, h, _⟩ := hT; rw [h]; simp)
        refine ⟨acc, h1, by rw [h2, List.length_take, sizeLine_eq]; omega, fun b o q => ?_, ?_, fun j l2 hj e2 => ?_⟩
        · rw [upd_ne (ne_of_none q hD)]
          exact s5 _ _ (s4 _ _ (s3 _ _ q))
        · rw [List.take_add_one, ei]
          exact h3
        · by_cases e : j = i
          · subst e
            rw [ei] at e2
            obtain rfl := Option.some.inj e2
            exact h0
          · exact hcol j l2 (by omega) e2
      · rw [Pl.col0] at hk
        subst hk
        rw [eL] at hE
        refine ktext (i + 1) (colRow 0 l) (Pl.due_text c16 r16 (Pl.rows_c ei) (fun j q hj eq => ?_) hp) e G4 (err2_pre (s01.trans (s2.trans (s3.trans s4))) hE)
        rcases Pl.rows_cases eq with ⟨l2, e2, rfl⟩ | ⟨i2, l2, e2, _⟩
        · exact hcol j l2 hj e2
        · omega
    · rintro G ⟨s3, hT, hcol⟩
      rw [List.take_length] at hT
      exact ⟨D, rfl, s3, hT, fun j l e => hcol j l (List.getElem?_eq_some_iff.mp e).1 e⟩
  rintro σ G3 ⟨D1, rfl, s3, hT1, hc0⟩
  have hpr3 := s3 _ _ hpr2
  refine ⟨fun σ G => ∃ D2 : Addr, σ = [some (.str x), some (.str y), some (.ref pc), some (.ref pr), x4, some (nI c.length), some (.ref D1), some (.ref D2), none, none] ∧ Same G3 G ∧ TsAt G D2 r ∧ ∀ (j : Nat) (l : Str), r[j]? = some l → colRow (if j = 0 then 1 else 2) l = 0, ?_, ?_⟩
  · refine ⟨_, rfl, pr, _, rfl, .inl (.inl (.inl hpr3)), _, rfl, by omega, by rw [hlr]; omega, fun D hD => ?_⟩
    refine lc_range (lo := 0) (n := (r.map V.str).length) (fun i G => Same G3 G ∧ TsAt G D (r.take i) ∧ ∀ (j : Nat) (l : Str), j < i → r[j]? = some l → colRow (if j = 0 then 1 else 2) l = 0)
      ⟨sNew hD, ⟨[], upd_same, rfl, fun j t l h => by cases h⟩, fun j l h => absurd h (Nat.not_lt_zero _)⟩ ?_ ?_
    · rintro i G hi ⟨s4, hT, hcol⟩
      rw [hlr] at hi
      have ei : r[i]? = some r[i] := List.getElem?_eq_getElem hi
      generalize r[i] = l at ei
      have hll := hrl l (List.mem_of_getElem? ei)
      have hat : atI (r.map V.str) (0 + (i : Int)) = some (V.str l) := by
        rw [Int.zero_add]
        exact atI_nat (by rw [List.getElem?_map, ei]; rfl)
      have eL : V.int ((c.length : Int) + (0 + (i : Int)) + 1) = nI (c.length + i + 1) := congrArg V.int (by omega)
      have fin : ∀ (hs : Hs) (G4 : Hp) (t : Addr) (k : Nat), Same G G4 → colRow k l = 0 → (if i = 0 then 1 else 2) = k → G4 t = some (.tup ((wds l).map V.str)) → ∃ acc, G4 D = some (.lst acc) ∧ acc.length < sizeLine ∧ Same G3 (upd G4 D (.lst (acc ++ [.ref t]))) ∧ TsAt (upd G4 D (.lst (acc ++ [.ref t]))) D (r.take (i + 1)) ∧ ∀ (j : Nat) (l : Str), j < i + 1 → r[j]? = some l → colRow (if j = 0 then 1 else 2) l = 0 := by
        intro hs G4 t k s5 h0 hk ht
        obtain ⟨acc, h1, h2, h3⟩ := ts_push hT s5 ht (show G D ≠ none by obtain ⟨ts, h, _⟩ := hT; rw [h]; simp)
        refine ⟨acc, h1, by rw [h2, List.length_take, sizeLine_eq]; omega, fun b o q => ?_, ?_, fun j l2 hj e2 => ?_⟩
        · rw [upd_ne (ne_of_none q hD)]
          exact s5 _ _ (s4 _ _ q)
        · rw [List.take_add_one, ei]
          exact h3
        · by_cases e : j = i
          · subst e
            rw [ei] at e2
            obtain rfl := Option.some.inj e2
            rw [hk]
            exact h0
          · exact hcol j l2 (by omega) e2
      have bad : ∀ (G4 : Hp) (e : Addr) (k : Nat), (if i = 0 then 1 else 2) = k → 0 < colRow k l → Err2 G G4 e [("column", nI (colRow k l)), ("line", nI (c.length + i + 1))] → E (.ref CT) (some e) G4 := by
        intro G4 e k hk hp hE
        have er := Pl.rows_r (c := c) ei
        rw [hk] at er
        refine ktext (c.length + i + 1) (colRow k l) (Pl.due_text c16 r16 er (fun j q hj eq => ?_) hp) e G4 (err2_pre (s01.trans (s2.trans (s3.trans s4))) hE)
        rcases Pl.rows_cases eq with ⟨l2, e2, rfl⟩ | ⟨i2, l2, e2, e3, rfl⟩
        · exact hc0 j l2 e2
        · exact hcol i2 l2 (by omega) e3
      refine ⟨rfl, _, rfl, _, rfl, pr, _, _, _, rfl, rfl, .inl (.inl (s4 _ _ hpr3)), hat, _, rfl, _, rfl, _, _, rfl, rfl, _, _, rfl, rfl, _, rfl, rfl, _, rfl, ?_⟩
      by_cases e0 : i = 0
      · refine (if_pos (decide_eq_true (congrArg V.int (by omega)))).mpr ?_
        refine ⟨aT, kT, rfl, atT, fun dC hdC => ?_⟩
        have s5 := sNew (o := .dK (Wd.ents kT)) hdC
        refine ⟨l, _, dC, Pl.hT, rfl, hll, ⟨kT, upd_same, hvT⟩, hT10, fun h0 t G4 s6 ht => ?_, fun k hk hp e G4 hE => ?_⟩
        · rw [Pl.col1] at h0
          exact fin Pl.hT G4 t 1 (s5.trans s6) h0 (if_pos e0) ht
        · rw [Pl.col1] at hk
          subst hk
          rw [eL] at hE
          exact bad G4 e 1 (if_pos e0) hp (err2_pre s5 hE)
      · refine (if_neg (fun z => e0 (by
          have z := V.int.inj (of_decide_eq_true z)
          omega))).mpr ?_
        refine ⟨aR, kR, rfl, atR, fun dC hdC => ?_⟩
        have s5 := sNew (o := .dK (Wd.ents kR)) hdC
        refine ⟨l, _, dC, Pl.hR, rfl, hll, ⟨kR, upd_same, hvR⟩, hR10, fun h0 t G4 s6 ht => ?_, fun k hk hp e G4 hE => ?_⟩
        · rw [Pl.col2] at h0
          exact fin Pl.hR G4 t 2 (s5.trans s6) h0 (if_neg e0) ht
        · rw [Pl.col2] at hk
          subst hk
          rw [eL] at hE
          exact bad G4 e 2 (if_neg e0) hp (err2_pre s5 hE)
    · rintro G ⟨s4, hT, hcol⟩
      rw [hlr, List.take_length] at hT
      exact ⟨D, rfl, s4, hT, fun j l e => hcol j l (by rw [hlr]; exact (List.getElem?_eq_some_iff.mp e).1) e⟩
  rintro σ G4 ⟨D2, rfl, s4, hT2, hr0⟩
  have hdue := Pl.due_end c16 r16 hc0 hr0
  have hT1 := ts_same hT1 s4
  refine ⟨fun σ G => ∃ D3 : Addr, σ = [some (.str x), some (.str y), some (.ref pc), some (.ref pr), x4, some (nI c.length), some (.ref D1), some (.ref D2), some (.ref D3), none] ∧ Same G4 G ∧ G D3 = some (.lst ((tellsOf c).map nI)), ?_, ?_⟩
  · refine ⟨_, rfl, _, rfl, by omega, by omega, fun D hD => ?_⟩
    refine lc_range (lo := 0) (n := c.length) (fun i G => Same G4 G ∧ G D = some (.lst (((List.range i).filter fun j : Nat => decide (c[j]? = some ("tell" : Str))).map nI))) ⟨sNew hD, upd_same⟩ ?_ ?_
    · rintro i G hi ⟨s5, hD5⟩
      have ei : c[i]? = some c[i] := List.getElem?_eq_getElem hi
      generalize c[i] = l at ei
      have hAl := hA l (List.mem_of_getElem? ei)
      obtain ⟨ts, h1, h2, h3⟩ := hT1
      have et : ts[i]? = some ts[i] := List.getElem?_eq_getElem (by omega)
      generalize ts[i] = t at et
      have hat : atI (ts.map V.ref) (0 + (i : Int)) = some (V.ref t) := by
        rw [Int.zero_add]
        exact atI_nat (by rw [List.getElem?_map, et]; rfl)
      refine ⟨rfl, _, rfl, _, rfl, D1, _, _, _, rfl, rfl, .inl (.inl (s5 _ _ h1)), hat, by show 1 ≤ sizeLine; rw [sizeLine_eq]; decide, fun tp htp => ?_⟩
      have s6 := sNew (o := .tup [.str "tell"]) htp
      have ht := s6 _ _ (s5 _ _ (h3 i t l et ei))
      have hA1 : ∀ w ∈ wds l, As w := fun w hw cc hc => hAl cc (Pl.wd_sub hw cc hc)
      refine ⟨.tuple ((wds l).map PyData.str), .tuple ((["tell"] : List Str).map PyData.str), .tup (.inl (.inl ht)) (dpS _), .tup (.inl (.inl upd_same)) (dpS ["tell"]), shapT _ hA1, shapT ["tell"] as_tell, _, rfl, ?_⟩
      rw [eqvTS, Pl.tell_iff]
      have ef : (List.range (i + 1)).filter (fun j : Nat => decide (c[j]? = some ("tell" : Str))) = (List.range i).filter (fun j : Nat => decide (c[j]? = some ("tell" : Str))) ++ (if l = "tell" then [i] else []) := by
        rw [List.range_succ, List.filter_append, filt1, ei]
        by_cases e : l = "tell"
        · rw [if_pos e, if_pos (by rw [e]; simp)]
        · rw [if_neg e, if_neg (by simp [e])]
      by_cases e : l = "tell"
      · refine (if_pos (decide_eq_true e)).mpr ?_
        rw [if_pos e] at ef
        refine ⟨_, rfl, _, s6 _ _ hD5, ?_, fun b o q => ?_, ?_⟩
        · have := List.length_filter_le (fun j : Nat => decide (c[j]? = some ("tell" : Str))) (List.range i)
          rw [List.length_range] at this
          rw [List.length_map, sizeLine_eq]
          omega
        · rw [upd_ne (ne_of_none q hD)]
          exact s6 _ _ (s5 _ _ q)
        · rw [upd_same, ef, List.map_append]
          show some (HO.lst (_ ++ [V.int (0 + (i : Int))])) = _
          rw [Int.zero_add]
          rfl
      · refine (if_neg (by rw [decide_eq_false e]; decide)).mpr ?_
        rw [if_neg e, List.append_nil] at ef
        rw [ef]
        exact ⟨s5.trans s6, s6 _ _ hD5⟩
    · rintro G ⟨s5, hD5⟩
      exact ⟨D, rfl, s5, hD5⟩
  rintro σ G5 ⟨D3, rfl, s5, hD3⟩
  obtain ⟨ts1, hD1, hn1, _⟩ := hT1
  obtain ⟨ts2, hD2, hn2, _⟩ := hT2
  have hD1 := s5 _ _ hD1
  have hD2 := s5 _ _ hD2
  have sA := s01.trans (s2.trans (s3.trans (s4.trans s5)))
  have htl : (tellsOf c).length ≤ 16 := by
    have := List.length_filter_le (fun i => decide (c[i]? = some ("tell" : Str))) (List.range c.length)
    rw [List.length_range] at this
    exact Nat.le_trans this c16
  generalize tellsOf c = te at *
  refine ⟨_, rfl, D3, _, rfl, .inl (.inl (.inl hD3)), _, _, rfl, rfl, _, rfl, ?_⟩
  match te, hdue, hD3 with
  | a :: b :: rest, hdue, hD3 =>
    refine (if_pos (decide_eq_true (by rw [List.length_map]; simp only [List.length_cons]; omega))).mpr ?_
    refine ⟨_, rfl, D3, _, _, _, rfl, rfl, .inl (.inl hD3), atI_nat (j := 1) rfl, _, _, rfl, rfl, (by show 2 ≤ 1000; decide), fun ea hea => ⟨ea, _, _, rfl, upd_same, fun d hd hda => ⟨rfl, d, _, by rw [upd_ne hda.symm]; exact upd_same, upd_same, by rw [upd_ne hda] at hd; exact hd, ?_⟩⟩⟩
    have er := err2_heap (f1 := "line") (f2 := "column") (v1 := .int ((b : Int) + 1)) (v2 := .int 1) hea hd hda
    exact ktext (b + 1) 1 hdue d _ (err2_pre sA er)
  | [], hdue, hD3 =>
    refine (if_neg (by decide)).mpr ?_
    refine ⟨_, rfl, D3, _, rfl, .inl (.inl (.inl hD3)), rfl, _, rfl, ?_⟩
    refine (if_pos (by decide)).mpr ?_
    refine ⟨_, rfl, _, _, rfl, rfl, (by show 2 ≤ 1000; decide), fun ea hea => ⟨ea, _, _, rfl, upd_same, fun d hd hda => ⟨rfl, d, _, by rw [upd_ne hda.symm]; exact upd_same, upd_same, by rw [upd_ne hda] at hd; exact hd, ?_⟩⟩⟩
    have er := err2_heap (f1 := "line") (f2 := "column") (v1 := .int ((c.length : Int) + 1)) (v2 := .int 1) hea hd hda
    exact ktext (c.length + 1) 1 hdue d _ (err2_pre sA er)
  | [a], hdue, hD3 =>
    refine (if_neg (by show ¬ decide ((1 : Int) < 1) = true; decide)).mpr ?_
    refine ⟨_, rfl, D3, _, rfl, .inl (.inl (.inl hD3)), rfl, _, rfl, ?_⟩
    refine (if_neg (by show ¬ decide (V.int 1 = V.int 0) = true; decide)).mpr ?_
    refine ⟨_, rfl, D2, _, rfl, .inl (.inl (.inl hD2)), rfl, _, rfl, ?_⟩
    by_cases er0 : r = []
    · refine (if_pos (decide_eq_true (congrArg V.int (by rw [List.length_map, hn2, er0]; rfl)))).mpr ?_
      have hdue : due c r = .text (c.length + 1) 1 := hdue.trans (if_pos er0)
      refine ⟨_, rfl, _, _, rfl, rfl, (by show 2 ≤ 1000; decide), fun ea hea => ⟨ea, _, _, rfl, upd_same, fun d hd hda => ⟨rfl, d, _, by rw [upd_ne hda.symm]; exact upd_same, upd_same, by rw [upd_ne hda] at hd; exact hd, ?_⟩⟩⟩
      have er := err2_heap (f1 := "line") (f2 := "column") (v1 := .int ((c.length : Int) + 1)) (v2 := .int 1) hea hd hda
      exact ktext (c.length + 1) 1 hdue d _ (err2_pre sA er)
    · refine (if_neg (fun z => er0 (List.eq_nil_of_length_eq_zero (by
        have z := V.int.inj (of_decide_eq_true z)
        rw [List.length_map, hn2] at z
        omega)))).mpr ?_
      have hdue : due c r = .ok := hdue.trans (if_neg er0)
      refine ⟨_, rfl, D1, _, rfl, .inl ⟨.inl (.inl hD1), fun t1 ht1 => ?_⟩⟩
      have u1 := sNew (o := .tup (ts1.map V.ref)) ht1
      refine ⟨_, rfl, D2, _, rfl, .inl ⟨.inl (.inl (u1 _ _ hD2)), fun t2 ht2 => ?_⟩⟩
      have u2 := sNew (o := .tup (ts2.map V.ref)) ht2
      refine ⟨by show 2 ≤ sizeLine; rw [sizeLine_eq]; decide, fun t ht => ?_⟩
      exact kok hdue t t1 t2 _ (sA.trans (u1.trans (u2.trans (sNew ht)))) upd_same
end
end Wq
set_option Elab.async false
set_option linter.all false
set_option maxRecDepth 100000
set_option maxHeartbeats 4000000
set_option exponentiation.threshold 5000
namespace Wq
open PySem PySem.Spec PyProof.Rows L2
section
variable {prog : Program} {w : World} {A : Around} {E : Value → Shared → Prop} {s : Shared} {K : PySem.W.Frag} {x C f : Addr} {ox : Obj} {od : Option Obj} {b tb : Value}
open PySem.W in
theorem ne_own {Q : Value → Shared → Prop} (hu : A.units < cLine) (hu1 : A.in1.units < cLine) (X : K.In s.heap) (I : InstAt s.heap x ox C od) (hb : Looks (model prog w) s.heap (typeOf b) tb) (hn : notFirst K C tb = true)
    (hne : findIn K (.ref C) "__ne__" = some (some (.builtin "object.__ne__"))) (hm : mroIn K C (.type "object") = some true) (hs : findIn K (.ref C) "__eq__" = some (some (.ref f))) (hf : isFn K (.ref f) = true)
    (h : wpAny (model prog w) A.in1 (call (.ref f) [.ref x, b]) (fun v s' => ∃ r, v = .bool r ∧ Q (.bool (!r)) s') E s) : wpAny (model prog w) A (richCompare .NotEq (.ref x) b) Q E s := by
  have one : wpAny (model prog w) A (tryCompare (.ref x) "__ne__" b) (fun r s' => ∃ v, r = some v ∧ Q v s') E s := by
    have cl : wpAny (model prog w) A (call (.builtin "object.__ne__") [.ref x, b]) (fun v s' => v ≠ .notImplemented ∧ Q v s') E s := by
      refine wpAny_call (codeAny_call_builtin PySem.F.slot_object_ne.plain PySem.F.entry_object_ne (check_slot (i := "object.__ne__") (owner := "object") (n := "__ne__") (by decide +kernel) (by decide +kernel) (I.type.andThen (looks_mroIn X hm)) (PySem.F.args_object_ne_2 _ _) ?_))
      unfold Builtin.«object.__ne__»
      refine wpAny_bind (m := slotArgs "__ne__" 1 _) (wpAny_pure ?_)
      refine wpAny_bind (m := cRoomFor _ _) (wpAny_cRoomFor hu1 ?_)
      refine wpAny_bind (m := callSpecialIfBound? (.ref x) (Str.ofString "__eq__") _) (ifBound_K X I hs hf (wpAny_mono h (fun v s' hq => ?_) fun _ _ y => y))
      obtain ⟨r, rfl, q⟩ := hq
      refine wpAny_bind (wpAny_truthy_bool ?_)
      exact wpAny_pure ⟨(fun z => by cases z), q⟩
    unfold tryCompare
    simp only [callSpecialIfBound?, bindSpecialIfBound?]
    refine wpAny_bind (wpAny_holding (wpAny_bind (wpAny_bind (wpAny_bind (I.type.here ((looks_findIn X hne).here ?_))))))
    refine wpAny_bind (wpAny_askSetting (wpAny_ite ?_))
    have fin : ∀ {Q' : Option Value → Shared → Prop}, (∀ v s', v ≠ .notImplemented → Q v s' → Q' (some v) s') → wpAny (model prog w) A (call (.builtin "object.__ne__") ([.ref x] ++ [b]) >>= fun v => pure (some v)) Q' E s := fun hq => wpAny_bind (wpAny_mono cl (fun v s' z => wpAny_pure (hq v s' z.1 z.2)) fun _ _ z => z)
    have out : ∀ v s', v ≠ .notImplemented → Q v s' → wpAny (model prog w) A (match some v with | some .notImplemented | none => pure none | some v => pure (some v)) (fun r s' => ∃ v, r = some v ∧ Q v s') E s' := by
      intro v s' hv hq
      cases v <;> first | exact absurd rfl hv | exact wpAny_pure ⟨_, rfl, hq⟩
    split
    · exact wpAny_bind ((Looks.of_pure (PySem.F.slot_object_ne.bind (.ref x))).here (wpAny_pure (fin out)))
    · exact wpAny_tryCatch (wpAny_bind ((Looks.of_pure (PySem.F.slot_object_ne.bind (.ref x))).here (wpAny_pure (fin out))))
  unfold richCompare
  simp only [oneThing_ref]
  refine wpAny_holding (wpAny_bind (wpAny_cRoomFor hu ?_))
  refine wpAny_bind (I.type.here (wpAny_bind (hb.here ?_)))
  split
  · rename_i q
    have e : subIn K tb (.ref C) = some false := by
      rcases Bool.or_eq_true_iff.mp hn with e | e
      · rw [beq_iff_eq.mp e] at q; simp at q
      · exact beq_iff_eq.mp e
    refine wpAny_bind ((looks_subIn X e).here ?_)
    simp only [Bool.false_eq_true, if_false]
    refine wpAny_bind (wpAny_mono one (fun r s' z => ?_) fun _ _ e => e)
    obtain ⟨v, rfl, hq⟩ := z
    exact wpAny_pure hq
  · refine wpAny_bind (wpAny_pure ?_)
    simp only [Bool.false_eq_true, if_false]
    refine wpAny_bind (wpAny_mono one (fun r s' z => ?_) fun _ _ e => e)
    obtain ⟨v, rfl, hq⟩ := z
    exact wpAny_pure hq
end
/-- what an own == meets: one of its own, or a tuple -/
def Oth (C : Addr) (H : Hp) (y : V) : Prop := (∃ b dy gs, y = .ref b ∧ H b = some (.ins C dy gs)) ∨ ∃ b xs, y = .ref b ∧ H b = some (.tup xs)
structure EqC (K : PySem.W.Frag) (C f : Addr) : Prop where
  hs : PySem.W.findIn K (.ref C) "__eq__" = some (some (.ref f))
  hf : PySem.W.isFn K (.ref f) = true
  nt : PySem.W.subIn K (.type "tuple") (.ref C) = some false
  ne : PySem.W.findIn K (.ref C) "__ne__" = some (some (.builtin "object.__ne__"))
  hm : PySem.W.mroIn K C (.type "object") = some true
theorem oth_type {X : Cx} {C f : Addr} {pins : List (Addr × Obj)} {σ : L2.St} {H : Hp} {s : Shared} {y : V} {u : Value} (B : EqC X.K C f) (I : Inv X pins σ H s) (h : Oth C H y) (ry : RelV y u) :
    ∃ tb, PySem.W.Looks (model X.prog X.w) s.heap (typeOf u) tb ∧ PySem.W.notFirst X.K C tb = true := by
  rcases h with ⟨b, dy, gs, rfl, hb⟩ | ⟨b, xs, rfl, hb⟩
  · obtain rfl : u = Value.ref b := ry
    obtain ⟨mB, J2, _⟩ := ins_get I.hok hb
    obtain ⟨od2, J2, _⟩ := J2.look
    exact ⟨_, J2.type, by simp [PySem.W.notFirst]⟩
  · obtain rfl : u = Value.ref b := ry
    obtain ⟨its, rv, ⟨o, ho, hc, n, hd⟩, _⟩ := I.tuple (.inl (.inl hb))
    refine ⟨.type "tuple", fun A Q E s k q => ?_, by simp [PySem.W.notFirst, B.nt]⟩
    exact wpAny_typeOf_ref (k _ _ ho) (by rw [hc]; exact q)
theorem not_ni {z : V} {q : Value} (rz : RelV z q) : q ≠ .notImplemented := by
  intro e
  subst e
  cases z <;> first | (obtain ⟨t, e⟩ := rz; cases e; done) | (cases rz; done)
/-- a function run below the running body -/
theorem run_sub {X : Cx} {CX : CXT} {k : Nat} {f : Addr} {fd : FuncData} {ps : List Str} {sp : Sp} {E : XK} {A : Around} {pins : List (Addr × Obj)} {σ : L2.St} {H : Hp} {s : Shared} {Q : VK} {us : List Value} {vs : List V} (F : FnOk X.prog X.w X.K X.mg X.base CX k f fd ps sp) (sb : Sub X k A) (hb : Binds X.K fd ps [])
    (hx : Passes CX X E) (I : Inv X pins σ H s) (r : Vals vs us) (h : sp vs H Q E) : wpAny (model X.prog X.w) A (call (.ref f) us) (EP X pins σ Q) X.xe s := by
  have hl : us.length = ps.length := by rw [← r.length]; exact F.len _ _ _ _ h
  have b := hb s us I.kIn (by rw [List.append_nil]; exact hl)
  rw [List.append_nil] at b
  have e0 : Env0 X.prog X.w X.K X.mg X.base A X.stack s H := by
    have e := I.env0
    exact ⟨by rw [sb.fr]; exact e.frames, e.mod, e.bs, e.bsz, e.funs, e.frf, e.hok, e.bare⟩
  refine wpAny_call (codeAny_mono (F.run A X.stack s H ⟨us, []⟩ us vs Q E sb.room e0 b r h) fun r s' hq => ?_)
  cases r with
  | error e => exact hx pins σ H s e s' I hq
  | ok fl =>
    cases fl with
    | ret u => exact I.after hq
    | next => exact False.elim hq
    | brk => exact False.elim hq
    | cont => exact False.elim hq
def rEqO (C : Addr) (sp : Sp) (E : XK) : R2 := fun x y H Q => ∃ a dx fs, x = .ref a ∧ H a = some (.ins C dx fs) ∧ Oth C H y ∧ sp [x, y] H Q E
def rNeO (C : Addr) (sp : Sp) (E : XK) : R2 := fun x y H Q => ∃ a dx fs, x = .ref a ∧ H a = some (.ins C dx fs) ∧ Oth C H y ∧ sp [x, y] H (fun v H' => ∃ r, v = .bl r ∧ Q (.bl (!r)) H') E
section
variable {X : Cx} {CX : CXT} {k : Nat} {f C : Addr} {fd : FuncData} {ps : List Str} {sp : Sp} {E : XK}
theorem op_eqO (B : EqC X.K C f) (F : FnOk X.prog X.w X.K X.mg X.base CX k f fd ps sp) (hr : Room k X.A) (hb : Binds X.K fd ps []) (hx : Passes CX X E) : OpR X (compareOp .Eq) (rEqO C sp E) := by
  intro pins s σ H x y v u Q I rx ry h
  obtain ⟨a, dx, fs, rfl, ha, hy, hsp⟩ := h
  obtain rfl : v = Value.ref a := rx
  obtain ⟨mA, J, _⟩ := ins_get I.hok ha
  obtain ⟨od, J, _⟩ := J.look
  obtain ⟨tb, ht, hn⟩ := oth_type B I hy ry
  obtain ⟨m, hF⟩ := I.fr
  show wpAny _ _ (richCompare .Eq _ _) _ _ _
  refine PySem.W.cmp_K (op := .Eq) (tb := tb) hr.units0 hF I.ok.mod.kin J ht hn B.hs B.hf ?_
  refine wpAny_mono (run_fn (us := [.ref a, u]) (vs := [.ref a, y]) F hr hb .nil hx I (.cons rfl (.cons ry .nil)) hsp) (fun v s' z => ?_) fun _ _ e => e
  obtain ⟨z, H1, I1, rz, q⟩ := z
  have nn := not_ni rz
  unfold PySem.W.CmpBack
  split
  · exact nn rfl
  · exact ⟨z, H1, I1, rz, q⟩
theorem op_neO (B : EqC X.K C f) (F : FnOk X.prog X.w X.K X.mg X.base CX k f fd ps sp) (hr : Room (k + 1) X.A) (hb : Binds X.K fd ps []) (hx : Passes CX X E) : OpR X (compareOp .NotEq) (rNeO C sp E) := by
  intro pins s σ H x y v u Q I rx ry h
  obtain ⟨a, dx, fs, rfl, ha, hy, hsp⟩ := h
  obtain rfl : v = Value.ref a := rx
  obtain ⟨mA, J, _⟩ := ins_get I.hok ha
  obtain ⟨od, J, _⟩ := J.look
  obtain ⟨tb, ht, hn⟩ := oth_type B I hy ry
  show wpAny _ _ (richCompare .NotEq _ _) _ _ _
  refine ne_own hr.units0 hr.in1.units0 I.kIn J ht hn B.ne B.hm B.hs B.hf ?_
  refine wpAny_mono (run_sub (A := X.A.in1) (us := [.ref a, u]) (vs := [.ref a, y]) F ⟨hr.in1, rfl⟩ hb hx I (.cons rfl (.cons ry .nil)) hsp) (fun v s' z => ?_) fun _ _ e => e
  obtain ⟨z, H1, I1, rz, r, rfl, q⟩ := z
  obtain rfl : v = Value.bool r := rz
  exact ⟨r, rfl, .bl (!r), H1, I1, rfl, q⟩
end
end Wq
set_option Elab.async false
set_option linter.all false
set_option maxRecDepth 100000
set_option maxHeartbeats 2000000
namespace Wq
open PySem PySem.Spec PyProof.Rows L2
open Pl (Ws wds lns linesIn Hs behind mostW manyOf LST colP colRow firstBad pOk off due Due rowsOf tellsOf)
structure TxtC (K : PySem.W.Frag) (mg : Str → Option Value) (C : Addr) : Prop where
  cl : Cls K C
  na : ∀ f ∈ (["commit_lines", "recovery_lines", "commit", "recovery"] : List Str), NoAttr K C f
  gC : mg "CommitProtocol" = some (.ref C)
  gPC : ∃ t, mg "PLAIN_COMMIT" = some (.str "write new\nsync new\nwrite next\nsync next\nsync names\nrename next list\nsync names\ntell\nremove dropped" t)
  gPR : ∃ t, mg "PLAIN_RECOVERY" = some (.str "take list\nsync names\nremove stray" t)
structure TxtQ (K : PySem.W.Frag) (C : Addr) : Prop where
  ha : PySem.W.findIn K (.ref C) "__class__" = some (some (.builtin "object.__class__"))
  hn : PySem.W.specialIn K (.builtin "object.__class__") "__get__" = some (some (.builtin "getset_descriptor.__get__"))
  htk : PySem.W.takesIn K (.builtin "object.__class__") = some true
  hm : PySem.W.mroIn K C (.type "object") = some true
  kT : PySem.W.kitOne K (.type "tuple") (.ref C) = some false
def cf (a b : Addr) (x y : Str) : List (Str × V) := [("commit_lines", .ref a), ("recovery_lines", .ref b), ("commit", .str x), ("recovery", .str y)]
def CpAt (C : Addr) (H : Hp) (p : Addr) (x y : Str) : Prop := ∃ dx a b, H p = some (.ins C dx (cf a b x y))
theorem CpAt.same {C : Addr} {H G : Hp} {p : Addr} {x y : Str} (h : CpAt C H p x y) (s : Same H G) : CpAt C G p x y := by
  obtain ⟨dx, a, b, e⟩ := h
  exact ⟨dx, a, b, s _ _ e⟩
abbrev sCI : Stmt := inClass (top 19) 0
theorem scCI : FnScope ["self", "commit", "recovery"] ["self", "commit", "recovery"] (defScope sCI) := ⟨rfl, rfl, rfl, by decide +kernel, rfl, by decide +kernel, by decide +kernel⟩
def spCI (C CT CM : Addr) : Sp := fun vs H Q E => ∃ (p dx : Addr) (x y : Str), vs = [.ref p, .str x, .str y] ∧ H p = some (.ins C dx []) ∧ x.length ≤ 100000 ∧ y.length ≤ 100000 ∧ (∀ l ∈ linesIn x, As l) ∧
  (due (linesIn x) (linesIn y) = .ok → ∀ G, SameP p H G → CpAt C G p x y → Q .non G) ∧
  (∀ n, due (linesIn x) (linesIn y) = .many n → ∀ e G, Err2 H G e [("limit", .int 16), ("many", nI n), ("what", .str "lines")] → E (.ref CM) (some e) G) ∧
  (∀ l k, due (linesIn x) (linesIn y) = .text l k → ∀ e G, Err2 H G e [("column", nI k), ("line", nI l)] → E (.ref CT) (some e) G)
section
variable {P : Program} {w : World} {K : PySem.W.Frag} {mg : Str → Option Value} {base : Heap} {C CT CM : Addr}
theorem ok_CI {f : Addr} {fd : FuncData} (F : Fun K "__init__" "CommitProtocol.__init__" sCI f fd) (TC : TxtC K mg C) (CR : Cle P w K mg base 4 "read_protocol" (spRP CT CM)) : FnOk P w K mg base (L2.CX P w) 5 f fd ["self", "commit", "recovery"] (spCI C CT CM) := by
  obtain ⟨g, gd, ps, G, hm, kp, hb⟩ := CR.ex
  refine F.okX scCI (fun vs H Q E h => ?_) (fun cdv A outer s H vs Q E hr h => ?_)
  · obtain ⟨p, dx, x, y, rfl, _⟩ := h
    rfl
  obtain ⟨p, dx, x, y, rfl, hH, hx, hy, hA, k1, k2, k3⟩ := h
  refine ⟨_, pss_cons (ps_asg (pe_call G hr rfl hm kp hb .nil (passes_call (takes_of rfl rfl rfl rfl) (fun _ _ _ _ h => h)) (pa_cons (pv 1) (pa_cons (pv 2) pa_nil))) (pg_tup (by rfl) (pgs_cons (pg_fld (pv 0)) (pgs_cons (pg_fld (pv 0)) pgs_nil))))
(pss_cons (ps_fld (pv 0) (pv 1) rfl)
(pss_one (ps_fld (pv 0) (pv 2) rfl))), ?_⟩
  refine ⟨_, rfl, _, rfl, x, y, rfl, hx, hy, hA, fun hd t a b G1 s1 ht => ?_, k2, k3⟩
  refine ⟨t, _, rfl, .inl (.inl ht), rfl, _, _, rfl, _, rfl, p, C, dx, [], rfl, s1 _ _ hH, TC.cl, TC.na _ (by decide), by show 0 < 1000; decide, ?_⟩
  refine ⟨_, _, rfl, _, rfl, p, C, dx, _, rfl, upd_same, TC.cl, TC.na _ (by decide), by show 1 < 1000; decide, ?_⟩
  refine ⟨rfl, _, rfl, _, rfl, p, C, dx, _, rfl, upd_same, TC.cl, TC.na _ (by decide), by show 2 < 1000; decide, ?_⟩
  refine ⟨_, rfl, _, rfl, p, C, dx, _, rfl, upd_same, TC.cl, TC.na _ (by decide), by show 3 < 1000; decide, ?_⟩
  refine k1 hd _ (fun b o e n => by rw [upd_ne n, upd_ne n, upd_ne n, upd_ne n]; exact s1 b o e) ⟨dx, a, b, ?_⟩
  rw [upd_same]
  rfl
theorem cp_ty (TC : TxtC K mg C) (TQ : TxtQ K C) {H : Hp} {p : Addr} {x y : Str} (h : CpAt C H p x y) : TyX K H (.ref p) (.ref C) := by
  obtain ⟨dx, a, b, e⟩ := h
  exact .base (.ins e TC.cl TQ.ha TQ.hn TQ.htk TQ.hm)
theorem kit_self {K : PySem.W.Frag} {C : Addr} : PySem.W.kitOne K (.ref C) (.ref C) = some true := by
  unfold PySem.W.kitOne
  simp
abbrev sEQ : Stmt := inClass (top 19) 1
theorem scEQ : FnScope ["self", "other"] ["self", "other"] (defScope sEQ) := ⟨rfl, rfl, rfl, by decide +kernel, rfl, by decide +kernel, by decide +kernel⟩
def spEQ (C : Addr) : Sp := fun vs H Q _ => ∃ (a : Addr) (x y : Str) (v : V), vs = [.ref a, v] ∧ CpAt C H a x y ∧
  ((∃ (b : Addr) (x' y' : Str), v = .ref b ∧ CpAt C H b x' y' ∧ Q (.bl (decide (x = x') && decide (y = y'))) H) ∨ (∃ b xs, v = .ref b ∧ H b = some (.tup xs) ∧ Q (.bl false) H))
theorem str_dec (x y : Str) : decide (V.str x = V.str y) = decide (x = y) := by
  by_cases e : x = y
  · rw [e, decide_eq_true rfl, decide_eq_true rfl]
  · rw [decide_eq_false e, decide_eq_false fun z => e (V.str.inj z)]
theorem ok_EQ {isn : mg "isinstance" = none} {f : Addr} {fd : FuncData} (F : Fun K "__eq__" "CommitProtocol.__eq__" sEQ f fd) (TC : TxtC K mg C) (TQ : TxtQ K C) : FnOk P w K mg base CX0 1 f fd ["self", "other"] (spEQ C) := by
  refine F.ok scEQ (fun vs H Q E h => ?_) (fun cdv A outer s H vs Q E hr h => ?_)
  · obtain ⟨a, x, y, v, rfl, _⟩ := h
    rfl
  obtain ⟨a, x, y, v, rfl, ha, h⟩ := h
  refine ⟨_, pss_cons (ps_if (pt_not (pt_val (pe_callB call_isi (by rfl) (by exact isn) (by decide +kernel) (pa_cons (pv 1) (pa_cons (pe_glob rfl (by exact TC.gC) (v := .ref C) rfl) pa_nil)))))
(pss_one (ps_ret pe_bl))
pss_nil)
(pss_one (ps_ret (pe_and (pe_cmpR op_eq (pe_fld (pv 0) rfl) (pe_fld (pv 1) rfl) (nomark _)) (pe_one (pe_cmpR op_eq (pe_fld (pv 0) rfl) (pe_fld (pv 1) rfl) (nomark _)))))), ?_⟩
  rcases h with ⟨b, x', y', rfl, hb, k⟩ | ⟨b, xs, rfl, hb, k⟩
  · refine ⟨_, rfl, _, _, _, _, _, rfl, .own C, cp_ty TC TQ hb, kit_self, true, rfl, ?_⟩
    refine (if_neg (by decide)).mpr ?_
    obtain ⟨d1, a1, b1, h1⟩ := ha
    obtain ⟨d2, a2, b2, h2⟩ := hb
    refine ⟨_, rfl, a, C, d1, _, _, rfl, h1, TC.cl, TC.na _ (by decide), rfl, _, rfl, b, C, d2, _, _, rfl, h2, TC.cl, TC.na _ (by decide), rfl, rfl, _, rfl, ?_⟩
    rw [str_dec]
    by_cases e : x = x'
    · rw [decide_eq_true e] at k ⊢
      refine (if_pos rfl).mpr ?_
      refine ⟨_, rfl, a, C, d1, _, _, rfl, h1, TC.cl, TC.na _ (by decide), rfl, _, rfl, b, C, d2, _, _, rfl, h2, TC.cl, TC.na _ (by decide), rfl, rfl, ?_⟩
      rw [str_dec]
      rw [Bool.true_and] at k
      exact k
    · rw [decide_eq_false e] at k ⊢
      refine (if_neg (by decide)).mpr ?_
      rw [Bool.false_and] at k
      exact k
  · refine ⟨_, rfl, _, _, _, _, _, rfl, .own C, .base (.tup hb), TQ.kT, false, rfl, ?_⟩
    refine (if_pos (by decide)).mpr ?_
    exact k
abbrev sPP : Stmt := top 20
theorem scPP : FnScope [] [] (defScope sPP) := ⟨rfl, rfl, rfl, by decide +kernel, rfl, by decide +kernel, by decide +kernel⟩
def zPC : Str := "write new\nsync new\nwrite next\nsync next\nsync names\nrename next list\nsync names\ntell\nremove dropped"
def zPR : Str := "take list\nsync names\nremove stray"
def isOk : Pl.Due → Bool
  | .ok => true
  | _ => false
theorem ok_of : ∀ {d : Pl.Due}, isOk d = true → d = .ok
  | .ok, _ => rfl
  | .many _, h => by cases h
  | .text _ _, h => by cases h
theorem plain_ok : due (linesIn zPC) (linesIn zPR) = .ok := ok_of (by decide +kernel)
theorem plain_as : ∀ l ∈ linesIn zPC, As l := by
  unfold As
  decide +kernel
def spPP (C : Addr) : Sp := fun vs H Q _ => vs = [] ∧ ∀ p G, Same H G → CpAt C G p zPC zPR → Q (.ref p) G
theorem made_same {H G : Hp} {x dx : Addr} {o1 o2 : HO} (hx : H x = none) (hd : H dx = none) (s : SameP x (upd (upd H dx o1) x o2) G) : Same H G := fun b o e => by
  have n1 : b ≠ x := ne_of_none e hx
  have n2 : b ≠ dx := ne_of_none e hd
  exact s b o (by rw [upd_ne n1, upd_ne n2]; exact e) n1
/-- a protocol made of right texts -/
theorem make_ok {K : PySem.W.Frag} {C CT CM : Addr} {x y : Str} {H : Hp} {R : VK} {E : XK} (h0 : due (linesIn x) (linesIn y) = .ok) (hx0 : x.length ≤ 100000) (hy0 : y.length ≤ 100000) (hA : ∀ l ∈ linesIn x, As l) {p dx : Addr} (hp : H p = none) (hdx : H dx = none) (k : ∀ G, Same H G → CpAt C G p x y → R .non G) :
    spCI C CT CM [.ref p, .str x, .str y] (upd (upd H dx (.own p)) p (.ins C dx [])) R E := by
  refine ⟨p, dx, x, y, rfl, upd_same, hx0, hy0, hA, fun _ G s hG => k G (made_same hp hdx s) hG, fun n e => ?_, fun l k e => ?_⟩
  · rw [h0] at e
    cases e
  · rw [h0] at e
    cases e
theorem ok_PP {f0 : Addr} {fd0 : FuncData} (D : DefAt K mg "plain_protocol" sPP) (TC : TxtC K mg C) (M0 : Mk K C f0) (G0 : FnOk P w K mg base (L2.CX P w) 5 f0 fd0 ["self", "commit", "recovery"] (spCI C CT CM)) (b0 : L2.Binds K fd0 ["self", "commit", "recovery"] []) : Cl P w K mg base 7 "plain_protocol" (spPP C) := by
  refine cl_of D scPP (fun vs H Q E h => ?_) (fun _ _ _ _ _ _ us hl => match us, hl with | [], _ => rfl) (fun f cdv A1 outer s H vs Q E hr h => ?_)
  · obtain ⟨rfl, _⟩ := h
    rfl
  obtain ⟨rfl, k⟩ := h
  obtain ⟨tC1, gPC⟩ := TC.gPC
  obtain ⟨tR1, gPR⟩ := TC.gPR
  refine ⟨_, pss_one (ps_ret (pe_make M0 G0 hr rfl (by exact TC.gC) b0 .nil passF (pa_cons (pgs (by exact gPC)) (pa_cons (pgs (by exact gPR)) pa_nil)))), ?_⟩
  intro p dx hp hdx hne
  exact make_ok (K := K) plain_ok (by decide +kernel) (by decide +kernel) plain_as hp hdx fun G s h => ⟨rfl, k p G s h⟩
end
end Wq
set_option Elab.async false
set_option linter.all false
set_option maxRecDepth 100000
set_option maxHeartbeats 2000000
namespace Wq
open PySem PySem.Spec PyProof.Rows L2
open Pl (Ws wds lns linesIn LST SHL mC mT mR)
abbrev sSh : Stmt := top 25
abbrev NSh : List Str := ["_law_found", "_law_one", "_law_other"]
theorem scSh : FnScope NSh [] (defScope sSh) := ⟨rfl, rfl, rfl, by decide +kernel, rfl, by decide +kernel, by decide +kernel⟩
def spSh : Sp := fun vs H Q _ => vs = [] ∧ ∀ p G, Same H G → G p = some (.lst (SHL.map V.str)) → Q (.ref p) G
theorem strLen (a b : Str) : (a ++ b).length = a.length + b.length := strLen_append ..
def three (o : Str) : List Str := ["write " ++ o, "sync " ++ o, "remove " ++ o]
def ren (o : Str) (l : List Str) : List Str := (l.filter fun u => decide (u ≠ o)).map fun u => "rename " ++ o ++ " " ++ u
theorem sh_step {i : Nat} {o : Str} (h : LST[i]? = some o) : SHL.take (1 + 5 * (i + 1)) = SHL.take (1 + 5 * i) ++ three o ++ ren o LST ∧ o.length = 4 := by
  match i, h with
  | 0, h =>
    obtain rfl := Option.some.inj h
    decide +kernel
  | 1, h =>
    obtain rfl := Option.some.inj h
    decide +kernel
  | 2, h =>
    obtain rfl := Option.some.inj h
    decide +kernel
theorem lst_len {o : Str} (h : o ∈ LST) : o.length = 4 := by
  revert o
  decide +kernel
theorem ren_take {o y : Str} {j : Nat} (h : LST[j]? = some y) : ren o (LST.take (j + 1)) = ren o (LST.take j) ++ if y ≠ o then ["rename " ++ o ++ " " ++ y] else [] := by
  unfold ren
  have et : LST.take (j + 1) = LST.take j ++ [y] := by rw [List.take_add_one, h]; rfl
  rw [et, List.filter_append, List.map_append, filt1]
  by_cases e : y = o
  · rw [if_neg (by rw [decide_eq_false (fun z => z e)]; decide), if_neg (fun z => z e)]
    rfl
  · rw [if_pos (decide_eq_true e), if_pos e]
    rfl
theorem ren_le (o : Str) (l : List Str) : (ren o l).length ≤ l.length := by
  unfold ren
  rw [List.length_map]
  exact List.length_filter_le _ _
section
variable {P : Program} {w : World} {K : PySem.W.Frag} {mg : Str → Option Value} {base : Heap}
theorem ok_Sh (D : DefAt K mg "_law_shared" sSh) : Cl P w K mg base 1 "_law_shared" spSh := by
  refine cl_of D scSh (fun vs H Q E h => ?_) (fun _ _ _ _ _ _ us hl => match us, hl with | [], _ => rfl) (fun f cdv A outer s H vs Q E hr h => ?_)
  · obtain ⟨rfl, _⟩ := h
    rfl
  obtain ⟨rfl, k⟩ := h
  refine ⟨_, pss_cons (ps_set (i := 0) scSh.nd rfl (Or.inl rfl) (pe_lst (pa_cons pe_str pa_nil)))
(pss_cons (ps_for PassesOwn.never rfl (pi_list (pe_lst (pa_cons pe_str (pa_cons pe_str (pa_cons pe_str pa_nil))))) (pg_name (i := 1) scSh.nd rfl (Or.inr rfl))
(pss_cons (ps_set (i := 0) scSh.nd rfl (Or.inl rfl) (pe_op op_cat (pv 0) (pe_lst (pa_cons (pe_op op_add_str pe_str (pv 1)) (pa_cons (pe_op op_add_str pe_str (pv 1)) (pa_cons (pe_op op_add_str pe_str (pv 1)) pa_nil))))))
(pss_one (ps_set (i := 0) scSh.nd rfl (Or.inl rfl) (pe_op op_cat (pv 0) (pe_lc (own := [("_law_other", 2)]) (g := gName 2) (tt := tTest (tOp rNe (tVar 2) (tVar 1))) (by rfl) scSh.nd (pi_list (pe_lst (pa_cons pe_str (pa_cons pe_str (pa_cons pe_str pa_nil))))) (blkOk_by (own := [("_law_other", 2)]) (N := NSh) (sc := defScope sSh) (by decide +kernel)) (fun _ _ _ _ _ => (pg_name (i := 2) scSh.nd rfl (Or.inl rfl))) (fun _ _ _ _ _ => (pts_one (pt_cmpR op_ne (pv 2) (pv 1) (nomark _)))) (fun _ _ _ _ _ => (pe_op op_add_str (pe_op op_add_str (pe_op op_add_str pe_str (pv 1)) pe_str) (pv 2)))))))))
(pss_one (ps_ret (pv 0)))), ?_⟩
  refine ⟨by show 1 ≤ sizeLine; rw [sizeLine_eq]; decide, fun F0 hF0 => ?_⟩
  have s0 := sNew (o := .lst [.str "sync names"]) hF0
  refine ⟨by show 3 ≤ sizeLine; rw [sizeLine_eq]; decide, fun q hq => ?_⟩
  have s1 := sNew (o := .lst (LST.map V.str)) hq
  refine ⟨q, rfl, ⟨_, .inl (.inl upd_same)⟩, ?_⟩
  refine for_list (K := K) (a := q) (xs := LST.map V.str) (fun i σ G => ∃ (F : Addr) (x1 : Option V), σ = [some (.ref F), x1, none] ∧ Same H G ∧ G q = some (.lst (LST.map V.str)) ∧ G F = some (.lst ((SHL.take (1 + 5 * i)).map V.str)))
    ⟨F0, _, rfl, s0.trans s1, upd_same, s1 _ _ upd_same⟩ (fun i σ G _ ⟨_, _, _, _, h, _⟩ => .inl (.inl h)) ?_ ?_
  · rintro i y σ G hi ⟨F, x1, rfl, s2, hq2, hF⟩
    rw [List.getElem?_map] at hi
    cases eo : LST[i]? with
    | none => rw [eo] at hi; cases hi
    | some o =>
    rw [eo] at hi
    obtain rfl := Option.some.inj hi
    obtain ⟨hst, l4⟩ := sh_step eo
    have a1 : ("write " : Str).length + o.length ≤ sizeLine := by rw [l4, sizeLine_eq]; decide
    have a2 : ("sync " : Str).length + o.length ≤ sizeLine := by rw [l4, sizeLine_eq]; decide
    have a3 : ("remove " : Str).length + o.length ≤ sizeLine := by rw [l4, sizeLine_eq]; decide
    refine ⟨_, rfl, _, rfl, _, _, rfl, rfl, a1, _, rfl, _, _, rfl, rfl, a2, _, rfl, _, _, rfl, rfl, a3, by show 3 ≤ sizeLine; rw [sizeLine_eq]; decide, fun p hp => ?_⟩
    have s3 := sNew (o := .lst ((three o).map V.str)) hp
    have hl : (SHL.take (1 + 5 * i)).length ≤ 16 := by
      rw [List.length_take]
      exact Nat.min_le_right _ _
    refine ⟨F, p, _, _, rfl, rfl, s3 _ _ hF, upd_same, by rw [List.length_map, sizeLine_eq]; show _ + 3 ≤ _; omega, fun F1 hF1 => ?_⟩
    have s4 := sNew (o := .lst ((SHL.take (1 + 5 * i)).map V.str ++ (three o).map V.str)) hF1
    refine ⟨_, rfl, by show 3 ≤ sizeLine; rw [sizeLine_eq]; decide, fun q2 hq2' => ?_⟩
    have s5 := sNew (o := .lst (LST.map V.str)) hq2'
    refine ⟨q2, rfl, ⟨_, .inl (.inl upd_same)⟩, fun D hD => ?_⟩
    have hF1' := s5 _ _ (show upd (upd G p _) F1 (.lst ((SHL.take (1 + 5 * i)).map V.str ++ (three o).map V.str)) F1 = _ from upd_same)
    have hqq := s5 _ _ (s4 _ _ (s3 _ _ hq2))
    have sA := s2.trans (s3.trans (s4.trans s5))
    refine lc_list (K := K) (a := q2) (xs := LST.map V.str) (fun j G' => Same (upd (upd (upd G p (.lst ((three o).map V.str))) F1 (.lst ((SHL.take (1 + 5 * i)).map V.str ++ (three o).map V.str))) q2 (.lst (LST.map V.str))) G' ∧ G' D = some (.lst ((ren o (LST.take j)).map V.str)))
      ⟨sNew hD, upd_same⟩ (fun j G' _ h => .inl (.inl (h.1 _ _ upd_same))) ?_ ?_
    · rintro j v G' hj ⟨s6, hD6⟩
      rw [List.getElem?_map] at hj
      cases eu : LST[j]? with
      | none => rw [eu] at hj; cases hj
      | some u =>
      rw [eu] at hj
      obtain rfl := Option.some.inj hj
      have hu4 := lst_len (List.mem_of_getElem? eu)
      refine ⟨rfl, _, rfl, _, rfl, rfl, _, rfl, ?_⟩
      rw [ren_take eu]
      by_cases e : u = o
      · refine (if_neg (by rw [str_dec, decide_eq_true e]; decide)).mpr ?_
        rw [if_neg (fun z => z e), List.append_nil]
        exact ⟨s6, hD6⟩
      · refine (if_pos (by rw [str_dec, decide_eq_false e]; rfl)).mpr ?_
        have b1 : ("rename " : Str).length + o.length ≤ sizeLine := by rw [l4, sizeLine_eq]; decide
        have b2 : ("rename " ++ o : Str).length + (" " : Str).length ≤ sizeLine := by rw [strLen, l4, sizeLine_eq]; decide
        have b3 : ("rename " ++ o ++ " " : Str).length + u.length ≤ sizeLine := by rw [strLen, strLen, l4, hu4, sizeLine_eq]; decide
        refine ⟨_, rfl, _, _, rfl, rfl, b1, _, _, rfl, rfl, b2, _, rfl, _, _, rfl, rfl, b3, _, hD6, ?_, fun b o' q' => ?_, ?_⟩
        · have := ren_le o (LST.take j)
          rw [List.length_take] at this
          have : LST.length = 3 := rfl
          rw [List.length_map, sizeLine_eq]
          omega
        · rw [upd_ne (ne_of_none q' hD)]
          exact s6 _ _ q'
        · rw [upd_same, if_pos e, List.map_append]
          rfl
    · rintro G' ⟨s6, hD6⟩
      have hD6 : G' D = some (.lst ((ren o LST).map V.str)) := hD6
      have h1 := ren_le o LST
      have h2 : LST.length = 3 := rfl
      refine ⟨F1, D, _, _, rfl, rfl, s6 _ _ hF1', hD6, ?_, fun F2 hF2 => ?_⟩
      · rw [List.length_append, List.length_map, List.length_map, List.length_map, sizeLine_eq]
        have : (three o).length = 3 := rfl
        omega
      · have s7 := sNew (o := .lst ((SHL.take (1 + 5 * i)).map V.str ++ (three o).map V.str ++ (ren o LST).map V.str)) hF2
        refine ⟨F2, _, rfl, sA.trans (s6.trans s7), s7 _ _ (s6 _ _ hqq), ?_⟩
        rw [upd_same, hst, List.map_append, List.map_append]
  · rintro σ G ⟨F, x1, rfl, s2, hq2, hF⟩
    exact ⟨_, rfl, k F G s2 hF⟩
end
end Wq
set_option Elab.async false
set_option linter.all false
set_option maxRecDepth 100000
set_option maxHeartbeats 2000000
namespace Wq
open PySem PySem.Spec PyProof.Rows L2
open Pl (Ws wds lns linesIn LST SHL mC mT mR)
abbrev sMn : Stmt := top 26
abbrev NMn : List Str := ["_law_place", "_law_names", "_law_found", "_law_one", "_law_two", "_law_third", "_law_name"]
theorem scMn : FnScope NMn ["_law_place"] (defScope sMn) := ⟨rfl, rfl, rfl, by decide +kernel, rfl, by decide +kernel, by decide +kernel⟩
def plc (k : Nat) : Str := if k = 0 then "commit" else if k = 1 then "take" else "rest"
def mnu (k : Nat) : List Str := if k = 0 then mC else if k = 1 then mT else mR
def spMn : Sp := fun vs H Q _ => ∃ k : Nat, vs = [.str (plc k)] ∧ ∀ p G, Same H G → G p = some (.lst ((mnu k).map V.str)) → Q (.ref p) G
def oth (o : Str) (l : List Str) : List Str := l.filter fun u => decide (u ≠ o)
def oth2 (o p : Str) (l : List Str) : List Str := l.filter fun u => decide (u ∉ [o, p])
theorem oth_take {o y : Str} {j : Nat} (h : LST[j]? = some y) : oth o (LST.take (j + 1)) = oth o (LST.take j) ++ if y ≠ o then [y] else [] := by
  unfold oth
  have et : LST.take (j + 1) = LST.take j ++ [y] := by rw [List.take_add_one, h]; rfl
  rw [et, List.filter_append, filt1]
  by_cases e : y = o
  · rw [if_neg (by rw [decide_eq_false (fun z => z e)]; decide), if_neg (fun z => z e)]
  · rw [if_pos (decide_eq_true e), if_pos e]
theorem oth2_take {o p y : Str} {j : Nat} (h : LST[j]? = some y) : oth2 o p (LST.take (j + 1)) = oth2 o p (LST.take j) ++ if y ∉ [o, p] then [y] else [] := by
  unfold oth2
  have et : LST.take (j + 1) = LST.take j ++ [y] := by rw [List.take_add_one, h]; rfl
  rw [et, List.filter_append, filt1]
  by_cases e : y ∈ [o, p]
  · rw [if_neg (by rw [decide_eq_false (fun z => z e)]; decide), if_neg (fun z => z e)]
  · rw [if_pos (decide_eq_true e), if_pos e]
def two (o p t : Str) : List Str := ["take " ++ o ++ " " ++ p, "take " ++ o ++ " " ++ p ++ " " ++ t]
theorem lst_cases {i : Nat} {o : Str} (h : LST[i]? = some o) : (i = 0 ∧ o = "list") ∨ (i = 1 ∧ o = "next") ∨ (i = 2 ∧ o = "back") := by
  match i, h with
  | 0, h => exact .inl ⟨rfl, (Option.some.inj h).symm⟩
  | 1, h => exact .inr (.inl ⟨rfl, (Option.some.inj h).symm⟩)
  | 2, h => exact .inr (.inr ⟨rfl, (Option.some.inj h).symm⟩)
theorem oth_len {o : Str} (h : o ∈ LST) : (oth o LST).length = 2 := by
  revert o
  decide +kernel
theorem tk_all : ∀ i, i < 3 → ∀ j, j < 2 → ∀ o ∈ LST[i]?, ∀ p ∈ (oth o LST)[j]?, (oth2 o p LST).length = 1 ∧ o.length = 4 ∧ p.length = 4 ∧ (∀ t ∈ oth2 o p LST, t.length = 4 ∧ mT.take (3 + 4 * i + 2 * (j + 1)) = mT.take (3 + 4 * i + 2 * j) ++ two o p t) := by decide +kernel
theorem tk_step {i j : Nat} {o p : Str} (h : LST[i]? = some o) (h2 : (oth o LST)[j]? = some p) : ∃ t, oth2 o p LST = [t] ∧ o.length = 4 ∧ p.length = 4 ∧ t.length = 4 ∧ mT.take (3 + 4 * i + 2 * (j + 1)) = mT.take (3 + 4 * i + 2 * j) ++ two o p t := by
  have hi : i < 3 := (List.getElem?_eq_some_iff.mp h).1
  have hj : j < 2 := by
    have := (List.getElem?_eq_some_iff.mp h2).1
    rw [oth_len (List.mem_of_getElem? h)] at this
    exact this
  obtain ⟨h1, h3, h4, h5⟩ := tk_all i hi j hj o h p h2
  obtain ⟨t, et⟩ := List.length_eq_one_iff.mp h1
  obtain ⟨h6, h7⟩ := h5 t (by rw [et]; exact List.mem_singleton.mpr rfl)
  exact ⟨t, et, h3, h4, h6, h7⟩
section
variable {P : Program} {w : World} {K : PySem.W.Frag} {mg : Str → Option Value} {base : Heap}
theorem ok_Mn (D : DefAt K mg "_law_menu" sMn) (CS : Cl P w K mg base 1 "_law_shared" spSh) : Cl P w K mg base 2 "_law_menu" spMn := by
  refine cl_of D scMn (fun vs H Q E h => ?_) (fun _ _ _ _ _ _ us hl => match us, hl with | [_], _ => rfl) (fun f cdv A outer s H vs Q E hr h => ?_)
  · obtain ⟨k, rfl, _⟩ := h
    rfl
  obtain ⟨n, rfl, k⟩ := h
  refine ⟨_, pss_cons (ps_if (pt_cmpR op_eq (pv 0) pe_str (nomark _))
(pss_one (ps_ret (pe_op op_cat (pe_cl0 CS hr (by decide) rfl) (pe_lst (pa_cons pe_str (pa_cons pe_str (pa_cons pe_str (pa_cons pe_str pa_nil))))))))
pss_nil)
(pss_cons (ps_if (pt_cmpR op_eq (pv 0) pe_str (nomark _))
(pss_one (ps_ret (pe_op op_cat (pe_cl0 CS hr (by decide) rfl) (pe_lst (pa_cons pe_str (pa_cons pe_str pa_nil))))))
pss_nil)
(pss_cons (ps_set (i := 1) scMn.nd rfl (Or.inl rfl) (pe_lst (pa_cons pe_str (pa_cons pe_str (pa_cons pe_str pa_nil)))))
(C8.pss_cut (ps_setLc (i := 2) (own := [("_law_one", 3)]) (g := gName 3) (tt := tYes) (by rfl) scMn.nd rfl rfl (sw_true rfl rfl rfl (by decide +kernel)) (pi_list (pv 1)) (blkOk_by (own := [("_law_one", 3)]) (N := NMn) (sc := defScope sMn) (by decide +kernel)) (fun _ _ _ _ _ => (pg_name (i := 3) scMn.nd rfl (Or.inl rfl))) (fun _ _ _ _ _ => pts_nil) (fun _ _ _ _ _ => (pe_op op_add_str pe_str (pv 3))))
(pss_cons (ps_for PassesOwn.never rfl (pi_list (pv 1)) (pg_name (i := 3) scMn.nd rfl (Or.inr rfl))
(pss_one (ps_for PassesOwn.never rfl (pi_list (pe_lc (own := [("_law_name", 6)]) (g := gName 6) (tt := tTest (tOp rNe (tVar 6) (tVar 3))) (by rfl) scMn.nd (pi_list (pv 1)) (blkOk_by (own := [("_law_name", 6)]) (N := NMn) (sc := defScope sMn) (by decide +kernel)) (fun _ _ _ _ _ => (pg_name (i := 6) scMn.nd rfl (Or.inl rfl))) (fun _ _ _ _ _ => (pts_one (pt_cmpR op_ne (pv 6) (pv 3) (nomark _)))) (fun _ _ _ _ _ => (pv 6)))) (pg_name (i := 4) scMn.nd rfl (Or.inr rfl))
(pss_cons (ps_set (i := 5) scMn.nd rfl (Or.inl rfl) (pe_ix ix_list (pe_lc (own := [("_law_name", 6)]) (g := gName 6) (tt := tTest (tOp (rIn K true) (tVar 6) (tLst (tCons (tVar 3) (tCons (tVar 4) tNil))))) (by rfl) scMn.nd (pi_list (pv 1)) (blkOk_by (own := [("_law_name", 6)]) (N := NMn) (sc := defScope sMn) (by decide +kernel)) (fun _ _ _ _ _ => (pg_name (i := 6) scMn.nd rfl (Or.inl rfl))) (fun _ _ _ _ _ => (pts_one (pt_cmpR op_notIn_seq (pv 6) (pe_lst (pa_cons (pv 3) (pa_cons (pv 4) pa_nil))) rfl))) (fun _ _ _ _ _ => (pv 6))) pe_int (fun _ _ => rfl)))
(pss_one (ps_set (i := 2) scMn.nd rfl (Or.inl rfl) (pe_op op_cat (pv 2) (pe_lst (pa_cons (pe_op op_add_str (pe_op op_add_str (pe_op op_add_str pe_str (pv 3)) pe_str) (pv 4)) (pa_cons (pe_op op_add_str (pe_op op_add_str (pe_op op_add_str (pe_op op_add_str (pe_op op_add_str pe_str (pv 3)) pe_str) (pv 4)) pe_str) (pv 5)) pa_nil))))))))))
(pss_one (ps_ret (pv 2))))))), ?_⟩
  refine ⟨_, rfl, rfl, _, rfl, ?_⟩
  by_cases e0 : n = 0
  · subst e0
    refine (if_pos (by decide)).mpr ?_
    refine ⟨rfl, fun p G s1 hp => ?_⟩
    refine ⟨by show 4 ≤ sizeLine; rw [sizeLine_eq]; decide, fun q hq => ?_⟩
    have s2 := sNew (o := .lst [.str "write new", .str "sync new", .str "remove dropped", .str "tell"]) hq
    refine ⟨p, q, _, _, rfl, rfl, s2 _ _ hp, upd_same, by rw [List.length_map, sizeLine_eq]; decide, fun r hr' => ?_⟩
    exact k r _ (s1.trans (s2.trans (sNew hr'))) upd_same
  have h0 : plc n ≠ "commit" := by
    unfold plc
    rw [if_neg e0]
    split <;> decide +kernel
  refine (if_neg (by rw [str_dec, decide_eq_false h0]; decide)).mpr ?_
  refine ⟨_, rfl, rfl, _, rfl, ?_⟩
  by_cases e1 : n = 1
  rotate_left
  · have h1 : plc n = "rest" := by
      unfold plc
      rw [if_neg e0, if_neg e1]
    have hm : mnu n = mR := by
      unfold mnu
      rw [if_neg e0, if_neg e1]
    refine (if_pos (by rw [str_dec, decide_eq_true h1])).mpr ?_
    refine ⟨rfl, fun p G s1 hp => ?_⟩
    refine ⟨by show 2 ≤ sizeLine; rw [sizeLine_eq]; decide, fun q hq => ?_⟩
    have s2 := sNew (o := .lst [.str "sync taken", .str "remove stray"]) hq
    refine ⟨p, q, _, _, rfl, rfl, s2 _ _ hp, upd_same, by rw [List.length_map, sizeLine_eq]; decide, fun r hr' => ?_⟩
    refine k r _ (s1.trans (s2.trans (sNew hr'))) ?_
    rw [upd_same, hm]
    rfl
  subst e1
  refine (if_neg (by decide)).mpr ?_
  refine ⟨by show 3 ≤ sizeLine; rw [sizeLine_eq]; decide, fun nm hnm => ?_⟩
  have s0 := sNew (o := .lst (LST.map V.str)) hnm
  have hn0 : upd H nm (.lst (LST.map V.str)) nm = some (.lst (LST.map V.str)) := upd_same
  refine ⟨fun σ G => ∃ F : Addr, σ = [some (.str (plc 1)), some (.ref nm), some (.ref F), none, none, none, none] ∧ Same H G ∧ G nm = some (.lst (LST.map V.str)) ∧ G F = some (.lst ((mT.take 3).map V.str)), ?_, ?_⟩
  · refine ⟨_, rfl, nm, rfl, ⟨_, .inl (.inl hn0)⟩, fun D hD => ?_⟩
    refine lc_list (K := K) (a := nm) (xs := LST.map V.str) (fun j G => Same (upd H nm (.lst (LST.map V.str))) G ∧ G D = some (.lst (((LST.take j).map fun u : Str => (("take " : Str) ++ u)).map V.str))) ⟨sNew hD, upd_same⟩ (fun j G _ h => .inl (.inl (h.1 _ _ hn0))) ?_ ?_
    · rintro j v G hj ⟨s6, hD6⟩
      rw [List.getElem?_map] at hj
      cases eu : LST[j]? with
      | none => rw [eu] at hj; cases hj
      | some u =>
      rw [eu] at hj
      obtain rfl := Option.some.inj hj
      have hu4 := lst_len (List.mem_of_getElem? eu)
      have a1 : ("take " : Str).length + u.length ≤ sizeLine := by rw [hu4, sizeLine_eq]; decide
      refine ⟨rfl, _, rfl, _, _, rfl, rfl, a1, _, hD6, ?_, fun b o' q' => ?_, ?_⟩
      · rw [List.length_map, List.length_map, List.length_take, sizeLine_eq]
        have : LST.length = 3 := rfl
        omega
      · rw [upd_ne (ne_of_none q' hD)]
        exact s6 _ _ q'
      · rw [upd_same, List.take_add_one, eu, List.map_append, List.map_append]
        rfl
    · rintro G ⟨s6, hD6⟩
      refine ⟨D, rfl, s0.trans s6, s6 _ _ hn0, hD6.trans ?_⟩
      have : (LST.take (LST.map V.str).length).map (fun u : Str => (("take " : Str) ++ u)) = mT.take 3 := by decide +kernel
      rw [this]
  rintro σ G0 ⟨F, rfl, s1, hn1, hF⟩
  refine ⟨_, rfl, nm, rfl, ⟨_, .inl (.inl hn1)⟩, ?_⟩
  refine for_list (K := K) (a := nm) (xs := LST.map V.str) (fun i σ G => ∃ (F : Addr) (x3 x4 x5 : Option V), σ = [some (.str (plc 1)), some (.ref nm), some (.ref F), x3, x4, x5, none] ∧ Same H G ∧ G nm = some (.lst (LST.map V.str)) ∧ G F = some (.lst ((mT.take (3 + 4 * i)).map V.str)))
    ⟨F, _, _, _, rfl, s1, hn1, hF⟩ (fun i σ G _ ⟨_, _, _, _, _, _, h, _⟩ => .inl (.inl h)) ?_ ?_
  · rintro i y σ G hi ⟨F, x3, x4, x5, rfl, s2, hn2, hF⟩
    rw [List.getElem?_map] at hi
    cases eo : LST[i]? with
    | none => rw [eo] at hi; cases hi
    | some o =>
    rw [eo] at hi
    obtain rfl := Option.some.inj hi
    refine ⟨_, rfl, nm, rfl, ⟨_, .inl (.inl hn2)⟩, fun D hD => ?_⟩
    refine lc_list (K := K) (a := nm) (xs := LST.map V.str) (fun j G' => Same G G' ∧ G' D = some (.lst ((oth o (LST.take j)).map V.str))) ⟨sNew hD, upd_same⟩ (fun j G' _ h => .inl (.inl (h.1 _ _ hn2))) ?_ ?_
    · rintro j v G' hj ⟨s6, hD6⟩
      rw [List.getElem?_map] at hj
      cases eu : LST[j]? with
      | none => rw [eu] at hj; cases hj
      | some u =>
      rw [eu] at hj
      obtain rfl := Option.some.inj hj
      refine ⟨rfl, _, rfl, _, rfl, rfl, _, rfl, ?_⟩
      rw [oth_take eu]
      by_cases e : u = o
      · refine (if_neg (by rw [str_dec, decide_eq_true e]; decide)).mpr ?_
        rw [if_neg (fun z => z e), List.append_nil]
        exact ⟨s6, hD6⟩
      · refine (if_pos (by rw [str_dec, decide_eq_false e]; rfl)).mpr ?_
        refine ⟨_, rfl, _, hD6, ?_, fun b o' q' => ?_, ?_⟩
        · have := List.length_filter_le (fun u => decide (u ≠ o)) (LST.take j)
          rw [List.length_take] at this
          have : LST.length = 3 := rfl
          rw [List.length_map, sizeLine_eq]
          show (List.filter _ _).length < _
          omega
        · rw [upd_ne (ne_of_none q' hD)]
          exact s6 _ _ q'
        · rw [upd_same, if_pos e, List.map_append]
          rfl
    · rintro G' ⟨s6, hD6⟩
      have hD6 : G' D = some (.lst ((oth o LST).map V.str)) := hD6
      refine ⟨D, rfl, ⟨_, .inl (.inl hD6)⟩, ?_⟩
      refine for_list (K := K) (a := D) (xs := (oth o LST).map V.str) (fun j σ G2 => ∃ (F : Addr) (x4 x5 : Option V), σ = [some (.str (plc 1)), some (.ref nm), some (.ref F), some (.str o), x4, x5, none] ∧ Same G' G2 ∧ G2 F = some (.lst ((mT.take (3 + 4 * i + 2 * j)).map V.str)))
        ⟨F, _, _, rfl, .refl _, s6 _ _ hF⟩ (fun j σ G2 _ ⟨_, _, _, _, h, _⟩ => .inl (.inl (h _ _ hD6))) ?_ ?_
      · rintro j v σ G2 hj ⟨F, x4, x5, rfl, s7, hF7⟩
        rw [List.getElem?_map] at hj
        cases ep : (oth o LST)[j]? with
        | none => rw [ep] at hj; cases hj
        | some p =>
        rw [ep] at hj
        obtain rfl := Option.some.inj hj
        obtain ⟨t, et, lo, lp, lt, hst⟩ := tk_step eo ep
        have hn7 := s7 _ _ (s6 _ _ hn2)
        refine ⟨_, rfl, nm, rfl, ⟨_, .inl (.inl hn7)⟩, fun D2 hD2 => ?_⟩
        refine lc_list (K := K) (a := nm) (xs := LST.map V.str) (fun j G' => Same G2 G' ∧ G' D2 = some (.lst ((oth2 o p (LST.take j)).map V.str))) ⟨sNew hD2, upd_same⟩ (fun j G' _ h => .inl (.inl (h.1 _ _ hn7))) ?_ ?_
        · rintro j v G3 hj ⟨s8, hD8⟩
          rw [List.getElem?_map] at hj
          cases eu : LST[j]? with
          | none => rw [eu] at hj; cases hj
          | some u =>
          rw [eu] at hj
          obtain rfl := Option.some.inj hj
          refine ⟨rfl, _, rfl, _, rfl, _, rfl, by show 2 ≤ sizeLine; rw [sizeLine_eq]; decide, fun p2 hp2 => ?_⟩
          have s9 := sNew (o := .lst (([o, p] : List Str).map V.str)) hp2
          refine ⟨p2, _, rfl, .inl (.inl (.inl upd_same)), rfl, flat_str [o, p], _, rfl, ?_⟩
          rw [show ([V.str o, V.str p] : List V) = ([o, p] : List Str).map V.str from rfl, inV_str, oth2_take eu]
          by_cases e : u ∈ [o, p]
          · refine (if_neg (by rw [decide_eq_true e]; decide)).mpr ?_
            rw [if_neg (fun z => z e), List.append_nil]
            exact ⟨s8.trans s9, s9 _ _ hD8⟩
          · refine (if_pos (by rw [decide_eq_false e]; rfl)).mpr ?_
            refine ⟨_, rfl, _, s9 _ _ hD8, ?_, fun b o' q' => ?_, ?_⟩
            · have := List.length_filter_le (fun u => decide (u ∉ [o, p])) (LST.take j)
              rw [List.length_take] at this
              have : LST.length = 3 := rfl
              rw [List.length_map, sizeLine_eq]
              show (List.filter _ _).length < _
              omega
            · rw [upd_ne (ne_of_none q' hD2)]
              exact s9 _ _ (s8 _ _ q')
            · rw [upd_same, if_pos e, List.map_append]
              rfl
        · rintro G3 ⟨s8, hD8⟩
          have hD8 : G3 D2 = some (.lst ((oth2 o p LST).map V.str)) := hD8
          rw [et] at hD8
          have hF8 := s8 _ _ hF7
          refine ⟨D2, _, _, _, rfl, rfl, .inl (.inl hD8), atI_nat (j := 0) rfl, ?_⟩
          have b1 : ("take " : Str).length + o.length ≤ sizeLine := by rw [lo, sizeLine_eq]; decide
          have b2 : ("take " ++ o : Str).length + (" " : Str).length ≤ sizeLine := by rw [strLen, lo, sizeLine_eq]; decide
          have b3 : ("take " ++ o ++ " " : Str).length + p.length ≤ sizeLine := by rw [strLen, strLen, lo, lp, sizeLine_eq]; decide
          have b4 : ("take " ++ o ++ " " ++ p : Str).length + (" " : Str).length ≤ sizeLine := by rw [strLen, strLen, strLen, lo, lp, sizeLine_eq]; decide
          have b5 : ("take " ++ o ++ " " ++ p ++ " " : Str).length + t.length ≤ sizeLine := by rw [strLen, strLen, strLen, strLen, lo, lp, lt, sizeLine_eq]; decide
          refine ⟨_, rfl, _, rfl, _, _, rfl, rfl, b1, _, _, rfl, rfl, b2, _, rfl, _, _, rfl, rfl, b3, _, rfl, _, _, rfl, rfl, b1, _, _, rfl, rfl, b2, _, rfl, _, _, rfl, rfl, b3, _, _, rfl, rfl, b4, _, rfl, _, _, rfl, rfl, b5, by show 2 ≤ sizeLine; rw [sizeLine_eq]; decide, fun p2 hp2 => ?_⟩
          have s9 := sNew (o := .lst ((two o p t).map V.str)) hp2
          refine ⟨F, p2, _, _, rfl, rfl, s9 _ _ hF8, upd_same, ?_, fun F2 hF2 => ?_⟩
          · have : (mT.take (3 + 4 * i + 2 * j)).length ≤ 15 := by
              rw [List.length_take]
              exact Nat.min_le_right _ _
            rw [List.length_map, sizeLine_eq]
            show _ + 2 ≤ _
            omega
          · refine ⟨F2, _, _, rfl, s7.trans (s8.trans (s9.trans (sNew hF2))), ?_⟩
            rw [upd_same, hst, List.map_append]
            rfl
      · rintro σ G2 ⟨F, x4, x5, rfl, s7, hF7⟩
        rw [List.length_map, oth_len (List.mem_of_getElem? eo)] at hF7
        exact ⟨F, _, _, _, rfl, s2.trans (s6.trans s7), s7 _ _ (s6 _ _ hn2), hF7⟩
  · rintro σ G ⟨F, x3, x4, x5, rfl, s2, hn2, hF⟩
    exact ⟨_, rfl, k F G s2 hF⟩
end
end Wq
set_option Elab.async false
set_option linter.all false
set_option maxRecDepth 100000
set_option maxHeartbeats 2000000
namespace Wq
open PySem PySem.Spec PyProof.Rows L2
open Pl (Ws wds lns linesIn LST SHL mC mT mR wC wT wR colL colRow firstBad lOk off bad_some bad_none)
abbrev sCo : Stmt := top 27
abbrev NCo : List Str := ["_law_line", "_law_menu_here", "_law_words", "_law_column_here", "_law_k", "_law_ahead", "_law_one"]
theorem scCo : FnScope NCo ["_law_line", "_law_menu_here"] (defScope sCo) := ⟨rfl, rfl, rfl, by decide +kernel, rfl, by decide +kernel, by decide +kernel⟩
def spCo (K : PySem.W.Frag) : Sp := fun vs H Q _ => ∃ (x : Str) (k : Nat) (l : Addr), vs = [.str x, .ref l] ∧ SqL K H l ((mnu k).map V.str) ∧ x.length ≤ 100000 ∧ As x ∧ ∀ G, Same H G → Q (nI (colRow k x)) G
theorem mnu_w (k : Nat) : (mnu k).map wds = if k = 0 then wC else if k = 1 then wT else wR := by
  unfold mnu
  split
  · exact Pl.mC_w
  · split
    · exact Pl.mT_w
    · exact Pl.mR_w
theorem mnu_as (k : Nat) : ∀ m ∈ mnu k, As m ∧ m.length ≤ 100 := by
  unfold mnu As
  split
  · decide +kernel
  · split <;> decide +kernel
theorem mnu_len (k : Nat) : (mnu k).length ≤ 20 := by
  unfold mnu
  split
  · decide +kernel
  · split <;> decide +kernel
theorem in_mnu {k : Nat} {x : Str} : wds x ∈ (mnu k).map wds ↔ x ∈ mnu k := by
  constructor
  · intro h
    obtain ⟨m, hm, e⟩ := List.mem_map.mp h
    rw [← Pl.wds_inj e]
    exact hm
  · exact fun h => List.mem_map_of_mem h
/-- the lines of a menu that begin as told -/
def ahd (ws : Ws) (j : Nat) (l : List Str) : List Str := l.filter fun m => decide ((wds m).take j = ws.take j)
theorem ahd_nil {ws : Ws} {j : Nat} (hj : j ≤ ws.length) (l : List Str) : decide (ahd ws j l = []) = !lOk (l.map wds) (ws.take j) := by
  unfold ahd lOk
  have hl : (ws.take j).length = j := by rw [List.length_take]; omega
  rw [List.any_map, hl, Bool.eq_iff_iff, decide_eq_true_eq, List.filter_eq_nil_iff, Bool.not_eq_true', List.any_eq_false]
  exact Iff.rfl
theorem off_succ {ws : Ws} {i : Nat} {w : Str} (h : ws[i]? = some w) : off ws (i + 1) = off ws i + (w.length + 1) := by
  unfold off
  rw [List.take_add_one, h, List.map_append, List.sum_append]
  simp
theorem col_def (k : Nat) (x : Str) : colRow k x = if x ∈ mnu k then 0 else match firstBad (lOk ((mnu k).map wds)) (wds x) with
    | some i => off (wds x) i + 1
    | none => x.length + 1 := by
  unfold colRow colL
  rw [← mnu_w]
  by_cases h : x ∈ mnu k
  · rw [if_pos h, if_pos (in_mnu.mpr h)]
  · rw [if_neg h, if_neg (fun z => h (in_mnu.mp z))] <;> rfl
theorem as_wds {x : Str} (h : As x) : ∀ w ∈ wds x, As w := fun w hw c hc => h c (Pl.wd_sub hw c hc)
section
variable {P : Program} {w : World} {K : PySem.W.Frag} {mg : Str → Option Value} {base : Heap}
theorem ok_Co (D : DefAt K mg "_law_column" sCo) (T : Txt K mg) : Cl P w K mg base 1 "_law_column" (spCo K) := by
  refine cl_of D scCo (fun vs H Q E h => ?_) (fun _ _ _ _ _ _ us hl => match us, hl with | [_, _], _ => rfl) (fun f cdv A outer s H vs Q E hr h => ?_)
  · obtain ⟨x, k, l, rfl, _⟩ := h
    rfl
  obtain ⟨x, n, l, rfl, hl, hx, hA, k⟩ := h
  refine ⟨_, pss_cons (ps_if (pt_cmpR op_in_seq (pv 0) (pv 1) rfl)
(pss_one (ps_ret pe_int))
pss_nil)
(pss_cons (ps_asg (pe_tup (pa_cons (pe_split (pv 0) pe_str) (pa_cons pe_int pa_nil))) (pg_tup (by rfl) (pgs_cons (pg_name (i := 2) scCo.nd rfl (Or.inr rfl)) (pgs_cons (pg_name (i := 3) scCo.nd rfl (Or.inl rfl)) pgs_nil))))
(pss_cons (ps_for PassesOwn.never rfl (pi_range1 rfl (by exact T.range) (pa_cons (pe_callB call_len_seq (by rfl) (by exact T.len) PySem.boot_len (pa_cons (pv 2) pa_nil)) pa_nil)) (pg_name (i := 4) scCo.nd rfl (Or.inr rfl))
(C8.pss_cut (ps_setLc (i := 5) (own := [("_law_one", 6)]) (g := gName 6) (tt := tTest (tOp (rEqD K) (L2.tSl (rSlL K) (tM1 (fun x xs H Q => ∃ a b, x = .str a ∧ xs = [.str b] ∧ (b.length == 0) = false ∧ a.length + 2 ≤ sizeLine ∧ rNewStrs (Txt.split a b) H Q) (tVar 6) (tC (.str " "))) tNoPart (tPart (tOp (rI0 fun i j => .int (i + j)) (tVar 4) (tC (.int 1))))) (L2.tSl (rSlL K) (tVar 2) tNoPart (tPart (tOp (rI0 fun i j => .int (i + j)) (tVar 4) (tC (.int 1))))))) (by rfl) scCo.nd rfl rfl (sw_true rfl rfl rfl (by decide +kernel)) (pi_list (pv 1)) (blkOk_by (own := [("_law_one", 6)]) (N := NCo) (sc := defScope sCo) (by decide +kernel)) (fun _ _ _ _ _ => (pg_name (i := 6) scCo.nd rfl (Or.inl rfl))) (fun _ _ _ _ _ => (pts_one (pt_cmpR (op_eqD (hu64 hr)) (pe_slice sl_list (pe_split (pv 6) pe_str) po_none (po_some (pe_op op_add (pv 4) pe_int))) (pe_slice sl_list (pv 2) po_none (po_some (pe_op op_add (pv 4) pe_int))) (nomark _)))) (fun _ _ _ _ _ => (pv 6)))
(pss_cons (ps_if (pt_cmpR (op_eqD (hu64 hr)) (pv 5) (pe_lst pa_nil) (nomark _))
(pss_one (ps_ret (pv 3)))
pss_nil)
(pss_one (ps_set (i := 3) scCo.nd rfl (Or.inl rfl) (pe_op op_add (pe_op op_add (pv 3) (pe_callB call_len_str (by rfl) (by exact T.len) PySem.boot_len (pa_cons (pe_ix ix_list (pv 2) (pv 4) (fun _ _ => rfl)) pa_nil))) pe_int))))))
(pss_one (ps_ret (pe_op op_add (pe_callB call_len_str (by rfl) (by exact T.len) PySem.boot_len (pa_cons (pv 0) pa_nil)) pe_int))))), ?_⟩
  have hcd := col_def n x
  refine ⟨_, rfl, _, rfl, l, _, rfl, .inl hl, rfl, flat_str _, _, rfl, ?_⟩
  show if inV (V.str x) ((mnu n).map V.str) = true then _ else _
  rw [inV_str]
  by_cases hm : x ∈ mnu n
  · refine (if_pos (decide_eq_true hm)).mpr ?_
    rw [if_pos hm] at hcd
    rw [hcd] at k
    exact k H (.refl _)
  refine (if_neg (by rw [decide_eq_false hm]; decide)).mpr ?_
  rw [if_neg hm] at hcd
  refine ⟨_, rfl, ⟨_, rfl⟩, x, Str.ofString " ", rfl, rfl, by rfl, by rw [sizeLine_eq]; omega, fun q hq => ?_⟩
  rw [Pl.split_sp]
  have hwl := wds_len x
  have hAw := as_wds hA
  have hwx : ∀ w ∈ wds x, w.length ≤ 100000 := fun w hw => Nat.le_trans (wd_len hw) hx
  generalize hW : wds x = ws at *
  have hlen : (ws.map V.str).length = ws.length := List.length_map ..
  have s0 := sNew (o := .lst (ws.map V.str)) hq
  refine ⟨by show 2 ≤ sizeLine; rw [sizeLine_eq]; decide, fun tp htp => ⟨tp, _, rfl, .inl (.inl upd_same), rfl, _, _, rfl, _, _, rfl, rfl, ?_⟩⟩
  have s1 := sNew (o := .tup [.ref q, .int 1]) htp
  have hq1 := s1 _ _ (show upd H q (.lst (ws.map V.str)) q = _ from upd_same)
  refine ⟨_, rfl, q, _, rfl, .inl (.inl (.inl hq1)), _, rfl, by omega, by rw [hlen]; omega, ?_⟩
  refine for_range (lo := 0) (n := (ws.map V.str).length) (fun i σ G => ∃ (x4 x5 : Option V), σ = [some (.str x), some (.ref l), some (.ref q), some (nI (off ws i + 1)), x4, x5, none] ∧ Same H G ∧ G q = some (.lst (ws.map V.str)) ∧ ∀ j, j < i → lOk ((mnu n).map wds) (ws.take (j + 1)) = true) ⟨_, _, rfl, s0.trans s1, hq1, fun j hj => absurd hj (Nat.not_lt_zero _)⟩ ?_ ?_
  · rintro i σ G hi ⟨x4, x5, rfl, s2, hq2, hj⟩
    rw [hlen] at hi
    have ei : ws[i]? = some ws[i] := List.getElem?_eq_getElem hi
    generalize ws[i] = wd at ei
    have hwd := hwx wd (List.mem_of_getElem? ei)
    refine ⟨fun σ G2 => ∃ D : Addr, σ = [some (.str x), some (.ref l), some (.ref q), some (nI (off ws i + 1)), some (.int (0 + (i : Int))), some (.ref D), none] ∧ Same G G2 ∧ G2 D = some (.lst ((ahd ws (i + 1) (mnu n)).map V.str)), ?_, ?_⟩
    · refine ⟨_, rfl, l, rfl, ⟨_, SqL_same hl s2⟩, fun D hD => ?_⟩
      refine lc_list (K := K) (a := l) (xs := (mnu n).map V.str) (fun j G' => Same G G' ∧ G' D = some (.lst ((ahd ws (i + 1) ((mnu n).take j)).map V.str))) ⟨sNew hD, upd_same⟩ (fun j G' _ h => SqL_same hl (s2.trans h.1)) ?_ ?_
      · rintro j v G' hj2 ⟨s6, hD6⟩
        rw [List.getElem?_map] at hj2
        cases eu : (mnu n)[j]? with
        | none => rw [eu] at hj2; cases hj2
        | some m =>
        rw [eu] at hj2
        obtain rfl := Option.some.inj hj2
        obtain ⟨hmA, hmL⟩ := mnu_as n m (List.mem_of_getElem? eu)
        refine ⟨rfl, _, rfl, ⟨_, rfl⟩, m, Str.ofString " ", rfl, rfl, by rfl, by rw [sizeLine_eq]; omega, fun r1 hr1 => ?_⟩
        rw [Pl.split_sp]
        have u1 := sNew (o := .lst ((wds m).map V.str)) hr1
        refine ⟨_, rfl, _, _, rfl, rfl, _, rfl, r1, _, rfl, .inl (.inl upd_same), fun r2 hr2 => ?_⟩
        have eI : (0 + (i : Int) + 1) = ((i + 1 : Nat) : Int) := by omega
        rw [eI, cut_to, ← List.map_take]
        have u2 := sNew (o := .lst (((wds m).take (i + 1)).map V.str)) hr2
        refine ⟨_, rfl, _, rfl, _, _, rfl, rfl, _, rfl, q, _, rfl, .inl (.inl (u2 _ _ (u1 _ _ (s6 _ _ hq2)))), fun r3 hr3 => ?_⟩
        rw [eI, cut_to, ← List.map_take]
        have u3 := sNew (o := .lst ((ws.take (i + 1)).map V.str)) hr3
        refine ⟨.list (((wds m).take (i + 1)).map PyData.str), .list ((ws.take (i + 1)).map PyData.str), .lst (.inl (.inl (u3 _ _ upd_same))) (dpS _), .lst (.inl (.inl upd_same)) (dpS _), shapS _ (fun w hw => as_wds hmA w (List.mem_of_mem_take hw)), shapS _ (fun w hw => hAw w (List.mem_of_mem_take hw)), _, rfl, ?_⟩
        rw [eqvLS]
        have et : ahd ws (i + 1) ((mnu n).take (j + 1)) = ahd ws (i + 1) ((mnu n).take j) ++ if (wds m).take (i + 1) = ws.take (i + 1) then [m] else [] := by
          unfold ahd
          rw [List.take_add_one (l := mnu n), eu, List.filter_append]
          show _ ++ List.filter _ [m] = _
          rw [filt1]
          by_cases e : (wds m).take (i + 1) = ws.take (i + 1)
          · rw [if_pos (decide_eq_true e), if_pos e]
          · rw [if_neg (by rw [decide_eq_false e]; decide), if_neg e]
        rw [et]
        have uA := u1.trans (u2.trans u3)
        by_cases e : (wds m).take (i + 1) = ws.take (i + 1)
        · refine (if_pos (decide_eq_true e)).mpr ?_
          refine ⟨_, rfl, _, uA _ _ hD6, ?_, fun b o' q' => ?_, ?_⟩
          · have h1 := List.length_filter_le (fun m => decide ((wds m).take (i + 1) = ws.take (i + 1))) ((mnu n).take j)
            rw [List.length_take] at h1
            have h2 := mnu_len n
            rw [List.length_map, sizeLine_eq]
            show (List.filter _ _).length < _
            omega
          · rw [upd_ne (ne_of_none q' hD)]
            exact uA _ _ (s6 _ _ q')
          · rw [upd_same, if_pos e, List.map_append]
            rfl
        · refine (if_neg (by rw [decide_eq_false e]; decide)).mpr ?_
          rw [if_neg e, List.append_nil]
          exact ⟨s6.trans uA, uA _ _ hD6⟩
      · rintro G' ⟨s6, hD6⟩
        rw [List.length_map, List.take_length] at hD6
        exact ⟨D, rfl, s6, hD6⟩
    rintro σ G2 ⟨D, rfl, s3, hD3⟩
    refine ⟨_, rfl, by show 0 ≤ sizeLine; rw [sizeLine_eq]; decide, fun em hem => ?_⟩
    have u1 := sNew (o := .lst []) hem
    have hdA : ∀ m ∈ ahd ws (i + 1) (mnu n), As m := fun m hm => (mnu_as n m (List.mem_filter.mp hm).1).1
    refine ⟨.list ((ahd ws (i + 1) (mnu n)).map PyData.str), .list (([] : List Str).map PyData.str), .lst (.inl (.inl (u1 _ _ hD3))) (dpS _), .lst (.inl (.inl upd_same)) (dpS []), shapS _ hdA, shapS [] (fun x h => by cases h), _, rfl, ?_⟩
    rw [eqvLS, ahd_nil (by omega)]
    cases el : lOk ((mnu n).map wds) (ws.take (i + 1)) with
    | false =>
      refine (if_pos rfl).mpr ?_
      rw [bad_some hi hj el] at hcd
      refine ⟨_, rfl, ?_⟩
      have := k _ (s2.trans (s3.trans u1))
      rw [hcd] at this
      exact this
    | true =>
      refine (if_neg (by decide)).mpr ?_
      have hat : atI (ws.map V.str) (0 + (i : Int)) = some (V.str wd) := by
        rw [Int.zero_add]
        exact atI_nat (by rw [List.getElem?_map, ei]; rfl)
      have hq3 := u1 _ _ (s3 _ _ hq2)
      refine ⟨_, rfl, _, rfl, _, rfl, q, _, _, _, rfl, rfl, .inl (.inl hq3), hat, wd, rfl, by rw [sizeLine_eq]; omega, _, _, rfl, rfl, _, _, rfl, rfl, ?_⟩
      have eO : ((off ws i + 1 : Nat) : Int) + (wd.length : Int) + 1 = ((off ws (i + 1) + 1 : Nat) : Int) := by
        rw [off_succ ei]
        omega
      refine ⟨_, _, congrArg (fun z => [some (V.str x), some (V.ref l), some (V.ref q), some (V.int z), some (V.int (0 + (i : Int))), some (V.ref D), none]) eO, s2.trans (s3.trans u1), hq3, fun j hj2 => ?_⟩
      by_cases e : j = i
      · rw [e]
        exact el
      · exact hj j (by omega)
  · rintro σ G ⟨x4, x5, rfl, s2, hq2, hj⟩
    rw [hlen] at hj
    rw [bad_none hj] at hcd
    refine ⟨_, rfl, x, rfl, by rw [sizeLine_eq]; omega, _, _, rfl, rfl, ?_⟩
    have := k _ s2
    rw [hcd] at this
    exact this
end
end Wq
set_option Elab.async false
set_option linter.all false
set_option maxRecDepth 100000
set_option maxHeartbeats 2000000
namespace Pl
open PySem
open SX (S S_tl S_inj split_S join_S)
theorem join_tl (c : Nat) (l : List Str) : Txt.join (S [c]) l = S (TL.joinL [c] (l.map fun x : Str => x.cps.toList)) := by
  rw [← join_S, mapS_tl]
theorem mem_jn (c : Nat) : ∀ (ls : List (List Nat)) (x : Nat), x ∈ TL.joinL [c] ls → x = c ∨ ∃ l ∈ ls, x ∈ l
  | [], x, h => by
    cases h
  | [l], x, h => .inr ⟨l, List.mem_singleton.mpr rfl, h⟩
  | l :: m :: r, x, h => by
    rw [jn2] at h
    rcases List.mem_append.mp h with h | h
    · exact .inr ⟨l, List.mem_cons_self, h⟩
    · rcases List.mem_cons.mp h with h | h
      · exact .inl h
      · rcases mem_jn c (m :: r) x h with h | ⟨k, hk, h⟩
        · exact .inl h
        · exact .inr ⟨k, List.mem_cons_of_mem _ hk, h⟩
theorem len_jn (c : Nat) : ∀ ls : List (List Nat), (TL.joinL [c] ls).length ≤ (ls.map fun l => l.length + 1).sum
  | [] => Nat.zero_le _
  | [l] => by
    show l.length ≤ l.length + 1 + 0
    omega
  | l :: m :: r => by
    have ih := len_jn c (m :: r)
    rw [jn2, List.length_append, List.length_cons, List.map_cons, List.sum_cons]
    omega
theorem tl_len (x : Str) : x.cps.toList.length = x.length := by simp [Str.length]
theorem join_len (c : Nat) (l : List Str) : (Txt.join (S [c]) l).length ≤ (l.map fun x => x.length + 1).sum := by
  rw [join_tl, SX.S_len]
  refine Nat.le_trans (len_jn c _) ?_
  rw [List.map_map]
  have : ((fun l : List Nat => l.length + 1) ∘ fun x : Str => x.cps.toList) = fun x : Str => x.length + 1 := funext fun x => by
    show x.cps.toList.length + 1 = _
    rw [tl_len]
  rw [this]
  exact Nat.le_refl _
theorem join_mem {c : Nat} {l : List Str} {x : Nat} (h : x ∈ (Txt.join (S [c]) l).cps.toList) : x = c ∨ ∃ w ∈ l, x ∈ w.cps.toList := by
  rw [join_tl] at h
  have h : x ∈ TL.joinL [c] (l.map fun x : Str => x.cps.toList) := by simpa using h
  rcases mem_jn c _ x h with h | ⟨k, hk, h⟩
  · exact .inl h
  · obtain ⟨w, hw, rfl⟩ := List.mem_map.mp hk
    exact .inr ⟨w, hw, h⟩
end Pl
namespace Wq
open PySem PySem.Spec PyProof.Rows L2
open Pl (Ws wds lns linesIn jn)
theorem log_ok {n : Int} (h0 : 0 < n) (h : n < 536870912) : n.natAbs.log2 < 9000 := by
  have h2 : n.natAbs.log2 < 30 := PySem.Flt.log2_lt_of (by decide) (by omega)
  omega
/-! the pen moves, all else stays -/
structure Pn (p c : Addr) (m : Nat) (H G : Hp) : Prop where
  sp : SameP p H G
  pen : PenAt G p c m
  old : ∃ m0, PenAt H p c m0
section
variable {p c q : Addr} {m m' : Nat} {H G G' : Hp} {o : HO} {xs : List V}
theorem Pn.refl (h : PenAt H p c m) : Pn p c m H H := ⟨.refl, h, _, h⟩
theorem Pn.draw (h : Pn p c m H G) (hp : PenAt (upd G p o) p c m') : Pn p c m' H (upd G p o) := ⟨h.sp.trans .upd, hp, h.old⟩
theorem Pn.neP (h : Pn p c m H G) (hq : H q = none) : p ≠ q ∧ c ≠ q := by
  obtain ⟨m0, h0⟩ := h.old
  obtain ⟨kvs, hk⟩ := h0.dict
  obtain ⟨ys, hy⟩ := h0.cells
  exact ⟨ne_of_none hk hq, ne_of_none hy hq⟩
theorem Pn.put (h : Pn p c m H G) (hq : H q = none) : Pn p c m H (upd G q o) := by
  have hn := h.neP hq
  refine ⟨fun b u e n => ?_, h.pen.put hn.1 hn.2, h.old⟩
  rw [upd_ne (ne_of_none e hq)]
  exact h.sp b u e n
theorem Pn.free (h : Pn p c m H G) (hq : G q = none) : H q = none := by
  obtain ⟨m0, h0⟩ := h.old
  obtain ⟨kvs, hk⟩ := h0.dict
  cases e : H q with
  | none => rfl
  | some u =>
    by_cases n : q = p
    · subst n
      obtain ⟨kvs', hk'⟩ := h.pen.dict
      rw [hq] at hk'
      cases hk'
    · have := h.sp q u e n
      rw [hq] at this
      cases this
theorem Pn.new (h : Pn p c m H G) (hq : G q = none) : Pn p c m H (upd G q o) := h.put (h.free hq)
theorem Pn.mono (h : Pn p c m H G) (hm : m ≤ m') : Pn p c m' H G := ⟨h.sp, h.pen.mono hm, h.old⟩
theorem Pn.trans (h : Pn p c m H G) (h' : Pn p c m' G G') : Pn p c m' H G' := ⟨h.sp.trans h'.sp, h'.pen, h.old⟩
theorem Pn.same (h : Pn p c m H G) (s : Same G G') : Pn p c m H G' := ⟨h.sp.trans (.of s), h.pen.same s, h.old⟩
theorem Pn.lst (h : Pn p c m H G) (hq : H q = some (.lst xs)) : G q = some (.lst xs) := by
  obtain ⟨m0, h0⟩ := h.old
  obtain ⟨kvs, hk⟩ := h0.dict
  exact h.sp q _ hq (ne_of hq hk (by intro z; cases z))
end
/-- signs of a line -/
def Ln (x : Str) : Prop := ∀ c ∈ x.cps.toList, c < 128 ∧ c ≠ 10
theorem Ln.as {x : Str} (h : Ln x) : As x := fun c hc => (h c hc).1
theorem Ln.nl {x : Str} (h : Ln x) : Pl.Nl x := fun hc => (h 10 hc).2 rfl
theorem ln_wds {x : Str} (h : Ln x) : ∀ w ∈ wds x, Ln w := fun w hw c hc => h c (Pl.wd_sub hw c hc)
theorem ln_join {l : List Str} (h : ∀ w ∈ l, Ln w) : Ln (Txt.join (Str.ofString " ") l) := by
  rw [Pl.lit_sp]
  intro c hc
  rcases Pl.join_mem hc with e | ⟨w, hw, hc⟩
  · rw [e]
    decide
  · exact h w hw c hc
theorem ln_app {a b : Str} (ha : Ln a) (hb : Ln b) : Ln (a ++ b) := by
  intro c hc
  have e : (a ++ b).cps.toList = a.cps.toList ++ b.cps.toList := by
    show (a.cps ++ b.cps).toList = _
    simp
  rw [e] at hc
  exact (List.mem_append.mp hc).elim (ha c) (hb c)
abbrev sSp : Stmt := top 28
abbrev NSp : List Str := ["_law_pen_here", "_law_line", "_law_words", "_law_at", "_law_more", "_law_word", "_law_way"]
theorem scSp : FnScope NSp ["_law_pen_here", "_law_line"] (defScope sSp) := ⟨rfl, rfl, rfl, by decide +kernel, rfl, by decide +kernel, by decide +kernel⟩
def spSp : Sp := fun vs H Q _ => ∃ (p c : Addr) (m : Nat) (x : Str), vs = [.ref p, .str x] ∧ PenAt H p c m ∧ m < 1000000 ∧ Ln x ∧ x.length ≤ 200 ∧ ∀ z G, Pn p c (m + 3) H G → Ln z → z.length ≤ x.length + 20 → Q (.str z) G
def more : List Str := ["list", "next", "back", "new", "taken", "stray", "names", "dropped", "write", "tell", "", "List", "take"]
theorem more_ok : ∀ w ∈ more, Ln w ∧ w.length ≤ 7 := by
  unfold Ln
  decide +kernel
theorem str_at {l : List Str} {i : Nat} {v : V} (h : (l.map V.str)[i]? = some v) : ∃ z, v = .str z ∧ l[i]? = some z := by
  rw [List.getElem?_map] at h
  cases e : l[i]? with
  | none => rw [e] at h; cases h
  | some z =>
    rw [e] at h
    exact ⟨z, (Option.some.inj h).symm, rfl⟩
theorem sum_app (a b : List Str) : ((a ++ b).map fun w : Str => w.length + 1).sum = (a.map fun w : Str => w.length + 1).sum + (b.map fun w : Str => w.length + 1).sum := by
  rw [List.map_append, List.sum_append]
theorem sum_cut (l : List Str) (i : Nat) : ((l.take i).map fun w : Str => w.length + 1).sum + ((l.drop i).map fun w : Str => w.length + 1).sum = (l.map fun w : Str => w.length + 1).sum := by
  rw [← sum_app, List.take_append_drop]
theorem sum_drop (l : List Str) (i : Nat) : ((l.drop (i + 1)).map fun w : Str => w.length + 1).sum ≤ ((l.drop i).map fun w : Str => w.length + 1).sum := by
  have e : l.drop (i + 1) = (l.drop i).drop 1 := by rw [List.drop_drop]
  have := sum_cut (l.drop i) 1
  rw [e]
  omega
theorem sums (l : List Str) : (l.map (·.length)).sum + l.length * 1 = (l.map fun w : Str => w.length + 1).sum := by
  induction l with
  | nil => rfl
  | cons w r ih =>
    rw [List.map_cons, List.map_cons, List.sum_cons, List.sum_cons, List.length_cons, ← ih]
    omega
section
variable {P : Program} {w : World} {K : PySem.W.Frag} {mg : Str → Option Value} {base : Heap}
theorem ok_Sp (D : DefAt K mg "_law_spoilt" sSp) (T : Txt K mg) (CD : Cl P w K mg base 1 "_law_draw" (spDraw K)) (CP : Cl P w K mg base 2 "_law_pick" (spPick K)) : Cl P w K mg base 3 "_law_spoilt" spSp := by
  refine cl_of D scSp (fun vs H Q E h => ?_) (fun _ _ _ _ _ _ us hl => match us, hl with | [_, _], _ => rfl) (fun f cdv A outer s H vs Q E hr h => ?_)
  · obtain ⟨p, c, m, x, rfl, _⟩ := h
    rfl
  obtain ⟨p, c, m, x, rfl, hP, hm, hx, hxl, k⟩ := h
  refine ⟨_, pss_cons (ps_set (i := 2) scSp.nd rfl (Or.inl rfl) (pe_split (pv 1) pe_str))
(pss_cons (ps_set (i := 3) scSp.nd rfl (Or.inl rfl) (pe_cl CD hr (by decide) rfl (pa_cons (pv 0) (pa_cons (pe_callB call_len_seq (by rfl) (by exact T.len) PySem.boot_len (pa_cons (pv 2) pa_nil)) pa_nil))))
(pss_cons (ps_set (i := 4) scSp.nd rfl (Or.inl rfl) (pe_lst (pa_cons pe_str (pa_cons pe_str (pa_cons pe_str (pa_cons pe_str (pa_cons pe_str (pa_cons pe_str (pa_cons pe_str (pa_cons pe_str (pa_cons pe_str (pa_cons pe_str (pa_cons pe_str (pa_cons pe_str (pa_cons pe_str pa_nil)))))))))))))))
(C8.pss_cut (ps_par (i := 5) (j := 6) (by rfl) scSp.nd rfl rfl (by decide) rfl rfl  (pa_cons (pe_cl CP hr (by decide) rfl (pa_cons (pv 0) (pa_cons (pv 4) pa_nil))) (pa_cons (pe_cl CD hr (by decide) rfl (pa_cons (pv 0) (pa_cons pe_int pa_nil))) pa_nil)) (by rfl))
(pss_cons (ps_if (pt_cmpR op_eq (pv 6) pe_int (nomark _))
(pss_one (ps_ret (pe_join pe_str (pe_op op_cat (pe_op op_cat (pe_slice sl_list (pv 2) po_none (po_some (pv 3))) (pe_lst (pa_cons (pv 5) pa_nil))) (pe_slice sl_list (pv 2) (po_some (pe_op op_add (pv 3) pe_int)) po_none)))))
pss_nil)
(pss_cons (ps_if (pt_cmpR op_eq (pv 6) pe_int (nomark _))
(pss_one (ps_ret (pe_join pe_str (pe_op op_cat (pe_op op_cat (pe_slice sl_list (pv 2) po_none (po_some (pv 3))) (pe_lst (pa_cons (pv 5) pa_nil))) (pe_slice sl_list (pv 2) (po_some (pv 3)) po_none)))))
pss_nil)
(pss_one (ps_ret (pe_ifExp (pt_cmpR op_eq (pv 6) pe_int (nomark _)) (pe_join pe_str (pe_op op_cat (pe_slice sl_list (pv 2) po_none (po_some (pv 3))) (pe_slice sl_list (pv 2) (po_some (pe_op op_add (pv 3) pe_int)) po_none))) (pe_op op_add_str (pe_op op_add_str (pv 1) pe_str) (pv 5)))))))))), ?_⟩
  refine ⟨_, rfl, ⟨_, rfl⟩, x, Str.ofString " ", rfl, rfl, by rfl, by rw [sizeLine_eq]; omega, fun q hq => ?_⟩
  rw [Pl.split_sp]
  have hwl := wds_len x
  have hwn := Pl.wds_ne x
  have hW := ln_wds hx
  have hsum := Pl.wds_sum x
  have hjoin := Pl.join_sp x
  generalize hws : wds x = ws at *
  have hlen : (ws.map V.str).length = ws.length := List.length_map ..
  have hpos : 0 < ws.length := List.length_pos_iff.mpr hwn
  have n0 : Pn p c m H (upd H q (.lst (ws.map V.str))) := (Pn.refl hP).new hq
  have hq0 : upd H q (.lst (ws.map V.str)) q = some (.lst (ws.map V.str)) := upd_same
  refine ⟨_, rfl, _, rfl, q, _, rfl, .inl (.inl (.inl hq0)), p, c, m, _, rfl, n0.pen, by omega, by rw [hlen]; omega, log_ok (by rw [hlen]; omega) (by rw [hlen]; omega), fun at_ o1 h0 h1 hp1 => ?_⟩
  rw [hlen] at h1
  have n1 := n0.draw hp1
  have hq1 := n0.pen.lst hq0 (o := o1)
  obtain ⟨a, rfl⟩ : ∃ a : Nat, at_ = (a : Int) := ⟨at_.toNat, by omega⟩
  have ha : a < ws.length := by omega
  refine ⟨by show 13 ≤ sizeLine; rw [sizeLine_eq]; decide, fun l hl => ?_⟩
  have n2 := n1.new (o := .lst (more.map V.str)) hl
  have hl2 : upd _ l (.lst (more.map V.str)) l = some (.lst (more.map V.str)) := upd_same (H := upd (upd H q (.lst (ws.map V.str))) p o1)
  have hq2 := sNew (o := .lst (more.map V.str)) hl _ _ hq1
  refine ⟨fun σ G => ∃ (wd : Str) (wy : Int), σ = [some (.ref p), some (.str x), some (.ref q), some (nI a), some (.ref l), some (.str wd), some (.int wy)] ∧ Pn p c (m + 3) H G ∧ G q = some (.lst (ws.map V.str)) ∧ Ln wd ∧ wd.length ≤ 7, ?_, ?_⟩
  · refine ⟨_, rfl, _, rfl, p, c, m + 1, _, more.map V.str, rfl, n2.pen, .lst (.inl (.inl hl2)), by omega, by decide, by decide, fun i v o2 hv hp2 => ?_⟩
    obtain ⟨wd, rfl, ew⟩ := str_at hv
    obtain ⟨w1, w2⟩ := more_ok wd (List.mem_of_getElem? ew)
    have n3 := n2.draw hp2
    have hq3 := n2.pen.lst hq2 (o := o2)
    refine ⟨_, rfl, p, c, m + 2, 4, rfl, n3.pen, by omega, by decide, log_ok (by decide) (by decide), fun wy o3 _ _ hp3 => ?_⟩
    exact ⟨_, _, rfl, wd, wy, rfl, n3.draw hp3, n3.pen.lst hq3, w1, w2⟩
  rintro σ G ⟨wd, wy, rfl, n3, hq3, w1, w2⟩
  have eA : (a : Int) + 1 = ((a + 1 : Nat) : Int) := by omega
  have hsz : ∀ l : List Str, (l.map fun w : Str => w.length + 1).sum ≤ x.length + 20 → (l.map (·.length)).sum + l.length * (" " : Str).length ≤ 16777216 := fun l h => by
    have : (" " : Str).length = 1 := rfl
    rw [this, sums]
    omega
  have c1 := sum_cut ws a
  have c2 := sum_drop ws a
  have jl : ∀ l : List Str, (l.map fun w : Str => w.length + 1).sum ≤ x.length + 20 → (Txt.join (Str.ofString " ") l).length ≤ x.length + 20 := fun l h => by
    rw [Pl.lit_sp]
    exact Nat.le_trans (Pl.join_len 32 l) h
  have g1 : (ws.take a).length ≤ 300 := by rw [List.length_take]; omega
  refine ⟨_, rfl, rfl, _, rfl, ?_⟩
  by_cases e0 : wy = 0
  · refine (if_pos (decide_eq_true (congrArg V.int e0))).mpr ?_
    refine ⟨⟨_, rfl⟩, _, rfl, _, rfl, _, rfl, q, _, rfl, .inl (.inl hq3), fun r1 hr1 => ?_⟩
    rw [cut_to, ← List.map_take]
    have u1 := sNew (o := .lst ((ws.take a).map V.str)) hr1
    refine ⟨_, rfl, by show 1 ≤ sizeLine; rw [sizeLine_eq]; decide, fun r2 hr2 => ?_⟩
    have u2 := sNew (o := .lst [.str wd]) hr2
    refine ⟨r1, r2, _, _, rfl, rfl, u2 _ _ upd_same, upd_same, by rw [List.length_map, sizeLine_eq]; show _ + 1 ≤ _; omega, fun r3 hr3 => ?_⟩
    have u3 := sNew (o := .lst ((ws.take a).map V.str ++ [.str wd])) hr3
    refine ⟨_, rfl, _, rfl, _, _, rfl, rfl, _, rfl, q, _, rfl, .inl (.inl (u3 _ _ (u2 _ _ (u1 _ _ hq3)))), fun r4 hr4 => ?_⟩
    rw [eA, cut_from, ← List.map_drop]
    have u4 := sNew (o := .lst ((ws.drop (a + 1)).map V.str)) hr4
    refine ⟨r3, r4, _, _, rfl, rfl, u4 _ _ upd_same, upd_same, by rw [List.length_append, List.length_map, List.length_map, List.length_drop, sizeLine_eq]; show _ + 1 + _ ≤ _; omega, fun r5 hr5 => ?_⟩
    have u5 := sNew (o := .lst ((ws.take a).map V.str ++ [.str wd] ++ (ws.drop (a + 1)).map V.str)) hr5
    have hs : ((ws.take a ++ [wd] ++ ws.drop (a + 1)).map fun w : Str => w.length + 1).sum ≤ x.length + 20 := by
      rw [sum_app, sum_app]
      show _ + (wd.length + 1 + 0) + _ ≤ _
      omega
    refine ⟨Str.ofString " ", r5, ws.take a ++ [wd] ++ ws.drop (a + 1), rfl, rfl, .inl (.inl (.inl (by rw [upd_same, List.map_append, List.map_append]; rfl))), hsz _ hs, ?_⟩
    refine k _ _ ((n3.same (u1.trans (u2.trans (u3.trans (u4.trans u5)))))) (ln_join fun w hw => ?_) (jl _ hs)
    rcases List.mem_append.mp hw with hw | hw
    · rcases List.mem_append.mp hw with hw | hw
      · exact hW w (List.mem_of_mem_take hw)
      · rw [List.mem_singleton.mp hw]
        exact w1
    · exact hW w (List.mem_of_mem_drop hw)
  refine (if_neg (fun z => e0 (V.int.inj (of_decide_eq_true z)))).mpr ?_
  refine ⟨_, rfl, rfl, _, rfl, ?_⟩
  by_cases e1 : wy = 1
  · refine (if_pos (decide_eq_true (congrArg V.int e1))).mpr ?_
    refine ⟨⟨_, rfl⟩, _, rfl, _, rfl, _, rfl, q, _, rfl, .inl (.inl hq3), fun r1 hr1 => ?_⟩
    rw [cut_to, ← List.map_take]
    have u1 := sNew (o := .lst ((ws.take a).map V.str)) hr1
    refine ⟨_, rfl, by show 1 ≤ sizeLine; rw [sizeLine_eq]; decide, fun r2 hr2 => ?_⟩
    have u2 := sNew (o := .lst [.str wd]) hr2
    refine ⟨r1, r2, _, _, rfl, rfl, u2 _ _ upd_same, upd_same, by rw [List.length_map, sizeLine_eq]; show _ + 1 ≤ _; omega, fun r3 hr3 => ?_⟩
    have u3 := sNew (o := .lst ((ws.take a).map V.str ++ [.str wd])) hr3
    refine ⟨_, rfl, _, rfl, _, rfl, q, _, rfl, .inl (.inl (u3 _ _ (u2 _ _ (u1 _ _ hq3)))), fun r4 hr4 => ?_⟩
    rw [cut_from, ← List.map_drop]
    have u4 := sNew (o := .lst ((ws.drop a).map V.str)) hr4
    refine ⟨r3, r4, _, _, rfl, rfl, u4 _ _ upd_same, upd_same, by rw [List.length_append, List.length_map, List.length_map, List.length_drop, sizeLine_eq]; show _ + 1 + _ ≤ _; omega, fun r5 hr5 => ?_⟩
    have u5 := sNew (o := .lst ((ws.take a).map V.str ++ [.str wd] ++ (ws.drop a).map V.str)) hr5
    have hs : ((ws.take a ++ [wd] ++ ws.drop a).map fun w : Str => w.length + 1).sum ≤ x.length + 20 := by
      rw [sum_app, sum_app]
      show _ + (wd.length + 1 + 0) + _ ≤ _
      omega
    refine ⟨Str.ofString " ", r5, ws.take a ++ [wd] ++ ws.drop a, rfl, rfl, .inl (.inl (.inl (by rw [upd_same, List.map_append, List.map_append]; rfl))), hsz _ hs, ?_⟩
    refine k _ _ ((n3.same (u1.trans (u2.trans (u3.trans (u4.trans u5)))))) (ln_join fun w hw => ?_) (jl _ hs)
    rcases List.mem_append.mp hw with hw | hw
    · rcases List.mem_append.mp hw with hw | hw
      · exact hW w (List.mem_of_mem_take hw)
      · rw [List.mem_singleton.mp hw]
        exact w1
    · exact hW w (List.mem_of_mem_drop hw)
  refine (if_neg (fun z => e1 (V.int.inj (of_decide_eq_true z)))).mpr ?_
  refine ⟨_, rfl, rfl, _, rfl, ?_⟩
  by_cases e2 : wy = 2
  · refine (if_pos (decide_eq_true (congrArg V.int e2))).mpr ?_
    refine ⟨⟨_, rfl⟩, _, rfl, _, rfl, _, rfl, q, _, rfl, .inl (.inl hq3), fun r1 hr1 => ?_⟩
    rw [cut_to, ← List.map_take]
    have u1 := sNew (o := .lst ((ws.take a).map V.str)) hr1
    refine ⟨_, rfl, _, rfl, _, _, rfl, rfl, _, rfl, q, _, rfl, .inl (.inl (u1 _ _ hq3)), fun r4 hr4 => ?_⟩
    rw [eA, cut_from, ← List.map_drop]
    have u4 := sNew (o := .lst ((ws.drop (a + 1)).map V.str)) hr4
    refine ⟨r1, r4, _, _, rfl, rfl, u4 _ _ upd_same, upd_same, by rw [List.length_map, List.length_map, List.length_drop, sizeLine_eq]; omega, fun r5 hr5 => ?_⟩
    have u5 := sNew (o := .lst ((ws.take a).map V.str ++ (ws.drop (a + 1)).map V.str)) hr5
    have hs : ((ws.take a ++ ws.drop (a + 1)).map fun w : Str => w.length + 1).sum ≤ x.length + 20 := by
      rw [sum_app]
      omega
    refine ⟨Str.ofString " ", r5, ws.take a ++ ws.drop (a + 1), rfl, rfl, .inl (.inl (.inl (by rw [upd_same, List.map_append]))), hsz _ hs, ?_⟩
    refine k _ _ ((n3.same (u1.trans (u4.trans u5)))) (ln_join fun w hw => ?_) (jl _ hs)
    rcases List.mem_append.mp hw with hw | hw
    · exact hW w (List.mem_of_mem_take hw)
    · exact hW w (List.mem_of_mem_drop hw)
  refine (if_neg (fun z => e2 (V.int.inj (of_decide_eq_true z)))).mpr ?_
  have b1 : x.length + (" " : Str).length ≤ sizeLine := by
    have : (" " : Str).length = 1 := rfl
    rw [this, sizeLine_eq]
    omega
  have hl1 : (x ++ Str.ofString " ").length = x.length + 1 := by rw [strLen]; rfl
  refine ⟨_, rfl, _, _, rfl, rfl, b1, _, rfl, _, _, rfl, rfl, by rw [hl1, sizeLine_eq]; omega, ?_⟩
  refine k _ _ n3 (ln_app (ln_app hx ?_) w1) (by rw [strLen, hl1]; omega)
  intro c hc
  have : c ∈ ([32] : List Nat) := hc
  rw [List.mem_singleton.mp this]
  decide
end
end Wq
set_option Elab.async false
set_option linter.all false
set_option maxRecDepth 100000
set_option maxHeartbeats 4000000
/-! try with two clauses, both of which name the error -/
namespace Tr
open PySem PySem.Spec PyProof.Rows L2
def back (i : Nat) (D : Ends) : Ends := { nx := fun σ H => D.nx (σ.set i none) H, rt := D.rt, bk := fun σ H => D.bk (σ.set i none) H, ct := fun σ H => D.ct (σ.set i none) H }
def wAs2 (K : PySem.W.Frag) (c1 c2 : Value) (i : Nat) (t1 t2 : Addr → Value → Option Addr → TS) (D : Ends) : WX := fun cls d σ H =>
  (PySem.W.exmOne K cls c1 = some true ∧ ∀ a, H a = none → t1 a cls d (back i D) (σ.set i (some (.ref a))) H) ∨
  (PySem.W.exmOne K cls c1 = some false ∧ PySem.W.exmOne K cls c2 = some true ∧ ∀ a, H a = none → t2 a cls d (back i D) (σ.set i (some (.ref a))) H)
variable {X : Cx} {x1 x2 n : Str} {c1 c2 : Value} {i : Nat} {body suite1 suite2 : List Stmt} {b1 b2 : Stmt} {np1 np2 pos pos1 pos2 : Pos} {tb : WX → TS} {t1 t2 : Addr → Value → Option Addr → TS}
/-- the suite of a clause -/
theorem as_suite {pins : List (Addr × Obj)} {σ' : L2.St} {H' : Hp} {sI s3 : Shared} {B : Heap} {a : Addr} {cls : Value} {d : Option Addr} {D : Ends} {R : Result → Shared → Prop}
    (hN : X.N.Nodup) (hi : X.N[i]? = some n) (hln : X.env.kindOf n = some .local)
    (hsu : ∀ (a : Addr) (oe : Obj) (cls : Value) (d : Option Addr) (pn : List (Addr × Obj)), Zc cls d oe → (∃ vs, oe.data = Data.fields vs) → PSs (X.suite a ((a, oe) :: pn)) (b1 :: suite1) (t1 a cls d))
    (J : L2.Inv X pins σ' H' sI) (nb : ∀ (b : Addr) (o : Obj), sI.heap.get? b = some o → ¬b ∈ frs X.stack → B.get? b = some o) (os : s3.os = sI.os) (ag : PyProof.Rows.AllBare s3.gens)
    {l : List Env} (fl3 : HandSPX.FlyingZ B l a (Zc cls d) s3.heap) (up3 : sI.heap.UpToSlots s3.heap) (na : H' a = none) (nL : a ≠ X.env.locals) (nF : ¬a ∈ X.fs)
    (hy : t1 a cls d (back i D) (σ'.set i (some (.ref a))) H')
    (hR : ∀ f s2, wpAny (model X.prog X.w) X.A (do
        bindName X.env n Value.none
        unbindBehindTheSuite X.env n pos1) (fun _ s3 => SP X pins D f s3) X.xe s2 → R (.ok f) s2) :
    codeAny (model X.prog X.w) (X.A.mark (some (.ref a))) (Code.handlers (.ref a) [ExceptHandler.ExceptHandler none (some n) (b1 :: suite1) pos1] X.env) R s3 := by
  have hloc : L2.Loc X.env.scope n := .inl hln
  refine codeAny_handlers_suite_as ?_
  refine HandSPX.lands_againZ fl3 fun h4 fl4 up4 => ?_
  have J4 := J.landed (s' := { s3 with heap := h4 }) nb fl4.1 (up3.trans up4) os ag
  obtain ⟨oe4, vs4, he4, hz4, hd4⟩ := fl4.there
  have S4 := J4.suite he4 hd4 na nL nF
  refine store_ok (X := X.suite a ((a, oe4) :: (X.pn ++ pins))) (v := .ref a) S4 hN hi hloc rfl (fun s5 S5 => ?_) (.inr hln)
  refine wpAny_mono ((hsu a oe4 cls d (X.pn ++ pins) hz4 ⟨vs4, hd4⟩).run [] s5 _ H' (back i D) S5 hy) (fun f s6 hsp => hR f s6 ?_) (fun _ _ z => z.elim)
  have end_ : ∀ {σ6 : L2.St} {H6 : Hp} {Q : Shared → Prop}, L2.Inv (X.suite a ((a, oe4) :: (X.pn ++ pins))) [] σ6 H6 s6 → (∀ s7, L2.Inv X pins (List.set σ6 i none) H6 s7 → Q s7) → wpAny (model X.prog X.w) X.A (do
        bindName X.env n Value.none
        unbindBehindTheSuite X.env n pos1) (fun _ s7 => Q s7) X.xe s6 := fun S6 hq => gone_ok (S6.unsuite J.ok) hN hi hln hq
  cases f with
  | next =>
    obtain ⟨σ6, H6, S6, q6⟩ := hsp
    exact end_ S6 fun s7 J7 => ⟨_, _, J7, q6⟩
  | brk =>
    obtain ⟨σ6, H6, S6, q6⟩ := hsp
    exact end_ S6 fun s7 J7 => ⟨_, _, J7, q6⟩
  | cont =>
    obtain ⟨σ6, H6, S6, q6⟩ := hsp
    exact end_ S6 fun s7 J7 => ⟨_, _, J7, q6⟩
  | ret u =>
    obtain ⟨v6, σ6, H6, S6, r6, q6⟩ := hsp
    exact end_ S6 fun s7 J7 => ⟨_, _, _, J7, r6, q6⟩
/-- a test of a clause: what is caught is a class by name -/
theorem name_test {pins : List (Addr × Obj)} {σ' : L2.St} {H' : Hp} {a : Addr} {oe : Obj} {s3 : Shared} {x : Str} {c : Value} {cls : Value} {b : Bool} {np pos : Pos} {R : Result → Shared → Prop}
    (S3 : L2.Inv (X.suite a ((a, oe) :: (X.pn ++ pins))) [] σ' H' s3) (he : s3.heap.get? a = some oe) (hz : oe.cls = cls) (hc : Gl X x ∧ (x == ("__debug__" : Str)) = false ∧ X.mg x = some c) (hb : PySem.W.exmOne X.K cls c = some b) (q : R (.ok (if b = true then Flow.brk else Flow.next)) s3) :
    codeAny (model X.prog X.w) (X.A.mark (some (.ref a))) (Code.handlers (.ref a) [ExceptHandler.ExceptHandler (some (Expr.Name x np)) none [] pos] X.env) R s3 := by
  refine codeAny_handlers_test ?_
  have LT : PySem.W.Looks (model X.prog X.w) s3.heap (typeOf (.ref a)) cls := fun A Q E s k q => wpAny_typeOf_ref (k a oe he) (by rw [hz]; exact q)
  have LM : PySem.W.Looks (model X.prog X.w) s3.heap (excMatches (.ref a) c) b := PySem.W.exm_one S3.kIn LT hb
  obtain ⟨hg, hdbg, hm⟩ := hc
  exact ld_glob S3 hg hm (LM.here q) hdbg
theorem ps_try_as2 (hs : X.stack = X.env :: X.outer) (hf : X.env.frame = some X.env.locals) (hN : X.N.Nodup) (hi : X.N[i]? = some n) (hln : X.env.kindOf n = some .local) (hc1 : Gl X x1 ∧ (x1 == ("__debug__" : Str)) = false ∧ X.mg x1 = some c1) (hc2 : Gl X x2 ∧ (x2 == ("__debug__" : Str)) = false ∧ X.mg x2 = some c2)
    (hb : ∀ (W : WX) (pn : List (Addr × Obj)) (xe : Value → Shared → Prop), Takes (X.tr pn xe) W → PassesOwn (model X.prog X.w) X.A X.env xe → PSs (X.tr pn xe) body (tb W))
    (hsu1 : ∀ (a : Addr) (oe : Obj) (cls : Value) (d : Option Addr) (pn : List (Addr × Obj)), Zc cls d oe → (∃ vs, oe.data = Data.fields vs) → PSs (X.suite a ((a, oe) :: pn)) (b1 :: suite1) (t1 a cls d))
    (hsu2 : ∀ (a : Addr) (oe : Obj) (cls : Value) (d : Option Addr) (pn : List (Addr × Obj)), Zc cls d oe → (∃ vs, oe.data = Data.fields vs) → PSs (X.suite a ((a, oe) :: pn)) (b2 :: suite2) (t2 a cls d)) :
    PS X (.Try body [.ExceptHandler (some (.Name x1 np1)) (some n) (b1 :: suite1) pos1, .ExceptHandler (some (.Name x2 np2)) (some n) (b2 :: suite2) pos2] [] [] pos) (fun D σ H => tb (wAs2 X.K c1 c2 i t1 t2 D) D σ H) := by
  refine ⟨fun pins s σ H D I h => ?_⟩
  have ok := I.ok
  have hfr : X.A.frames = some (X.env :: X.outer) := by rw [← hs]; exact ok.frames
  refine wpAny_Try_except (wpAny_mono ((hb (wAs2 X.K c1 c2 i t1 t2 D) (X.pn ++ pins) _ (fun u s' xx => ?_) PassesOwn.looking).run [] s σ H D (Inv.toTry I _) h) (fun f s1 hsp => ?_) fun e s1 he => he)
  · obtain ⟨a, B, sI, pins', σ', H', cls, d, rfl, J', nb, up, sky, na, os, ag, hw⟩ := xx
    have J := Inv.ofTry J' ok
    have sky' : Sky B (X.env :: X.outer) a (Zc cls d) X.env.locals s'.heap := by rw [← hs]; exact sky
    refine Sky.land Zc.steady hfr hf sky' fun h3 fl3 up3 => ?_
    have J3 := J.landed (s' := { s' with heap := h3 }) nb fl3.1 (up.trans up3) os ag
    obtain ⟨oe3, vs3, he3, hz3, hd3⟩ := fl3.there
    have nfr : ¬a ∈ frs (X.env :: X.outer) := fun hm => by
      obtain ⟨_, o', e', hnf⟩ := Heap.FunFrames.mem fl3.2.2.1 hm
      rw [he3] at e'
      obtain rfl := Option.some.inj e'
      exact hnf vs3 hd3
    have nL : a ≠ X.env.locals := fun z => nfr (List.mem_filterMap.mpr ⟨X.env, List.mem_cons_self, by rw [hf, z]⟩)
    have nF : ¬a ∈ X.fs := fun hm => by
      obtain ⟨e, he, q⟩ := List.mem_filterMap.mp hm
      exact nfr (List.mem_filterMap.mpr ⟨e, List.mem_cons_of_mem _ he, q⟩)
    have S3 := J3.suite he3 hd3 na nL nF
    refine wpAny_handleBy_cons ?_ (by intro q; cases q)
    rcases hw with ⟨e1, hy⟩ | ⟨e1, e2, hy⟩
    · refine name_test S3 he3 hz3.1 hc1 e1 ?_
      exact as_suite hN hi hln hsu1 J nb os ag fl3 (up.trans up3) na nL nF (hy a na) fun f s2 q => q
    · refine name_test S3 he3 hz3.1 hc1 e1 ?_
      refine wpAny_handleBy_cons ?_ (by intro q; cases q)
      refine name_test S3 he3 hz3.1 hc2 e2 ?_
      exact as_suite hN hi hln hsu2 J nb os ag fl3 (up.trans up3) na nL nF (hy a na) fun f s2 q => q
  · cases f with
    | next =>
      obtain ⟨σ', H', J', q⟩ := hsp
      exact wpAny_execs_nil ⟨σ', H', Inv.ofTry J' ok, q⟩
    | brk =>
      obtain ⟨σ', H', J', q⟩ := hsp
      exact ⟨σ', H', Inv.ofTry J' ok, q⟩
    | cont =>
      obtain ⟨σ', H', J', q⟩ := hsp
      exact ⟨σ', H', Inv.ofTry J' ok, q⟩
    | ret u =>
      obtain ⟨v, σ', H', J', r, q⟩ := hsp
      exact ⟨v, σ', H', Inv.ofTry J' ok, r, q⟩
end Tr
set_option Elab.async false
set_option linter.all false
set_option maxRecDepth 100000
set_option maxHeartbeats 2000000
namespace Wq
open PySem PySem.Spec PyProof.Rows L2
open Pl (Ws wds lns linesIn jn due)
/-! an object is made where what is let out knows the slots -/
theorem make_at {X : Cx} {CX : CXT} {k : Nat} {f C : Addr} {fd : FuncData} {ps : List Str} {sp : Sp} {E : L2.St → XK} {pins : List (Addr × Obj)} {σ : L2.St} {H : Hp} {s : Shared} {Q : VK} {us : List Value} {vs : List V}
    (M : Mk X.K C f) (F : FnOk X.prog X.w X.K X.mg X.base CX k f fd ps sp)
    (hr : Room (k + 1) X.A) (hb : L2.Binds X.K fd ps []) (hx : PassesAt CX X σ (E σ))
    (I : L2.Inv X pins σ H s) (r : Vals vs us)
    (hs : ∀ x dx, H x = none → H dx = none → dx ≠ x → sp (.ref x :: vs) (upd (upd H dx (.own x)) x (.ins C dx [])) (fun v H2 => v = .non ∧ Q (.ref x) H2) (E σ)) :
    wpAny (model X.prog X.w) X.A (call (.ref C) us) (EP X pins σ Q) X.xe s := by
  have J := Inv.made (C := C) I
  have hs' := hs (s.heap.objs.size + 1) s.heap.objs.size (I.hok.fresh (Nat.le_succ _))
    (I.hok.fresh (Nat.le_refl _)) (Nat.ne_of_lt (Nat.lt_succ_self _))
  have rr : Vals (V.ref (s.heap.objs.size + 1) :: vs)
    (Value.ref (s.heap.objs.size + 1) :: us) := .cons rfl r
  have hlen : (Value.ref (s.heap.objs.size + 1) :: us ++ []).length = ps.length := by
    rw [List.append_nil]
    exact rr.length.symm.trans (F.len _ _ _ _ hs')
  have hbb := hb _ (Value.ref (s.heap.objs.size + 1) :: us) J.kIn hlen
  rw [List.append_nil] at hbb
  refine wpAny_call (make_map (f := f) I.kIn M.makes M.init (beq_iff_eq.mp M.fn) ?_)
  refine codeAny_mono (F.run _ X.stack _ _ ⟨Value.ref (s.heap.objs.size + 1) :: us, []⟩
    _ _ _ (E σ) (hr.make C us []) (J.env0.make C us []) hbb rr hs') fun z s' hz => ?_
  match z, hz with
  | .error e, hz => exact hx pins _ _ e s' J hz
  | .ok (.ret u), hz =>
    obtain ⟨v, G, J3, rv, ev, qq⟩ := J.after hz
    subst ev
    exact ⟨rv, ⟨V.ref (s.heap.objs.size + 1), G, J3, rfl, qq⟩⟩
def tMakeV (C : Addr) (sp : Sp) (E : L2.St → XK) (t : TA) : TE := fun σ H Q => t σ H fun vs H1 => ∀ x dx, H1 x = none → H1 dx = none → dx ≠ x →
  sp (.ref x :: vs) (upd (upd H1 dx (.own x)) x (.ins C dx [])) (fun v H2 => v = .non ∧ Q (.ref x) H2) (E σ)
theorem pe_makeV {X : Cx} {CX : CXT} {k : Nat} {f C : Addr} {fd : FuncData} {ps : List Str} {sp : Sp} {E : L2.St → XK} {x : Str} {p pos : Pos} {e : Expr} {es : List Expr} {t : TA}
    (M : Mk X.K C f) (F : FnOk X.prog X.w X.K X.mg X.base CX k f fd ps sp) (hr : Room (k + 1) X.A)
    (hg : Gl X x) (hm : X.mg x = some (.ref C)) (hb : L2.Binds X.K fd ps []) (hx : ∀ σ, PassesAt CX X σ (E σ)) (ha : PA X (e :: es) t)
    (hdb : (x == ("__debug__" : Str)) = false := by decide) (hst : starEach (e :: es) X.env = (false, eval e X.env) :: starEach es X.env := by rfl) (hpl : (backTo pos (starEach es X.env)).any (·.1) = false := by rfl) :
    PE X (.Call (.Name x p) (e :: es) [] pos) (tMakeV C sp E t) := by
  refine ⟨fun pins s σ H Q I hh => ?_⟩
  refine wpAny_Call_Name_kw (ld_glob I hg hm ?_ hdb)
  refine PySem.W.callWith_K (h₀ := X.base) I.ok.mod.kin M.kp (thn (ha.run pos pins s σ H _ I hh) fun us s1 z => ?_) hst hpl
  obtain ⟨vs, H1, I1, r, q⟩ := z
  exact ⟨I1.kIn, make_at M F hr hb (hx σ) I1 r q⟩
/-- isinstance(e, c): e the exception that the suite holds, with fields of its own -/
theorem call_isD {X : Cx} {a D : Addr} {oe : Obj} {cls : Value} {d : Option Addr} {pn : List (Addr × Obj)} (T : ExcC X.K D) (hz : Zc cls d oe) (hf : ∃ vs, oe.data = .fields vs) :
    CallR (X.suite a ((a, oe) :: pn)) (.builtin "isinstance") (fun xs H Q => ∃ (c : V) (cv : Value) (b : Bool) (dd : Addr) (fs : List (Str × V)), xs = [.ref a, c] ∧ cls = .ref D ∧ d = some dd ∧ H dd = some (.xd fs) ∧ (∀ u, RelV c u → u = cv) ∧ PySem.W.kitOne X.K (.ref D) cv = some b ∧ Q (.bl b) H) := by
  intro pins s σ H xs us Q I r h
  obtain ⟨c, cv, b, dd, fs, rfl, ec, ed, hd, hcv, e, q⟩ := h
  subst ec ed
  cases r with
  | cons rx rr =>
    cases rr with
    | cons rt rr =>
      cases rr
      cases rx
      have ec := hcv _ rt
      subst ec
      obtain ⟨ha, _⟩ := I.pin (a, oe) (List.mem_append.mpr (.inl List.mem_cons_self))
      obtain ⟨vs, hv⟩ := hf
      have hx : ObjOk X.prog X.w H s.heap dd (.xd fs) := I.hok dd _ hd
      obtain ⟨mA, hns, _⟩ := hx
      obtain ⟨od, ho, _⟩ := lookIn_ns hns
      have J : PySem.W.InstAt s.heap a oe D (some od) := ⟨ha, hz.1, by unfold PySem.W.notCls; rw [hv] <;> rfl, by rw [hz.2]; exact ho⟩
      exact PySem.W.kia_one (PySem.W.kitx_exc (by obtain ⟨cd, hc, _⟩ := PySem.W.any_some T.hd; rw [hc]; rfl) T.hg T.hk T.hs T.ha T.hn T.ht T.hm) I.kIn J e (fun z => nomatch z) fun tk => ⟨.bl b, H, I.kept (t' := tk) fun _ _ z => z, rfl, q⟩
theorem made_same2 {H : Hp} {x dx : Addr} {o1 o2 : HO} (hx : H x = none) (hd : H dx = none) : Same H (upd (upd H dx o1) x o2) := made_same hx hd .refl
/-- lines that are joined and told again -/
structure Lok (l : List Str) : Prop where
  ln : ∀ x ∈ l, Ln x ∧ x.length ≤ 220
  few : l.length ≤ 40
  no : l ≠ [("" : Str)]
theorem Lok.lines {l : List Str} (h : Lok l) : linesIn (jn l) = l := Pl.lines_jn h.no fun x hx => (h.ln x hx).1.nl
theorem lok_sum {l : List Str} (h : ∀ x ∈ l, x.length ≤ 220) : (l.map fun w : Str => w.length + 1).sum ≤ l.length * 221 := by
  induction l with
  | nil => exact Nat.zero_le _
  | cons y r ih =>
    have h1 := h y List.mem_cons_self
    have h2 := ih fun x hx => h x (List.mem_cons_of_mem _ hx)
    rw [List.map_cons, List.sum_cons, List.length_cons, Nat.succ_mul]
    omega
theorem Lok.sum {l : List Str} (h : Lok l) : (l.map fun w : Str => w.length + 1).sum ≤ 10000 := by
  have h1 := lok_sum fun x hx => (h.ln x hx).2
  have h2 := h.few
  have : l.length * 221 ≤ 40 * 221 := Nat.mul_le_mul_right _ h2
  omega
theorem Lok.len {l : List Str} (h : Lok l) : (jn l).length ≤ 10000 := by
  unfold jn
  rw [Pl.lit_nl]
  exact Nat.le_trans (Pl.join_len 10 l) h.sum
theorem Lok.size {l : List Str} (h : Lok l) : (l.map (·.length)).sum + l.length * ("\n" : Str).length ≤ 16777216 := by
  have : ("\n" : Str).length = 1 := rfl
  rw [this, sums]
  have := h.sum
  omega
def dueV (d : Pl.Due) (x y : Str) : List V := match d with
  | .ok => [.str x, .str y]
  | .many n => [.str "many", .str "lines", nI n, nI 16]
  | .text l k => [.str "text", nI l, nI k]
structure TxtS (K : PySem.W.Frag) (mg : Str → Option Value) (CT CM CS : Addr) : Prop where
  gS : mg "SearchError" = some (.ref CS)
  xc : ExcC K CT
  kS : PySem.W.kitOne K (.ref CT) (.ref CS) = some true
  ne : PySem.W.exmOne K (.ref CM) (.ref CT) = some false
abbrev sTd : Stmt := top 29
theorem scTd : FnScope ["_law_commit", "_law_recovery", "_law_made", "e"] ["_law_commit", "_law_recovery"] (defScope sTd) := ⟨rfl, rfl, rfl, by decide +kernel, rfl, by decide +kernel, by decide +kernel⟩
def spTd (K : PySem.W.Frag) : Sp := fun vs H Q _ => ∃ (a b : Addr) (c r : List Str), vs = [.ref a, .ref b] ∧ SqL K H a (c.map V.str) ∧ SqL K H b (r.map V.str) ∧ Lok c ∧ Lok r ∧ ∀ t G, Same H G → G t = some (.tup (dueV (due c r) (jn c) (jn r))) → Q (.ref t) G
def bTd (K : PySem.W.Frag) (C CT CM : Addr) (W : WX) : TS := fun D σ H => ∃ (a b : Addr) (c r : List Str), σ = [some (.ref a), some (.ref b), none, none] ∧ SqL K H a (c.map V.str) ∧ SqL K H b (r.map V.str) ∧ Lok c ∧ Lok r ∧
  (due c r = .ok → ∀ p G, Same H G → CpAt C G p (jn c) (jn r) → D.nx [some (.ref a), some (.ref b), some (.ref p), none] G) ∧
  (∀ n, due c r = .many n → ∀ e G, Same H G → G e = some (.xd [("limit", .int 16), ("many", nI n), ("what", .str "lines")]) → W (.ref CM) (some e) σ G) ∧
  (∀ l k, due c r = .text l k → ∀ e G, Same H G → G e = some (.xd [("column", nI k), ("line", nI l)]) → W (.ref CT) (some e) σ G)
def cTd1 (CT : Addr) (a : Addr) (cls : Value) (d : Option Addr) : TS := fun D σ H => ∃ (dd : Addr) (l k : Nat), cls = .ref CT ∧ d = some dd ∧ σ[3]? = some (some (.ref a)) ∧ H dd = some (.xd [("column", nI k), ("line", nI l)]) ∧ ∀ t, H t = none → D.rt (.ref t) (upd H t (.tup [.str "text", nI l, nI k]))
def cTd2 (CM : Addr) (a : Addr) (cls : Value) (d : Option Addr) : TS := fun D σ H => ∃ (dd : Addr) (n : Nat), cls = .ref CM ∧ d = some dd ∧ σ[3]? = some (some (.ref a)) ∧ H dd = some (.xd [("limit", .int 16), ("many", nI n), ("what", .str "lines")]) ∧ ∀ t, H t = none → D.rt (.ref t) (upd H t (.tup [.str "many", .str "lines", nI n, nI 16]))
section
variable {P : Program} {w : World} {K : PySem.W.Frag} {mg : Str → Option Value} {base : Heap} {C CT CM CS fT fM f0 : Addr} {fd0 : FuncData}
theorem ok_Td (D : DefAt K mg "_law_told" sTd) (TP : TxtP K mg) (TE : TxtE K mg CT fT "BadText" ["line", "column"]) (TM : TxtE K mg CM fM "TooMany" ["what", "many", "limit"]) (TS : TxtS K mg CT CM CS) (TC : TxtC K mg C) (M0 : Mk K C f0) (G0 : FnOk P w K mg base (L2.CX P w) 5 f0 fd0 ["self", "commit", "recovery"] (spCI C CT CM)) (b0 : L2.Binds K fd0 ["self", "commit", "recovery"] []) : Cl P w K mg base 7 "_law_told" (spTd K) := by
  refine cl_of D scTd (fun vs H Q E h => ?_) (fun _ _ _ _ _ _ us hl => match us, hl with | [_, _], _ => rfl) (fun f cdv A outer s H vs Q E hr h => ?_)
  · obtain ⟨a, b, c, r, rfl, _⟩ := h
    rfl
  obtain ⟨a, b, c, r, rfl, ha, hb, hc, hr2, k⟩ := h
  refine ⟨_, pss_cons (Tr.ps_try_as2 (i := 3) (tb := fun W => bTd K C CT CM W) (t1 := cTd1 CT) (t2 := cTd2 CM) rfl rfl scTd.nd rfl rfl ⟨rfl, by decide, TE.gC⟩ ⟨rfl, by decide, TM.gC⟩
    (fun W pn xe tk _ => pss_pre (pss_one (ps_set (i := 2) scTd.nd rfl (Or.inl rfl) (pe_makeV M0 G0 hr rfl (by exact TC.gC) b0 (fun σ => passAt tk σ) (pa_cons (pe_join pe_str (pv 0)) (pa_cons (pe_join pe_str (pv 1)) pa_nil))))) (fun D σ H hb => ?_))
    (fun a oe cls d pn hz hf => pss_pre (pss_one (ps_ret (pe_ifExp (pt_val (pe_callB (call_isD TS.xc hz hf) (by rfl) (by exact TP.isi) (by decide +kernel) (pa_cons (pv 3) (pa_cons (pe_glob rfl (by exact TS.gS) (v := .ref CS) rfl) pa_nil)))) (pe_tup (pa_cons pe_str (pa_cons (pe_xf TE.xf (TE.nf "line" (by decide)) hz hf (pv 3)) (pa_cons (pe_xf TE.xf (TE.nf "column" (by decide)) hz hf (pv 3)) pa_nil)))) pe_non))) (fun D σ H hb => ?_))
    (fun a oe cls d pn hz hf => pss_pre (pss_one (ps_ret (pe_tup (pa_cons pe_str (pa_cons (pe_xf TM.xf (TM.nf "what" (by decide)) hz hf (pv 3)) (pa_cons (pe_xf TM.xf (TM.nf "many" (by decide)) hz hf (pv 3)) (pa_cons (pe_xf TM.xf (TM.nf "limit" (by decide)) hz hf (pv 3)) pa_nil))))))) (fun D σ H hb => ?_)))
(pss_one (ps_ret (pe_tup (pa_cons (pe_fld (pv 2) rfl) (pa_cons (pe_fld (pv 2) rfl) pa_nil))))), ?_⟩
  · obtain ⟨a, b, c, r, rfl, ha, hb, hc, hr2, k1, k2, k3⟩ := hb
    refine ⟨⟨_, rfl⟩, _, rfl, Str.ofString "\n", a, c, rfl, rfl, .inl ha, hc.size, ⟨_, rfl⟩, _, rfl, Str.ofString "\n", b, r, rfl, rfl, .inl hb, hr2.size, fun p dx hp hdx hne => ?_⟩
    have hcl := hc.len
    have hrl := hr2.len
    refine ⟨p, dx, jn c, jn r, rfl, upd_same, by omega, by omega, ?_, ?_, ?_, ?_⟩
    · rw [hc.lines]
      exact fun l hl => (hc.ln l hl).1.as
    · rw [hc.lines, hr2.lines]
      exact fun hd G sG hG => ⟨rfl, k1 hd p G (made_same hp hdx sG) hG⟩
    · rw [hc.lines, hr2.lines]
      exact fun n hd e G hE => k2 n hd e G ((made_same2 hp hdx).trans hE.1) hE.2.2
    · rw [hc.lines, hr2.lines]
      exact fun l k hd e G hE => k3 l k hd e G ((made_same2 hp hdx).trans hE.1) hE.2.2
  · obtain ⟨dd, l, k, rfl, rfl, hs, hd, kk⟩ := hb
    refine ⟨_, hs, _, .ref CS, true, dd, _, rfl, rfl, rfl, hd, (fun u r => r), TS.kS, true, rfl, ?_⟩
    refine (if_pos rfl).mpr ?_
    exact ⟨_, hs, rfl, rfl, dd, _, _, rfl, hd, (by rfl), _, hs, rfl, rfl, dd, _, _, rfl, hd, (by rfl), (by show 3 ≤ sizeLine; rw [sizeLine_eq]; decide), kk⟩
  · obtain ⟨dd, n, rfl, rfl, hs, hd, kk⟩ := hb
    exact ⟨_, hs, rfl, rfl, dd, _, _, rfl, hd, (by rfl), _, hs, rfl, rfl, dd, _, _, rfl, hd, (by rfl), _, hs, rfl, rfl, dd, _, _, rfl, hd, (by rfl), (by show 4 ≤ sizeLine; rw [sizeLine_eq]; decide), kk⟩
  · refine ⟨a, b, c, r, rfl, ha, hb, hc, hr2, fun hd p G sG hG => ?_, fun n hd e G sG he => ?_, fun l kk hd e G sG he => ?_⟩
    · obtain ⟨dx, a1, b1, h1⟩ := hG
      refine ⟨_, rfl, p, C, dx, _, _, rfl, h1, TC.cl, TC.na _ (by decide), rfl, _, rfl, p, C, dx, _, _, rfl, h1, TC.cl, TC.na _ (by decide), rfl, by show 2 ≤ sizeLine; rw [sizeLine_eq]; decide, fun t ht => ?_⟩
      refine k t _ (sG.trans (sNew ht)) ?_
      rw [upd_same, hd]
      rfl
    · refine .inr ⟨TS.ne, TM.te, fun a ha => ⟨e, n, rfl, rfl, rfl, he, fun t ht => ?_⟩⟩
      refine k t _ (sG.trans (sNew ht)) ?_
      rw [upd_same, hd]
      rfl
    · refine .inl ⟨TE.te, fun a ha => ⟨e, l, kk, rfl, rfl, rfl, he, fun t ht => ?_⟩⟩
      refine k t _ (sG.trans (sNew ht)) ?_
      rw [upd_same, hd]
      rfl
end
end Wq
set_option Elab.async false
set_option linter.all false
set_option maxRecDepth 100000
set_option maxHeartbeats 2000000
namespace Wq
open PySem PySem.Spec PyProof.Rows L2
open Pl (Ws wds lns linesIn jn due colRow rowsOf rrows tellsOf)
/-- a list of tuples -/
def TpAt {α : Type} (f : α → List V) (G : Hp) (D : Addr) (l : List α) : Prop := ∃ ts : List Addr, G D = some (.lst (ts.map V.ref)) ∧ ts.length = l.length ∧ ∀ (j : Nat) (t : Addr) (q : α), ts[j]? = some t → l[j]? = some q → G t = some (.tup (f q))
section
variable {α : Type} {f : α → List V} {G G' : Hp} {D D' t p : Addr} {l l' : List α} {q : α}
theorem TpAt.same (h : TpAt f G D l) (s : Same G G') : TpAt f G' D l := by
  obtain ⟨ts, h1, h2, h3⟩ := h
  exact ⟨ts, s _ _ h1, h2, fun j t l e1 e2 => s _ _ (h3 j t l e1 e2)⟩
theorem TpAt.nil (h : G D = some (.lst [])) : TpAt f G D [] := ⟨[], h, rfl, fun j t q e => by cases e⟩
theorem TpAt.push (h : TpAt f G D l) (ht : G t = some (.tup (f q))) : ∃ acc : List V, G D = some (.lst acc) ∧ acc.length = l.length ∧ TpAt f (upd G D (.lst (acc ++ [.ref t]))) D (l ++ [q]) := by
  obtain ⟨ts, h1, h2, h3⟩ := h
  refine ⟨ts.map V.ref, h1, by rw [List.length_map, h2], ts ++ [t], by rw [upd_same, List.map_append]; rfl, by rw [List.length_append, List.length_append, h2]; rfl, fun j u m e1 e2 => ?_⟩
  have nt : ∀ b xs, G b = some (.tup xs) → b ≠ D := fun b xs e => ne_of e h1 (by intro z; cases z)
  by_cases hj : j < l.length
  · rw [List.getElem?_append_left (by omega)] at e1
    rw [List.getElem?_append_left hj] at e2
    have := h3 j u m e1 e2
    rw [upd_ne (nt _ _ this)]
    exact this
  · have hj2 : j < (ts ++ [t]).length := (List.getElem?_eq_some_iff.mp e1).1
    rw [List.length_append] at hj2
    have hj2 : j < ts.length + 1 := hj2
    have e : j = l.length := by omega
    subst e
    rw [List.getElem?_append_right (by omega), ← h2, Nat.sub_self] at e1
    rw [List.getElem?_append_right (Nat.le_refl _), Nat.sub_self] at e2
    obtain rfl := Option.some.inj e1
    obtain rfl := Option.some.inj e2
    rw [upd_ne (nt _ _ ht)]
    exact ht
theorem TpAt.cat (h : TpAt f G D l) (h' : TpAt f G D' l') : ∃ us ws : List V, G D = some (.lst us) ∧ G D' = some (.lst ws) ∧ us.length = l.length ∧ ws.length = l'.length ∧ ∀ p, G p = none → TpAt f (upd G p (.lst (us ++ ws))) p (l ++ l') := by
  obtain ⟨ts, h1, h2, h3⟩ := h
  obtain ⟨ts', g1, g2, g3⟩ := h'
  refine ⟨_, _, h1, g1, by rw [List.length_map, h2], by rw [List.length_map, g2], fun p hp => ⟨ts ++ ts', by rw [upd_same, List.map_append], by rw [List.length_append, List.length_append, h2, g2], fun j u m e1 e2 => ?_⟩⟩
  refine sNew hp _ _ ?_
  by_cases hj : j < l.length
  · rw [List.getElem?_append_left (by omega)] at e1
    rw [List.getElem?_append_left hj] at e2
    exact h3 j u m e1 e2
  · rw [List.getElem?_append_right (by omega), h2] at e1
    rw [List.getElem?_append_right (by omega)] at e2
    exact g3 _ u m e1 e2
theorem TpAt.at (h : TpAt f G D l) {i : Nat} (e : l[i]? = some q) : ∃ (ts : List Addr) (t : Addr), G D = some (.lst (ts.map V.ref)) ∧ atI (ts.map V.ref) (0 + (i : Int)) = some (V.ref t) ∧ G t = some (.tup (f q)) := by
  obtain ⟨ts, h1, h2, h3⟩ := h
  have hi := (List.getElem?_eq_some_iff.mp e).1
  have et : ts[i]? = some ts[i] := List.getElem?_eq_getElem (by omega)
  refine ⟨ts, ts[i], h1, ?_, h3 i _ q et e⟩
  rw [Int.zero_add]
  exact atI_nat (by rw [List.getElem?_map, et]; rfl)
end
def rw2 (q : Nat × Str) : List V := [.str q.2, .str (plc q.1)]
theorem dpI {K : PySem.W.Frag} {H : Hp} : ∀ l : List Nat, DpAll K H (l.map nI) (l.map fun n : Nat => PyData.int n)
  | [] => .nil
  | x :: r => .cons (.int x) (dpI r)
theorem shapI (l : List Nat) : SeqAt.shaped (.list (l.map fun n : Nat => PyData.int n)) = true := by
  have h1 : PyData.canLayAll0 (l.map fun n : Nat => PyData.int n) = true := by
    induction l with
    | nil => simp [PyData.canLayAll0]
    | cons x r ih => simp [PyData.canLayAll0, PyData.canLay0, ih]
  have h2 : PyData.depthAll (l.map fun n : Nat => PyData.int n) = 0 := by
    clear h1
    induction l with
    | nil => simp [PyData.depthAll]
    | cons x r ih => simp [PyData.depthAll, PyData.depth, ih]
  show (PyData.canLay0 (.list _) && decide (PyData.depth (.list _) ≤ 64)) = true
  rw [Bool.and_eq_true]
  refine ⟨by simp only [PyData.canLay0]; exact h1, decide_eq_true ?_⟩
  simp only [PyData.depth, h2]
  omega
theorem eqvI (l : List Nat) : PyData.eqv (.list (l.map fun n : Nat => PyData.int n)) (.list []) = decide (l = []) := by
  cases l with
  | nil => simp [PyData.eqv, PyData.eqvAll]
  | cons x r => simp [PyData.eqv, PyData.eqvAll]
abbrev sDu : Stmt := top 30
abbrev NDu : List Str := ["_law_commit", "_law_recovery", "_law_lines", "_law_rows", "_law_at", "_law_column_here", "_law_tells", "_law_line", "_law_k"]
theorem scDu : FnScope NDu ["_law_commit", "_law_recovery"] (defScope sDu) := ⟨rfl, rfl, rfl, by decide +kernel, rfl, by decide +kernel, by decide +kernel⟩
section
variable {P : Program} {w : World} {K : PySem.W.Frag} {mg : Str → Option Value} {base : Heap}
theorem ok_Du (D : DefAt K mg "_law_due" sDu) (T : Txt K mg) (CC : Cl P w K mg base 1 "_law_column" (spCo K)) (CM : Cl P w K mg base 2 "_law_menu" spMn) : Cl P w K mg base 3 "_law_due" (spTd K) := by
  refine cl_of D scDu (fun vs H Q E h => ?_) (fun _ _ _ _ _ _ us hl => match us, hl with | [_, _], _ => rfl) (fun f cdv A outer s H vs Q E hr h => ?_)
  · obtain ⟨a, b, c, r, rfl, _⟩ := h
    rfl
  obtain ⟨a, b, c, r, rfl, ha, hb, hc, hr2, k⟩ := h
  refine ⟨_, C8.pss_cut (ps_for PassesOwn.never rfl (pi_list (pe_lst (pa_cons (pv 0) (pa_cons (pv 1) pa_nil)))) (pg_name (i := 2) scDu.nd rfl (Or.inl rfl))
(pss_one (ps_if (pt_cmpR op_gt (pe_callB call_len_seq (by rfl) (by exact T.len) PySem.boot_len (pa_cons (pv 2) pa_nil)) pe_int (nomark _))
(pss_one (ps_ret (pe_tup (pa_cons pe_str (pa_cons pe_str (pa_cons (pe_callB call_len_seq (by rfl) (by exact T.len) PySem.boot_len (pa_cons (pv 2) pa_nil)) (pa_cons pe_int pa_nil)))))))
pss_nil)))
(C8.pss_cut (ps_setLc (i := 3) (own := [("_law_line", 7)]) (g := gName 7) (tt := tYes) (by rfl) scDu.nd rfl rfl (sw_true rfl rfl rfl (by decide +kernel)) (pi_list (pv 0)) (blkOk_by (own := [("_law_line", 7)]) (N := NDu) (sc := defScope sDu) (by decide +kernel)) (fun _ _ _ _ _ => (pg_name (i := 7) scDu.nd rfl (Or.inl rfl))) (fun _ _ _ _ _ => pts_nil) (fun _ _ _ _ _ => (pe_tup (pa_cons (pv 7) (pa_cons pe_str pa_nil)))))
(C8.pss_cut (ps_set (i := 3) scDu.nd rfl (Or.inl rfl) (pe_op op_cat (pv 3) (pe_lc (own := [("_law_k", 8)]) (g := gName 8) (tt := tYes) (te := tTup (tCons (tOp (rIxL K) (tVar 1) (tVar 8)) (tCons (tIf (tTest (tOp (rI0 fun i j => .bl (decide (j < i))) (tVar 8) (tC (.int 0)))) (tC (.str "rest")) (tC (.str "take"))) tNil))) (by rfl) scDu.nd (pi_range1 rfl (by exact T.range) (pa_cons (pe_callB call_len_seq (by rfl) (by exact T.len) PySem.boot_len (pa_cons (pv 1) pa_nil)) pa_nil)) (blkOk_by (own := [("_law_k", 8)]) (N := NDu) (sc := defScope sDu) (by decide +kernel)) (fun _ _ _ _ _ => (pg_name (i := 8) scDu.nd rfl (Or.inl rfl))) (fun _ _ _ _ _ => pts_nil) (fun _ _ _ _ _ => (pe_tup (pa_cons (pe_ix ix_list (pv 1) (pv 8) (fun _ _ => rfl)) (pa_cons (pe_ifExp (pt_cmpR op_gt (pv 8) pe_int (nomark _)) pe_str pe_str) pa_nil)))))))
(C8.pss_cut (ps_for PassesOwn.never rfl (pi_range1 rfl (by exact T.range) (pa_cons (pe_callB call_len_seq (by rfl) (by exact T.len) PySem.boot_len (pa_cons (pv 3) pa_nil)) pa_nil)) (pg_name (i := 4) scDu.nd rfl (Or.inl rfl))
(pss_cons (ps_set (i := 5) scDu.nd rfl (Or.inl rfl) (pe_cl CC hr (by decide) rfl (pa_cons (pe_ix ix_tup (pe_ix ix_list (pv 3) (pv 4) (fun _ _ => rfl)) pe_int (fun _ _ => rfl)) (pa_cons (pe_cl CM hr (by decide) rfl (pa_cons (pe_ix ix_tup (pe_ix ix_list (pv 3) (pv 4) (fun _ _ => rfl)) pe_int (fun _ _ => rfl)) pa_nil)) pa_nil))))
(pss_one (ps_if (pt_cmpR op_gt (pv 5) pe_int (nomark _))
(pss_one (ps_ret (pe_tup (pa_cons pe_str (pa_cons (pe_op op_add (pv 4) pe_int) (pa_cons (pv 5) pa_nil))))))
pss_nil))))
(C8.pss_cut (ps_setLc (i := 6) (own := [("_law_at", 4)]) (g := gName 4) (tt := tTest (tOp rEq (tOp (rIxL K) (tVar 0) (tVar 4)) (tC (.str "tell")))) (by rfl) scDu.nd rfl rfl (sw_true rfl rfl rfl (by decide +kernel)) (pi_range1 rfl (by exact T.range) (pa_cons (pe_callB call_len_seq (by rfl) (by exact T.len) PySem.boot_len (pa_cons (pv 0) pa_nil)) pa_nil)) (blkOk_by (own := [("_law_at", 4)]) (N := NDu) (sc := defScope sDu) (by decide +kernel)) (fun _ _ _ _ _ => (pg_name (i := 4) scDu.nd rfl (Or.inl rfl))) (fun _ _ _ _ _ => (pts_one (pt_cmpR op_eq (pe_ix ix_list (pv 0) (pv 4) (fun _ _ => rfl)) pe_str (nomark _)))) (fun _ _ _ _ _ => (pe_op op_add (pv 4) pe_int)))
(pss_cons (ps_if (pt_cmpR op_gt (pe_callB call_len_seq (by rfl) (by exact T.len) PySem.boot_len (pa_cons (pv 6) pa_nil)) pe_int (nomark _))
(pss_one (ps_ret (pe_tup (pa_cons pe_str (pa_cons (pe_ix ix_list (pv 6) pe_int (fun _ _ => rfl)) (pa_cons pe_int pa_nil))))))
pss_nil)
(pss_cons (ps_if (PW.pt (pw_or (pt_cmpR (op_eqD (hu64 hr)) (pv 6) (pe_lst pa_nil) (nomark _)) (pw_or1 (pt_cmpR (op_eqD (hu64 hr)) (pv 1) (pe_lst pa_nil) (nomark _)))))
(pss_one (ps_ret (pe_tup (pa_cons pe_str (pa_cons (pe_op op_add (pe_callB call_len_seq (by rfl) (by exact T.len) PySem.boot_len (pa_cons (pv 0) pa_nil)) pe_int) (pa_cons pe_int pa_nil))))))
pss_nil)
(pss_one (ps_ret (pe_tup (pa_cons (pe_join pe_str (pv 0)) (pa_cons (pe_join pe_str (pv 1)) pa_nil))))))))))), ?_⟩
  have hlc : (c.map V.str).length = c.length := List.length_map ..
  have hlr : (r.map V.str).length = r.length := List.length_map ..
  have hcf := hc.few
  have hrf := hr2.few
  refine ⟨fun σ G => ∃ x2 : Option V, σ = [some (.ref a), some (.ref b), x2, none, none, none, none, none, none] ∧ Same H G ∧ c.length ≤ 16 ∧ r.length ≤ 16, ?_, ?_⟩
  · refine ⟨_, rfl, _, rfl, by show 2 ≤ sizeLine; rw [sizeLine_eq]; decide, fun q hq => ?_⟩
    have s1 := sNew (o := .lst [.ref a, .ref b]) hq
    refine ⟨q, rfl, ⟨_, .inl (.inl upd_same)⟩, ?_⟩
    refine for_list (K := K) (a := q) (xs := [.ref a, .ref b]) (fun i σ G => ∃ x2 : Option V, σ = [some (.ref a), some (.ref b), x2, none, none, none, none, none, none] ∧ Same H G ∧ G q = some (.lst [.ref a, .ref b]) ∧ (1 ≤ i → c.length ≤ 16) ∧ (2 ≤ i → r.length ≤ 16))
      ⟨_, rfl, s1, upd_same, fun z => absurd z (by omega), fun z => absurd z (by omega)⟩ (fun i σ G _ ⟨_, _, _, h, _⟩ => .inl (.inl h)) ?_ ?_
    · rintro i v σ G hi ⟨x2, rfl, s2, hq2, c1, c2⟩
      match i, hi, c1 with
      | 0, hi, _ =>
        obtain rfl := Option.some.inj hi
        refine ⟨_, rfl, a, _, rfl, .inl (SqL_same ha s2), _, _, rfl, rfl, _, rfl, ?_⟩
        by_cases e : 16 < c.length
        · refine (if_pos (decide_eq_true (by rw [hlc]; omega))).mpr ?_
          refine ⟨_, rfl, a, _, rfl, .inl (SqL_same ha s2), by show 4 ≤ sizeLine; rw [sizeLine_eq]; decide, fun t ht => ?_⟩
          rw [hlc]
          refine k t _ (s2.trans (sNew ht)) ?_
          have : due c r = .many c.length := by unfold due; rw [if_pos e]
          rw [upd_same, this]
          rfl
        · refine (if_neg (fun z => e (by
            have z : (16 : Int) < ((c.map V.str).length : Int) := of_decide_eq_true z
            rw [hlc] at z
            omega))).mpr ?_
          exact ⟨_, rfl, s2, hq2, fun _ => by omega, fun z => absurd z (by omega)⟩
      | 1, hi, c1 =>
        obtain rfl := Option.some.inj hi
        have c1 := c1 (Nat.le_refl _)
        refine ⟨_, rfl, b, _, rfl, .inl (SqL_same hb s2), _, _, rfl, rfl, _, rfl, ?_⟩
        by_cases e : 16 < r.length
        · refine (if_pos (decide_eq_true (by rw [hlr]; omega))).mpr ?_
          refine ⟨_, rfl, b, _, rfl, .inl (SqL_same hb s2), by show 4 ≤ sizeLine; rw [sizeLine_eq]; decide, fun t ht => ?_⟩
          rw [hlr]
          refine k t _ (s2.trans (sNew ht)) ?_
          have : due c r = .many r.length := by unfold due; rw [if_neg (by omega), if_pos e]
          rw [upd_same, this]
          rfl
        · refine (if_neg (fun z => e (by
            have z : (16 : Int) < ((r.map V.str).length : Int) := of_decide_eq_true z
            rw [hlr] at z
            omega))).mpr ?_
          exact ⟨_, rfl, s2, hq2, fun _ => c1, fun _ => by omega⟩
    · rintro σ G ⟨x2, rfl, s2, _, c1, c2⟩
      exact ⟨x2, rfl, s2, c1 (by show 1 ≤ 2; decide), c2 (by show 2 ≤ 2; decide)⟩
  rintro σ G0 ⟨x2, rfl, s0, c16, r16⟩
  have ha0 := SqL_same ha s0
  refine ⟨fun σ G => ∃ D1 : Addr, σ = [some (.ref a), some (.ref b), x2, some (.ref D1), none, none, none, none, none] ∧ Same G0 G ∧ TpAt rw2 G D1 (c.map fun x => ((0 : Nat), x)), ?_, ?_⟩
  · refine ⟨_, rfl, a, rfl, ⟨_, ha0⟩, fun D hD => ?_⟩
    refine lc_list (K := K) (a := a) (xs := c.map V.str) (fun j G => Same G0 G ∧ TpAt rw2 G D ((c.take j).map fun x => ((0 : Nat), x))) ⟨sNew hD, .nil upd_same⟩ (fun j G _ h => SqL_same ha0 h.1) ?_ ?_
    · rintro j v G hj ⟨s6, hT⟩
      obtain ⟨u, rfl, eu⟩ := str_at hj
      refine ⟨rfl, _, rfl, by show 2 ≤ sizeLine; rw [sizeLine_eq]; decide, fun t ht => ?_⟩
      have s7 := sNew (o := .tup [.str u, .str "commit"]) ht
      obtain ⟨acc, h1, h2, h3⟩ := (hT.same s7).push (t := t) (q := ((0 : Nat), u)) upd_same
      refine ⟨acc, h1, by rw [h2, List.length_map, List.length_take, sizeLine_eq]; omega, fun b o q' => ?_, ?_⟩
      · rw [upd_ne (ne_of_none q' hD)]
        exact s7 _ _ (s6 _ _ q')
      · rw [List.take_add_one, eu, List.map_append]
        exact h3
    · rintro G ⟨s6, hT⟩
      rw [hlc, List.take_length] at hT
      exact ⟨D, rfl, s6, hT⟩
  rintro σ G1 ⟨D1, rfl, s1, hT1⟩
  have hb1 := SqL_same hb (s0.trans s1)
  refine ⟨fun σ G => ∃ D1 : Addr, σ = [some (.ref a), some (.ref b), x2, some (.ref D1), none, none, none, none, none] ∧ Same G1 G ∧ TpAt rw2 G D1 (rowsOf c r), ?_, ?_⟩
  · refine ⟨_, rfl, _, rfl, b, _, rfl, .inl hb1, _, rfl, by omega, by rw [hlr]; omega, fun D hD => ?_⟩
    refine lc_range (lo := 0) (n := (r.map V.str).length) (fun i G => Same G1 G ∧ TpAt rw2 G D ((rrows r).take i)) ⟨sNew hD, .nil upd_same⟩ ?_ ?_
    · rintro i G hi ⟨s6, hT⟩
      rw [hlr] at hi
      have ei : r[i]? = some r[i] := List.getElem?_eq_getElem hi
      generalize r[i] = u at ei
      have hat : atI (r.map V.str) (0 + (i : Int)) = some (V.str u) := by
        rw [Int.zero_add]
        exact atI_nat (by rw [List.getElem?_map, ei]; rfl)
      have er := Pl.rrows_get ei
      have fin : ∀ (z : Str), plc (if i = 0 then 1 else 2) = z → (2 : Nat) ≤ sizeLine ∧ ∀ t, G t = none → ∃ acc, (upd G t (.tup [.str u, .str z])) D = some (.lst acc) ∧ acc.length < sizeLine ∧ Same G1 (upd (upd G t (.tup [.str u, .str z])) D (.lst (acc ++ [.ref t]))) ∧ TpAt rw2 (upd (upd G t (.tup [.str u, .str z])) D (.lst (acc ++ [.ref t]))) D ((rrows r).take (i + 1)) := by
        intro z hz
        refine ⟨by rw [sizeLine_eq]; decide, fun t ht => ?_⟩
        have s7 := sNew (o := .tup [.str u, .str z]) ht
        obtain ⟨acc, h1, h2, h3⟩ := (hT.same s7).push (t := t) (q := (if i = 0 then 1 else 2, u)) (by rw [upd_same, ← hz]; rfl)
        refine ⟨acc, h1, by rw [h2, List.length_take, Pl.rrows_len, sizeLine_eq]; omega, fun b o q' => ?_, ?_⟩
        · rw [upd_ne (ne_of_none q' hD)]
          exact s7 _ _ (s6 _ _ q')
        · rw [List.take_add_one, er]
          exact h3
      refine ⟨rfl, _, rfl, _, rfl, b, _, _, _, rfl, rfl, SqL_same hb1 s6, hat, _, rfl, _, _, rfl, rfl, _, rfl, ?_⟩
      by_cases e0 : i = 0
      · refine (if_neg (fun z => by
          have z := of_decide_eq_true z
          omega)).mpr ?_
        exact fin "take" (by rw [if_pos e0]; rfl)
      · refine (if_pos (decide_eq_true (by omega))).mpr ?_
        exact fin "rest" (by rw [if_neg e0]; rfl)
    · rintro G ⟨s6, hT⟩
      rw [hlr, List.take_of_length_le (by rw [Pl.rrows_len]; exact Nat.le_refl _)] at hT
      obtain ⟨us, ws, h1, h2, h3, h4, h5⟩ := (hT1.same s6).cat hT
      refine ⟨D1, D, us, ws, rfl, rfl, h1, h2, by rw [h3, h4, List.length_map, Pl.rrows_len, sizeLine_eq]; omega, fun p hp => ?_⟩
      exact ⟨p, rfl, s6.trans (sNew hp), h5 p hp⟩
  rintro σ G2 ⟨D2, rfl, s2, hT2⟩
  have s02 := s0.trans (s1.trans s2)
  have hrows : (rowsOf c r).length = c.length + r.length := by
    show (c.map _ ++ rrows r).length = _
    rw [List.length_append, List.length_map, Pl.rrows_len]
  have hln : ∀ q ∈ rowsOf c r, Ln q.2 ∧ q.2.length ≤ 220 := fun q hq => by
    obtain ⟨j, hj⟩ := List.getElem?_of_mem hq
    rcases Pl.rows_cases hj with ⟨l, e, rfl⟩ | ⟨i, l, _, e, rfl⟩
    · exact hc.ln l (List.mem_of_getElem? e)
    · exact hr2.ln l (List.mem_of_getElem? e)
  refine ⟨fun σ G => ∃ x4 x5 : Option V, σ = [some (.ref a), some (.ref b), x2, some (.ref D2), x4, x5, none, none, none] ∧ Same G2 G ∧ ∀ (j : Nat) q, (rowsOf c r)[j]? = some q → colRow q.1 q.2 = 0, ?_, ?_⟩
  · obtain ⟨ts0, ht0, hn0, _⟩ := id hT2
    refine ⟨_, rfl, D2, _, rfl, .inl (.inl (.inl ht0)), _, rfl, by omega, by rw [List.length_map]; omega, ?_⟩
    refine for_range (lo := 0) (n := (ts0.map V.ref).length) (fun i σ G => ∃ x4 x5 : Option V, σ = [some (.ref a), some (.ref b), x2, some (.ref D2), x4, x5, none, none, none] ∧ Same G2 G ∧ ∀ (j : Nat) q, j < i → (rowsOf c r)[j]? = some q → colRow q.1 q.2 = 0)
      ⟨_, _, rfl, .refl _, fun j q hj => absurd hj (Nat.not_lt_zero _)⟩ ?_ ?_
    · rintro i σ G hi ⟨x4, x5, rfl, s3, hcol⟩
      rw [List.length_map, hn0] at hi
      have ei : (rowsOf c r)[i]? = some (rowsOf c r)[i] := List.getElem?_eq_getElem hi
      generalize (rowsOf c r)[i] = q at ei
      obtain ⟨ts, t, h1, h2, h3⟩ := (hT2.same s3).at ei
      obtain ⟨hq1, hq2⟩ := hln q (List.mem_of_getElem? ei)
      refine ⟨_, rfl, _, rfl, D2, _, _, _, rfl, rfl, .inl (.inl h1), h2, t, _, _, _, rfl, rfl, .inl (.inl h3), atI_nat (j := 0) rfl, ?_⟩
      refine ⟨_, rfl, _, rfl, D2, _, _, _, rfl, rfl, .inl (.inl h1), h2, t, _, _, _, rfl, rfl, .inl (.inl h3), atI_nat (j := 1) rfl, q.1, rfl, fun p G3 s4 hp => ?_⟩
      refine ⟨q.2, q.1, p, rfl, .inl (.inl hp), by omega, hq1.as, fun G4 s5 => ?_⟩
      refine ⟨_, rfl, _, _, rfl, rfl, _, rfl, ?_⟩
      by_cases e : 0 < colRow q.1 q.2
      · refine (if_pos (decide_eq_true (by omega))).mpr ?_
        refine ⟨_, rfl, _, _, rfl, rfl, _, rfl, by show 3 ≤ sizeLine; rw [sizeLine_eq]; decide, fun tt htt => ?_⟩
        have hd : due c r = .text (i + 1) (colRow q.1 q.2) := Pl.due_text c16 r16 (x := q.2) (k := q.1) ei (fun j q hj eq => hcol j q hj eq) e
        refine k tt _ (s02.trans (s3.trans (s4.trans (s5.trans (sNew htt))))) ?_
        have eI : V.int (0 + (i : Int) + 1) = nI (i + 1) := congrArg V.int (by omega)
        rw [upd_same, hd]
        show some (HO.tup [.str "text", V.int (0 + (i : Int) + 1), _]) = _
        rw [eI]
        rfl
      · refine (if_neg (fun z => e (by
          have z := of_decide_eq_true z
          omega))).mpr ?_
        refine ⟨_, _, rfl, s3.trans (s4.trans s5), fun j q2 hj eq => ?_⟩
        by_cases ej : j = i
        · rw [ej, ei] at eq
          obtain rfl := Option.some.inj eq
          omega
        · exact hcol j q2 (by omega) eq
    · rintro σ G ⟨x4, x5, rfl, s3, hcol⟩
      refine ⟨x4, x5, rfl, s3, fun j q e => hcol j q ?_ e⟩
      rw [List.length_map, hn0]
      exact (List.getElem?_eq_some_iff.mp e).1
  rintro σ G3 ⟨x4, x5, rfl, s3, hcol⟩
  have hdue := Pl.due_end c16 r16 (fun j l e => hcol j (0, l) (Pl.rows_c e)) (fun j l e => hcol (c.length + j) _ (Pl.rows_r e))
  have s03 := s02.trans s3
  have ha3 := SqL_same ha s03
  have hb3 := SqL_same hb s03
  refine ⟨fun σ G => ∃ D3 : Addr, ∃ x4 : Option V, σ = [some (.ref a), some (.ref b), x2, some (.ref D2), x4, x5, some (.ref D3), none, none] ∧ Same G3 G ∧ G D3 = some (.lst ((tellsOf c).map fun i => nI (i + 1))), ?_, ?_⟩
  · refine ⟨_, rfl, a, _, rfl, .inl ha3, _, rfl, by omega, by rw [hlc]; omega, fun D hD => ?_⟩
    refine lc_range (lo := 0) (n := (c.map V.str).length) (fun i G => Same G3 G ∧ G D = some (.lst (((List.range i).filter fun j : Nat => decide (c[j]? = some ("tell" : Str))).map fun i => nI (i + 1)))) ⟨sNew hD, upd_same⟩ ?_ ?_
    · rintro i G hi ⟨s5, hD5⟩
      rw [hlc] at hi
      have ei : c[i]? = some c[i] := List.getElem?_eq_getElem hi
      generalize c[i] = l at ei
      have hat : atI (c.map V.str) (0 + (i : Int)) = some (V.str l) := by
        rw [Int.zero_add]
        exact atI_nat (by rw [List.getElem?_map, ei]; rfl)
      refine ⟨rfl, _, rfl, _, rfl, a, _, _, _, rfl, rfl, SqL_same ha3 s5, hat, rfl, _, rfl, ?_⟩
      rw [str_dec]
      have ef : (List.range (i + 1)).filter (fun j : Nat => decide (c[j]? = some ("tell" : Str))) = (List.range i).filter (fun j : Nat => decide (c[j]? = some ("tell" : Str))) ++ (if l = "tell" then [i] else []) := by
        rw [List.range_succ, List.filter_append, filt1, ei]
        by_cases e : l = "tell"
        · rw [if_pos e, if_pos (by rw [e]; simp)]
        · rw [if_neg e, if_neg (by simp [e])]
      by_cases e : l = "tell"
      · refine (if_pos (decide_eq_true e)).mpr ?_
        rw [if_pos e] at ef
        refine ⟨_, rfl, _, _, rfl, rfl, _, hD5, ?_, fun b o q => ?_, ?_⟩
        · have := List.length_filter_le (fun j : Nat => decide (c[j]? = some ("tell" : Str))) (List.range i)
          rw [List.length_range] at this
          rw [List.length_map, sizeLine_eq]
          omega
        · rw [upd_ne (ne_of_none q hD)]
          exact s5 _ _ q
        · have eI : V.int (0 + (i : Int) + 1) = nI (i + 1) := congrArg V.int (by omega)
          rw [upd_same, ef, List.map_append]
          show some (HO.lst (_ ++ [V.int (0 + (i : Int) + 1)])) = _
          rw [eI]
          rfl
      · refine (if_neg (by rw [decide_eq_false e]; decide)).mpr ?_
        rw [if_neg e, List.append_nil] at ef
        rw [ef]
        exact ⟨s5, hD5⟩
    · rintro G ⟨s5, hD5⟩
      rw [hlc] at hD5
      exact ⟨D, _, rfl, s5, hD5⟩
  rintro σ G4 ⟨D3, x4', rfl, s4, hD3⟩
  have s04 := s03.trans s4
  have ha4 := SqL_same ha s04
  have hb4 := SqL_same hb s04
  have htl : (tellsOf c).length ≤ 16 := by
    have := List.length_filter_le (fun i => decide (c[i]? = some ("tell" : Str))) (List.range c.length)
    rw [List.length_range] at this
    exact Nat.le_trans this c16
  generalize tellsOf c = te at *
  have hD3' : G4 D3 = some (.lst ((te.map fun i => i + 1).map nI)) := by
    rw [hD3, List.map_map]
    rfl
  refine ⟨_, rfl, D3, _, rfl, .inl (.inl (.inl hD3)), _, _, rfl, rfl, _, rfl, ?_⟩
  -- the rest
  have eqs : ∀ (te : List Nat) (G4 : Hp), G4 D3 = some (.lst ((te.map fun i => i + 1).map nI)) → True := fun _ _ _ => trivial
  by_cases e2 : 1 < te.length
  · refine (if_pos (decide_eq_true (by rw [List.length_map]; omega))).mpr ?_
    match te, hdue, hD3, e2 with
    | t0 :: t1 :: rest, hdue, hD3, _ =>
      refine ⟨_, rfl, D3, _, _, _, rfl, rfl, .inl (.inl hD3), atI_nat (j := 1) rfl, by show 3 ≤ sizeLine; rw [sizeLine_eq]; decide, fun t ht => ?_⟩
      refine k t _ (s04.trans (sNew ht)) ?_
      have hdue : due c r = .text (t1 + 1) 1 := hdue
      rw [upd_same, hdue]
      rfl
  refine (if_neg (fun z => e2 (by
    have z := of_decide_eq_true z
    rw [List.length_map] at z
    omega))).mpr ?_
  refine ⟨_, rfl, by show 0 ≤ sizeLine; rw [sizeLine_eq]; decide, fun em hem => ?_⟩
  have u1 := sNew (o := .lst []) hem
  refine ⟨.list ((te.map fun i => i + 1).map fun n : Nat => PyData.int n), .list (([] : List Str).map PyData.str), .lst (.inl (.inl (u1 _ _ hD3'))) (dpI _), .lst (.inl (.inl upd_same)) (dpS []), shapI _, shapS [] (fun x h => by cases h), _, rfl, ?_⟩
  show if PyData.eqv (.list ((te.map fun i => i + 1).map fun n : Nat => PyData.int n)) (.list []) = true then _ else _
  rw [eqvI]
  have last : ∀ (G5 : Hp), Same H G5 → due c r = .text (c.length + 1) 1 → ∀ t, G5 t = none → Q (.ref t) (upd G5 t (.tup [.str "text", .int (((c.map V.str).length : Int) + 1), .int 1])) := fun G5 s5 hd t ht => by
    refine k t _ (s5.trans (sNew ht)) ?_
    rw [upd_same, hd, hlc]
    rfl
  by_cases e0 : te = []
  · subst e0
    refine (if_pos (by decide)).mpr ?_
    refine (if_pos rfl).mpr ?_
    refine ⟨_, rfl, a, _, rfl, .inl (SqL_same ha4 u1), _, _, rfl, rfl, by show 3 ≤ sizeLine; rw [sizeLine_eq]; decide, fun t ht => ?_⟩
    exact last _ (s04.trans u1) hdue t ht
  refine (if_neg (by
    rw [decide_eq_false (fun z => e0 (List.map_eq_nil_iff.mp z))]
    decide)).mpr ?_
  refine ⟨_, rfl, by show 0 ≤ sizeLine; rw [sizeLine_eq]; decide, fun em2 hem2 => ?_⟩
  have u2 := sNew (o := .lst []) hem2
  have hrA : ∀ x ∈ r, As x := fun x hx => (hr2.ln x hx).1.as
  refine ⟨.list (r.map PyData.str), .list (([] : List Str).map PyData.str), .lst (SqL_same hb4 (u1.trans u2)) (dpS _), .lst (.inl (.inl upd_same)) (dpS []), shapS _ hrA, shapS [] (fun x h => by cases h), _, rfl, ?_⟩
  rw [eqvLS]
  have hdue : due c r = if r = [] then .text (c.length + 1) 1 else .ok := by
    match te, hdue, e0, e2 with
    | [t], hdue, _, _ => exact hdue
    | t0 :: t1 :: rest, _, _, e2 => exact absurd (show 1 < (t0 :: t1 :: rest).length by simp only [List.length_cons]; omega) e2
  have sB := s04.trans (u1.trans u2)
  by_cases er0 : r = []
  · refine (if_pos (decide_eq_true er0)).mpr ?_
    rw [if_pos er0] at hdue
    refine ⟨_, rfl, a, _, rfl, .inl (SqL_same ha sB), _, _, rfl, rfl, by show 3 ≤ sizeLine; rw [sizeLine_eq]; decide, fun t ht => ?_⟩
    exact last _ sB hdue t ht
  · refine (if_neg (by rw [decide_eq_false er0]; decide)).mpr ?_
    rw [if_neg er0] at hdue
    refine ⟨⟨_, rfl⟩, _, rfl, Str.ofString "\n", a, c, rfl, rfl, .inl (SqL_same ha sB), hc.size, ⟨_, rfl⟩, _, rfl, Str.ofString "\n", b, r, rfl, rfl, .inl (SqL_same hb sB), hr2.size, by show 2 ≤ sizeLine; rw [sizeLine_eq]; decide, fun t ht => ?_⟩
    refine k t _ (sB.trans (sNew ht)) ?_
    rw [upd_same, hdue]
    rfl
end
end Wq
set_option Elab.async false
set_option linter.all false
set_option maxRecDepth 100000
set_option maxHeartbeats 2000000
namespace Pl
open PySem
open SX (S S_tl S_inj split_S join_S)
theorem fw_nil : ∀ {l : List (Nat × Str)} {n : Nat}, fw l n = none → ∀ q ∈ l, colRow q.1 q.2 = 0
  | [], _, _, q, hq => by cases hq
  | p :: r, n, h, q, hq => by
    obtain ⟨pk, px⟩ := p
    unfold fw at h
    by_cases e : 0 < colRow pk px
    · rw [if_pos e] at h
      cases h
    · rw [if_neg e] at h
      rcases List.mem_cons.mp hq with rfl | hq
      · show colRow pk px = 0
        omega
      · exact fw_nil h q hq
theorem due_ok {c r : List Str} (h : due c r = .ok) : c.length ≤ 16 ∧ r.length ≤ 16 ∧ fw (rowsOf c r) 1 = none ∧ r ≠ [] ∧ ∃ t, tellsOf c = [t] := by
  unfold due at h
  by_cases h1 : 16 < c.length
  · rw [if_pos h1] at h
    cases h
  rw [if_neg h1] at h
  by_cases h2 : 16 < r.length
  · rw [if_pos h2] at h
    cases h
  rw [if_neg h2] at h
  cases e : fw (rowsOf c r) 1 with
  | some q =>
    rw [e] at h
    cases h
  | none =>
  rw [e] at h
  have h : (match tellsOf c with
    | _ :: t :: _ => Due.text (t + 1) 1
    | [] => .text (c.length + 1) 1
    | [_] => if r = [] then .text (c.length + 1) 1 else .ok) = .ok := h
  match et : tellsOf c with
  | [] =>
    rw [et] at h
    cases h
  | a :: b :: rest =>
    rw [et] at h
    cases h
  | [t] =>
    rw [et] at h
    by_cases h3 : r = []
    · have h : (if r = [] then Due.text (c.length + 1) 1 else .ok) = .ok := h
      rw [if_pos h3] at h
      cases h
    · exact ⟨by omega, by omega, rfl, h3, t, rfl⟩
theorem sync_col : colRow 2 "sync names" = 0 := by decide +kernel
theorem due_more {c r : List Str} (h : due c r = .ok) (h16 : r.length < 16) : due c (r ++ [("sync names" : Str)]) = .ok := by
  obtain ⟨h1, h2, h3, h4, t, h5⟩ := due_ok h
  have hz := fw_nil h3
  have hl : (r ++ [("sync names" : Str)]).length = r.length + 1 := by rw [List.length_append]; rfl
  rw [due_end h1 (by rw [hl]; omega) (fun j l e => hz (0, l) (List.mem_of_getElem? (rows_c e))) (fun j l e => ?_), h5]
  · have : r ++ [("sync names" : Str)] ≠ [] := fun z => by
      have := congrArg List.length z
      rw [hl] at this
      cases this
    show (if r ++ [("sync names" : Str)] = [] then Due.text (c.length + 1) 1 else .ok) = .ok
    rw [if_neg this]
  · by_cases hj : j < r.length
    · rw [List.getElem?_append_left hj] at e
      exact hz _ (List.mem_of_getElem? (rows_r (c := c) e))
    · have hj2 : j < (r ++ [("sync names" : Str)]).length := (List.getElem?_eq_some_iff.mp e).1
      rw [hl] at hj2
      rw [List.getElem?_append_right (by omega), show j - r.length = 0 by omega] at e
      obtain rfl := Option.some.inj e
      have : j ≠ 0 := by
        have : 0 < r.length := List.length_pos_iff.mpr h4
        omega
      rw [if_neg this]
      exact sync_col
theorem joinL_snoc (c : Nat) (x : List Nat) : ∀ ls : List (List Nat), ls ≠ [] → TL.joinL [c] (ls ++ [x]) = TL.joinL [c] ls ++ c :: x
  | [l], _ => by
    rw [List.cons_append, List.nil_append, jn2]
    rfl
  | l :: m :: r, _ => by
    rw [List.cons_append, List.cons_append, jn2, jn2, ← List.cons_append, joinL_snoc c x (m :: r) (List.cons_ne_nil _ _), List.append_assoc]
    rfl
theorem jn_more {r : List Str} (h : r ≠ []) : jn (r ++ [("sync names" : Str)]) = jn r ++ "\nsync names" := by
  have e1 : (Str.ofString "\nsync names") = S (10 :: (Str.ofString "sync names").cps.toList) := by decide +kernel
  rw [jn_S, jn_S, List.map_append]
  show S (TL.joinL [10] (_ ++ [(Str.ofString "sync names").cps.toList])) = _ ++ Str.ofString "\nsync names"
  rw [joinL_snoc 10 _ _ (fun z => h (List.map_eq_nil_iff.mp z)), e1, SX.S_cat]
end Pl
namespace Wq
open PySem PySem.Spec PyProof.Rows L2
open Pl (Ws wds lns linesIn jn due mC mT mR)
theorem as_app {a b : Str} (ha : As a) (hb : As b) : As (a ++ b) := by
  intro c hc
  have e : (a ++ b).cps.toList = a.cps.toList ++ b.cps.toList := by
    show (a.cps ++ b.cps).toList = _
    simp
  rw [e] at hc
  exact (List.mem_append.mp hc).elim (ha c) (hb c)
theorem Lok.as {l : List Str} (h : Lok l) : As (jn l) := by
  unfold jn
  rw [Pl.lit_nl]
  intro c hc
  rcases Pl.join_mem hc with e | ⟨w, hw, hc⟩
  · rw [e]
    decide
  · exact (h.ln w hw).1.as c hc
theorem mnu_ln (k : Nat) : ∀ m ∈ mnu k, Ln m ∧ m.length ≤ 20 := by
  unfold mnu Ln
  split
  · decide +kernel
  · split <;> decide +kernel
theorem sync_ln : Ln "sync names" ∧ As "\nsync names" := by
  unfold Ln As
  decide +kernel
theorem plain_as2 : As zPC ∧ As zPR := by
  unfold As
  decide +kernel
/-- one more line of the recovery -/
theorem more_due {c r : List Str} (hc : Lok c) (hr : Lok r) (h : due c r = .ok) (h16 : r.length < 16) : due (linesIn (jn c)) (linesIn (jn r ++ "\nsync names")) = .ok := by
  have hne := (Pl.due_ok h).2.2.2.1
  rw [hc.lines, ← Pl.jn_more hne, Pl.lines_jn (ls := r ++ [("sync names" : Str)])]
  · exact Pl.due_more h h16
  · intro z
    have z2 := congrArg List.length z
    rw [List.length_append] at z2
    have : 0 < r.length := List.length_pos_iff.mpr hne
    have z2 : r.length + 1 = 1 := z2
    omega
  · intro l hl
    rcases List.mem_append.mp hl with hl | hl
    · exact (hr.ln l hl).1.nl
    · rw [List.mem_singleton.mp hl]
      exact sync_ln.1.nl
def mCt : List Str := mC.filter fun x => decide (x ≠ "tell")
theorem mCt_ln : ∀ m ∈ mCt, Ln m ∧ m.length ≤ 20 := fun m hm => mnu_ln 0 m (List.mem_filter.mp hm).1
theorem mCt_len : mCt.length = 19 := by decide +kernel
theorem pick_int {ns : List Int} {i : Nat} {v : V} (h : (ns.map V.int)[i]? = some v) : ∃ z ∈ ns, v = .int z := by
  rw [List.getElem?_map] at h
  cases e : ns[i]? with
  | none => rw [e] at h; cases h
  | some z =>
    rw [e] at h
    exact ⟨z, List.mem_of_getElem? e, (Option.some.inj h).symm⟩
/-- lines of the law's own making -/
structure Gl (n k : Nat) (l : List Str) : Prop where
  ln : ∀ x ∈ l, Ln x ∧ x.length ≤ n
  few : l.length ≤ k
theorem Gl.as {n k : Nat} {l : List Str} (h : Gl n k l) : ∀ x ∈ l, As x := fun x hx => (h.ln x hx).1.as
theorem Gl.mono {n k n' k' : Nat} {l : List Str} (h : Gl n k l) (h1 : n ≤ n') (h2 : k ≤ k') : Gl n' k' l := ⟨fun x hx => ⟨(h.ln x hx).1, Nat.le_trans (h.ln x hx).2 h1⟩, Nat.le_trans h.few h2⟩
theorem Gl.app {n k k' : Nat} {a b : List Str} (h : Gl n k a) (h' : Gl n k' b) : Gl n (k + k') (a ++ b) := ⟨fun x hx => (List.mem_append.mp hx).elim (h.ln x) (h'.ln x), by rw [List.length_append]; have := h.few; have := h'.few; omega⟩
theorem Gl.set {n k : Nat} {l : List Str} {i : Nat} {z : Str} (h : Gl n k l) (hz : Ln z ∧ z.length ≤ n) : Gl n k (l.set i z) := ⟨fun x hx => by
  rcases List.mem_or_eq_of_mem_set hx with hx | hx
  · exact h.ln x hx
  · rw [hx]; exact hz, by rw [List.length_set]; exact h.few⟩
theorem rep_str (k : Nat) (x : Str) : (List.replicate k ([V.str x] : List V)).flatten = (List.replicate k x).map V.str := by
  induction k with
  | zero => rfl
  | succ k ih =>
    rw [List.replicate_succ, List.flatten_cons, ih, List.replicate_succ, List.map_cons]
    rfl
end Wq
set_option Elab.async false
set_option linter.all false
set_option maxRecDepth 100000
set_option maxHeartbeats 4000000
namespace Wq
open PySem PySem.Spec PyProof.Rows L2
open Pl (Ws wds linesIn jn due mC mT mR)
abbrev sLaw : Stmt := top 31
abbrev NLaw : List Str := ["_law_script", "_law_pen_here", "_law_menu_here", "_law_turn", "_law_commit", "_law_at", "_law_recovery", "_law_lines", "_law_due_here", "_law_one", "_law_two", "_law_other", "_law_line", "_law_k"]
theorem scLaw : FnScope NLaw ["_law_script"] (defScope sLaw) := ⟨rfl, rfl, rfl, by decide +kernel, rfl, by decide +kernel, by decide +kernel⟩
def spLaw (K : PySem.W.Frag) : Sp := fun vs H Q _ => ∃ (a : Addr) (ns : List Int), vs = [.ref a] ∧ SqL K H a (ns.map V.int) ∧ ∀ H', Q (.bl true) H'
/-- the pen and the menu -/
structure PM (G : Hp) (p c mm : Addr) (m : Nat) : Prop where
  pen : PenAt G p c m
  menu : G mm = some (.lst (mCt.map V.str))
section
variable {G G' : Hp} {p c mm q : Addr} {m m' : Nat} {o : HO} {xs : List V}
theorem PM.mono (h : PM G p c mm m) (hm : m ≤ m') : PM G p c mm m' := ⟨h.pen.mono hm, h.menu⟩
theorem PM.draw (h : PM G p c mm m) (hp : PenAt (upd G p o) p c m') : PM (upd G p o) p c mm m' := ⟨hp, h.pen.lst h.menu⟩
theorem PM.same (h : PM G p c mm m) (s : Same G G') : PM G' p c mm m := ⟨h.pen.same s, s _ _ h.menu⟩
theorem PM.new (h : PM G p c mm m) (hq : G q = none) : PM (upd G q o) p c mm m := h.same (sNew hq)
theorem PM.pn (h : PM G p c mm m) (n : Pn p c m' G G') : PM G' p c mm m' := ⟨n.pen, n.lst h.menu⟩
theorem PM.lst (h : PM G p c mm m) (hq : G q = some (.lst xs)) : upd G p o q = some (.lst xs) := h.pen.lst hq
theorem PM.nes (h : PM G p c mm m) (hq : G q = none) : p ≠ q ∧ c ≠ q ∧ mm ≠ q := by
  obtain ⟨kvs, hk⟩ := h.pen.dict
  obtain ⟨ys, hy⟩ := h.pen.cells
  exact ⟨ne_of_none hk hq, ne_of_none hy hq, ne_of_none h.menu hq⟩
theorem PM.put (h : PM G p c mm m) (hn : p ≠ q ∧ c ≠ q ∧ mm ≠ q) : PM (upd G q o) p c mm m := ⟨h.pen.put hn.1 hn.2.1, by rw [upd_ne hn.2.2]; exact h.menu⟩
end
theorem b2i_cases (b : Bool) : b2i b = 0 ∨ b2i b = 1 := by cases b <;> simp [b2i]
section
variable {P : Program} {w : World} {K : PySem.W.Frag} {mg : Str → Option Value} {base : Heap} {C CT CM fE f0 : Addr} {fd0 fdE : FuncData}
theorem if_empty {K : PySem.W.Frag} {σ : L2.St} {G : Hp} {Q : VK} {i : Nat} {x : Addr} {l : List Str} (hi : σ[i]? = some (some (.ref x))) (hx : G x = some (.lst (l.map V.str))) (hg : Gl 60 20 l) (k : ∀ (G' : Hp) (a' : Addr) (l' : List Str), Same G G' → G' a' = some (.lst (l'.map V.str)) → Lok l' → Q (.ref a') G') :
    tIf (tTest (tOp (rEqD K) (tVar i) (tLst (tCons (tC (.str "")) tNil)))) (tLst tNil) (tVar i) σ G Q := by
  refine ⟨_, hi, by show 1 ≤ sizeLine; rw [sizeLine_eq]; decide, fun e1 he1 => ?_⟩
  have v1 := sNew (o := .lst [.str ""]) he1
  refine ⟨.list (l.map PyData.str), .list (([""] : List Str).map PyData.str), .lst (.inl (.inl (v1 _ _ hx))) (dpS _), .lst (.inl (.inl upd_same)) (dpS [""]), shapS _ hg.as, shapS [""] (fun x hx => by rw [List.mem_singleton.mp hx]; intro c hc; cases hc), _, rfl, ?_⟩
  rw [eqvLS]
  by_cases e : l = [("" : Str)]
  · refine (if_pos (decide_eq_true e)).mpr ?_
    refine ⟨by show 0 ≤ sizeLine; rw [sizeLine_eq]; decide, fun q hq => ?_⟩
    exact k _ q [] (v1.trans (sNew hq)) upd_same ⟨fun x hx => by (cases hx), Nat.zero_le _, fun z => by (cases z)⟩
  · refine (if_neg (by rw [decide_eq_false e]; decide)).mpr ?_
    have := hg.few
    exact ⟨_, hi, k _ x l v1 (v1 _ _ hx) ⟨fun y hy => ⟨(hg.ln y hy).1, Nat.le_trans (hg.ln y hy).2 (by decide)⟩, by omega, e⟩⟩
def dueD (d : Pl.Due) (x y : Str) : List PyData := match d with
  | .ok => [.str x, .str y]
  | .many n => [.str "many", .str "lines", .int n, .int 16]
  | .text l k => [.str "text", .int l, .int k]
theorem dp_due {K : PySem.W.Frag} {H : Hp} (d : Pl.Due) (x y : Str) : DpAll K H (dueV d x y) (dueD d x y) := by
  cases d with
  | ok => exact .cons (.str _) (.cons (.str _) .nil)
  | many n => exact .cons (.str _) (.cons (.str _) (.cons (.int _) (.cons (.int _) .nil)))
  | text l k => exact .cons (.str _) (.cons (.int _) (.cons (.int _) .nil))
theorem sh_due {d : Pl.Due} {x y : Str} (hx : As x) (hy : As y) : SeqAt.shaped (.tuple (dueD d x y)) = true := by
  cases d with
  | ok =>
    refine shapT [x, y] fun z hz => ?_
    rcases List.mem_cons.mp hz with rfl | hz
    · exact hx
    · rw [List.mem_singleton.mp hz]; exact hy
  | many n =>
    have h1 : PyData.strOk "many" = true := by decide +kernel
    have h2 : PyData.strOk "lines" = true := by decide +kernel
    show (PyData.canLay0 _ && decide (PyData.depth _ ≤ 64)) = true
    simp [dueD, PyData.canLay0, PyData.canLayAll0, PyData.depth, PyData.depthAll, h1, h2]
  | text l k =>
    have h1 : PyData.strOk "text" = true := by decide +kernel
    show (PyData.canLay0 _ && decide (PyData.depth _ ≤ 64)) = true
    simp [dueD, PyData.canLay0, PyData.canLayAll0, PyData.depth, PyData.depthAll, h1]
theorem eq_due (d : Pl.Due) (x y : Str) : PyData.eqv (.tuple (dueD d x y)) (.tuple (dueD d x y)) = true := by
  cases d <;> simp [dueD, PyData.eqv, PyData.eqvAll]
def tePick (K : PySem.W.Frag) : TE := tCall (spPick K) [] E0 (tCons (tVar 1) (tCons (tVar 2) tNil))
def tePickM (K : PySem.W.Frag) : TE := tCall (spPick K) [] E0 (tCons (tVar 1) (tCons (tCall spMn [] E0 (tCons (tC (.str "rest")) tNil)) tNil))
theorem ok_law {fa : Addr} {fd : FuncData} (F : Fun K "law" "law" sLaw fa fd) (T : Txt K mg) (TC : TxtC K mg C) (M0 : Mk K C f0) (G0 : FnOk P w K mg base (L2.CX P w) 5 f0 fd0 ["self", "commit", "recovery"] (spCI C CT CM)) (b0 : L2.Binds K fd0 ["self", "commit", "recovery"] [])
    (BE : EqC K C fE) (GE : FnOk P w K mg base CX0 1 fE fdE ["self", "other"] (spEQ C)) (bE : L2.Binds K fdE ["self", "other"] [])
    (CPn : Cl P w K mg base 1 "_law_pen" (spPen K)) (CD : Cl P w K mg base 1 "_law_draw" (spDraw K)) (CP : Cl P w K mg base 2 "_law_pick" (spPick K)) (CMn : Cl P w K mg base 2 "_law_menu" spMn)
    (CSp : Cl P w K mg base 3 "_law_spoilt" spSp) (CTd : Cl P w K mg base 7 "_law_told" (spTd K)) (CDu : Cl P w K mg base 3 "_law_due" (spTd K)) (CPP : Cl P w K mg base 7 "plain_protocol" (spPP C)) : FnOk P w K mg base CX0 8 fa fd ["_law_script"] (spLaw K) := by
  refine F.ok scLaw (fun vs H Q E h => ?_) (fun cdv A outer s H vs Q E hr h => ?_)
  · obtain ⟨a, ns, rfl, _⟩ := h
    rfl
  obtain ⟨a0, ns, rfl, hS, k⟩ := h
  have r2 : Room 1 _ := hr.mono (by decide)
  have r6 : Room 6 _ := hr.mono (by decide)
  have r3 : Room 2 _ := hr.mono (by decide)
  refine ⟨_, pss_cons (ps_set (i := 1) scLaw.nd rfl (Or.inr rfl) (pe_cl CPn hr (by decide) rfl (pa_cons (pv 0) pa_nil)))
(C8.pss_cut (ps_set (i := 2) scLaw.nd rfl (Or.inr rfl) (pe_lc (own := [("_law_line", 12)]) (g := gName 12) (tt := tTest (tOp rNe (tVar 12) (tC (.str "tell")))) (by rfl) scLaw.nd (pi_list (pe_cl CMn hr (by decide) rfl (pa_cons pe_str pa_nil))) (blkOk_by (own := [("_law_line", 12)]) (N := NLaw) (sc := defScope sLaw) (by decide +kernel)) (fun _ _ _ _ _ => (pg_name (i := 12) scLaw.nd rfl (Or.inl rfl))) (fun _ _ _ _ _ => (pts_one (pt_cmpR op_ne (pv 12) pe_str (nomark _)))) (fun _ _ _ _ _ => (pv 12))))
(pss_cons (ps_for PassesOwn.never rfl (pi_range1 rfl (by exact T.range) (pa_cons pe_int pa_nil)) (pg_name (i := 3) scLaw.nd rfl (Or.inl rfl))
(C8.pss_cut (ps_setLc (i := 4) (own := [("_law_k", 13)]) (g := gName 13) (tt := tYes) (te := tePick K) (by rfl) scLaw.nd rfl rfl (sw_true rfl rfl rfl (by decide +kernel)) (pi_range1 rfl (by exact T.range) (pa_cons (pe_cl CD hr (by decide) rfl (pa_cons (pv 1) (pa_cons (pe_cl CP hr (by decide) rfl (pa_cons (pv 1) (pa_cons (pe_lst (pa_cons pe_int (pa_cons pe_int (pa_cons pe_int pa_nil)))) pa_nil))) pa_nil))) pa_nil)) (blkOk_by (own := [("_law_k", 13)]) (N := NLaw) (sc := defScope sLaw) (by decide +kernel)) (fun _ _ _ _ _ => (pg_name (i := 13) scLaw.nd rfl (Or.inl rfl))) (fun _ _ _ _ _ => pts_nil) (fun _ _ _ _ _ => (pe_cl CP hr (by decide) rfl (pa_cons (pv 1) (pa_cons (pv 2) pa_nil)))))
(C8.pss_cut (ps_set (i := 5) scLaw.nd rfl (Or.inl rfl) (pe_cl CD hr (by decide) rfl (pa_cons (pv 1) (pa_cons (pe_op op_add (pe_callB call_len_seq (by rfl) (by exact T.len) PySem.boot_len (pa_cons (pv 4) pa_nil)) pe_int) pa_nil))))
(C8.pss_cut (ps_set (i := 4) scLaw.nd rfl (Or.inl rfl) (pe_op op_cat (pe_op op_cat (pe_slice sl_list (pv 4) po_none (po_some (pv 5))) (pe_op op_rep (pe_lst (pa_cons pe_str pa_nil)) (pe_cl CP hr (by decide) rfl (pa_cons (pv 1) (pa_cons (pe_lst (pa_cons pe_int (pa_cons pe_int (pa_cons pe_int (pa_cons pe_int (pa_cons pe_int (pa_cons pe_int pa_nil))))))) pa_nil))))) (pe_slice sl_list (pv 4) (po_some (pv 5)) po_none)))
(C8.pss_cut (ps_setLc (i := 6) (own := [("_law_k", 13)]) (g := gName 13) (tt := tYes) (te := tePickM K) (by rfl) scLaw.nd rfl rfl (sw_true rfl rfl rfl (by decide +kernel)) (pi_range1 rfl (by exact T.range) (pa_cons (pe_cl CD hr (by decide) rfl (pa_cons (pv 1) (pa_cons (pe_cl CP hr (by decide) rfl (pa_cons (pv 1) (pa_cons (pe_lst (pa_cons pe_int (pa_cons pe_int (pa_cons pe_int pa_nil)))) pa_nil))) pa_nil))) pa_nil)) (blkOk_by (own := [("_law_k", 13)]) (N := NLaw) (sc := defScope sLaw) (by decide +kernel)) (fun _ _ _ _ _ => (pg_name (i := 13) scLaw.nd rfl (Or.inl rfl))) (fun _ _ _ _ _ => pts_nil) (fun _ _ _ _ _ => (pe_cl CP hr (by decide) rfl (pa_cons (pv 1) (pa_cons (pe_cl CMn hr (by decide) rfl (pa_cons pe_str pa_nil)) pa_nil)))))
(C8.pss_cut (ps_set (i := 6) scLaw.nd rfl (Or.inl rfl) (pe_op op_cat (pe_op op_rep (pe_lst (pa_cons (pe_cl CP hr (by decide) rfl (pa_cons (pv 1) (pa_cons (pe_cl CMn hr (by decide) rfl (pa_cons pe_str pa_nil)) pa_nil))) pa_nil)) (pe_callTy call_int1 (by rfl) (by exact T.int) PyProof.Rows.boot_int (pa_cons (pe_cmpR op_gt (pe_cl CD hr (by decide) rfl (pa_cons (pv 1) (pa_cons pe_int pa_nil))) pe_int (nomark _)) pa_nil))) (pv 6)))
(C8.pss_cut (ps_for PassesOwn.never rfl (pi_list (pe_lst (pa_cons (pv 4) (pa_cons (pv 6) pa_nil)))) (pg_name (i := 7) scLaw.nd rfl (Or.inl rfl))
(pss_one (ps_if (PW.pt (pw_and (pt_cmpR (op_neD (hu64 hr)) (pv 7) (pe_lst pa_nil) (nomark _)) (pw_and1 (pt_cmpR op_eq (pe_cl CD hr (by decide) rfl (pa_cons (pv 1) (pa_cons pe_int pa_nil))) pe_int (nomark _)))))
(pss_cons (ps_set (i := 5) scLaw.nd rfl (Or.inl rfl) (pe_cl CD hr (by decide) rfl (pa_cons (pv 1) (pa_cons (pe_callB call_len_seq (by rfl) (by exact T.len) PySem.boot_len (pa_cons (pv 7) pa_nil)) pa_nil))))
(pss_one (ps_asg (pe_cl CSp hr (by decide) rfl (pa_cons (pv 1) (pa_cons (pe_ix ix_list (pv 7) (pv 5) (fun _ _ => rfl)) pa_nil))) (pg_sub (pv 7) (pv 5) set_list))))
pss_nil)))
(C8.pss_cut (ps_par (i := 4) (j := 6) (by rfl) scLaw.nd rfl rfl (by decide) rfl rfl  (pa_cons (pe_ifExp (pt_cmpR (op_eqD (hu64 hr)) (pv 4) (pe_lst (pa_cons pe_str pa_nil)) (nomark _)) (pe_lst pa_nil) (pv 4)) (pa_cons (pe_ifExp (pt_cmpR (op_eqD (hu64 hr)) (pv 6) (pe_lst (pa_cons pe_str pa_nil)) (nomark _)) (pe_lst pa_nil) (pv 6)) pa_nil)) (by rfl))
(C8.pss_cut (ps_set (i := 8) scLaw.nd rfl (Or.inl rfl) (pe_cl CDu hr (by decide) rfl (pa_cons (pv 4) (pa_cons (pv 6) pa_nil))))
(C8.pss_cut (ps_if (pt_cmpR (op_neD (hu64 hr)) (pe_cl CTd hr (by decide) rfl (pa_cons (pv 4) (pa_cons (pv 6) pa_nil))) (pv 8) (nomark _))
(pss_one (ps_ret pe_bl))
pss_nil)
(pss_one (ps_if (pt_cmpR op_notIn_seq (pe_ix ix_tup (pv 8) pe_int (fun _ _ => rfl)) (pe_lst (pa_cons pe_str (pa_cons pe_str pa_nil))) rfl)
(C8.pss_cut (ps_par (i := 9) (j := 10) (by rfl) scLaw.nd rfl rfl (by decide) rfl rfl  (pa_cons (pe_make M0 G0 r6 rfl (by exact TC.gC) b0 .nil passF (pa_cons (pe_ix ix_tup (pv 8) pe_int (fun _ _ => rfl)) (pa_cons (pe_ix ix_tup (pv 8) pe_int (fun _ _ => rfl)) pa_nil))) (pa_cons (pe_make M0 G0 r6 rfl (by exact TC.gC) b0 .nil passF (pa_cons (pe_ix ix_tup (pv 8) pe_int (fun _ _ => rfl)) (pa_cons (pe_ix ix_tup (pv 8) pe_int (fun _ _ => rfl)) pa_nil))) pa_nil)) (by rfl))
(C8.pss_cut (ps_set (i := 11) scLaw.nd rfl (Or.inl rfl) (pe_ifExp (pt_cmpR op_lt (pe_callB call_len_seq (by rfl) (by exact T.len) PySem.boot_len (pa_cons (pv 6) pa_nil)) pe_int (nomark _)) (pe_make M0 G0 r6 rfl (by exact TC.gC) b0 .nil passF (pa_cons (pe_ix ix_tup (pv 8) pe_int (fun _ _ => rfl)) (pa_cons (pe_op op_add_str (pe_ix ix_tup (pv 8) pe_int (fun _ _ => rfl)) pe_str) pa_nil))) (pe_cl0 CPP hr (by decide) rfl)))
(pss_one (ps_if (PW.pt (pw_or (pt_cmpR (op_neO BE GE r3 bE pass0) (pv 9) (pv 10) (nomark _)) (pw_or (pt_cmpR op_ne (pe_cmpR (op_eqO BE GE r2 bE pass0) (pv 9) (pv 11) (nomark _)) (pe_cmpR (op_eqD (hu64 hr)) (pv 8) (pe_tup (pa_cons (pe_fld (pv 11) rfl) (pa_cons (pe_fld (pv 11) rfl) pa_nil))) (nomark _)) (nomark _)) (pw_or1 (pt_cmpR (op_eqO BE GE r2 bE pass0) (pv 9) (pv 8) (nomark _))))))
(pss_one (ps_ret pe_bl))
pss_nil))))
pss_nil))))))))))))
(pss_one (ps_ret pe_bl)))), ?_⟩
  refine ⟨_, rfl, a0, ns, rfl, hS, fun p c H1 hp0 s0 hpen => ?_⟩
  refine ⟨fun σ G => ∃ mm : Addr, σ = [some (.ref a0), some (.ref p), some (.ref mm), none, none, none, none, none, none, none, none, none, none, none] ∧ PM G p c mm 0, ?_, ?_⟩
  · refine ⟨0, rfl, fun q G1 s1 hq => ⟨q, rfl, ⟨_, .inl (.inl hq)⟩, fun D hD => ?_⟩⟩
    have hpen1 := hpen.same s1
    refine lc_list (K := K) (a := q) (xs := (mnu 0).map V.str) (fun j G => Same G1 G ∧ G D = some (.lst ((((mnu 0).take j).filter fun x : Str => decide (x ≠ "tell")).map V.str))) ⟨sNew hD, upd_same⟩ (fun j G _ h => .inl (.inl (h.1 _ _ hq))) ?_ ?_
    · rintro j v G hj ⟨s6, hD6⟩
      obtain ⟨u, rfl, eu⟩ := str_at hj
      refine ⟨rfl, _, rfl, rfl, _, rfl, ?_⟩
      rw [str_dec, List.take_add_one, eu, List.filter_append]
      show if (!decide (u = "tell")) = true then _ else _
      have ef : List.filter (fun x : Str => decide (x ≠ "tell")) (some u).toList = if u = "tell" then [] else [u] := by
        show List.filter _ [u] = _
        rw [filt1]
        by_cases e : u = "tell"
        · rw [if_pos e, if_neg (by rw [decide_eq_false (fun z => z e)]; decide)]
        · rw [if_neg e, if_pos (decide_eq_true e)]
      rw [ef]
      by_cases e : u = "tell"
      · refine (if_neg (by rw [decide_eq_true e]; decide)).mpr ?_
        rw [if_pos e, List.append_nil]
        exact ⟨s6, hD6⟩
      · refine (if_pos (by rw [decide_eq_false e]; rfl)).mpr ?_
        rw [if_neg e]
        refine ⟨_, rfl, _, hD6, ?_, fun b o' q' => ?_, ?_⟩
        · have h1 := List.length_filter_le (fun x : Str => decide (x ≠ "tell")) ((mnu 0).take j)
          rw [List.length_take] at h1
          have h2 := mnu_len 0
          rw [List.length_map, sizeLine_eq]
          omega
        · rw [upd_ne (ne_of_none q' hD)]
          exact s6 _ _ q'
        · rw [upd_same, List.map_append]
          rfl
    · rintro G ⟨s6, hD6⟩
      rw [List.length_map, List.take_length] at hD6
      exact ⟨D, rfl, hpen1.same s6, hD6⟩
  rintro σ G1 ⟨mm, rfl, hPM⟩
  refine ⟨6, rfl, by decide, by decide, ?_⟩
  refine for_range (lo := 0) (n := 6) (fun i σ G => ∃ x3 x4 x5 x6 x7 x8 x9 x10 x11 : Option V, σ = [some (.ref a0), some (.ref p), some (.ref mm), x3, x4, x5, x6, x7, x8, x9, x10, x11, none, none] ∧ PM G p c mm (100 * i)) ⟨_, _, _, _, _, _, _, _, _, rfl, hPM⟩ ?_ ?_
  rotate_left
  · rintro σ G ⟨x3, x4, x5, x6, x7, x8, x9, x10, x11, rfl, _⟩
    exact k G
  rintro i σ G2 hi ⟨x3, x4, x5, x6, x7, x8, x9, x10, x11, rfl, hP2⟩
  generalize hm0 : 100 * i = m at hP2
  have hm : m ≤ 600 := by omega
  have pk3 : ∀ (j : Nat) (v : V), ([V.int 4, V.int 16, V.int 17] : List V)[j]? = some v → ∃ z : Int, v = .int z ∧ 0 < z ∧ z ≤ 17 := fun j v hv => by
    obtain ⟨z, hz, rfl⟩ := pick_int (ns := [4, 16, 17]) hv
    refine ⟨z, rfl, ?_⟩
    simp only [List.mem_cons, List.not_mem_nil, or_false] at hz
    omega
  -- the commit's lines
  refine ⟨fun σ G => ∃ (a : Addr) (l : List Str), σ = [some (.ref a0), some (.ref p), some (.ref mm), some (.int (0 + (i : Int))), some (.ref a), x5, x6, x7, x8, x9, x10, x11, none, none] ∧ PM G p c mm (m + 20) ∧ G a = some (.lst (l.map V.str)) ∧ Gl 20 17 l, ?_, ?_⟩
  · refine ⟨_, rfl, _, rfl, by show 3 ≤ sizeLine; rw [sizeLine_eq]; decide, fun q hq => ?_⟩
    have u1 := hP2.new (o := .lst [.int 4, .int 16, .int 17]) hq
    refine ⟨p, c, m, _, _, rfl, u1.pen, .lst (.inl (.inl upd_same)), by omega, by decide, by decide, fun j v o hv hp => ?_⟩
    obtain ⟨z, rfl, z0, z1⟩ := pk3 j v hv
    have u2 := u1.draw hp
    refine ⟨p, c, m + 1, z, rfl, u2.pen, by omega, z0, log_ok z0 (by omega), fun n o2 n0 n1 hp2 => ?_⟩
    have u3 := u2.draw hp2
    generalize hGa : upd _ p o2 = Ga at u3
    refine ⟨n, rfl, by omega, by omega, fun D hD => ?_⟩
    have hn := u3.nes hD
    refine lc_range (lo := 0) (n := n.toNat) (fun i G => ∃ l : List Str, PM G p c mm (m + 2 + i) ∧ G D = some (.lst (l.map V.str)) ∧ l.length = i ∧ Gl 20 17 l) ⟨[], u3.new hD, upd_same, rfl, ⟨fun x hx => by (cases hx), Nat.zero_le _⟩⟩ ?_ ?_
    · rintro i G hi2 ⟨l, hP, hD2, hl, hg⟩
      refine ⟨rfl, _, rfl, _, rfl, p, c, _, .ref mm, mCt.map V.str, rfl, hP.pen, .lst (.inl (.inl hP.menu)), by omega, by rw [List.length_map, mCt_len]; decide, by rw [List.length_map, mCt_len]; decide, fun j v o hv hp => ?_⟩
      obtain ⟨z, rfl, ez⟩ := str_at hv
      have hz := mCt_ln z (List.mem_of_getElem? ez)
      refine ⟨l.map V.str, hP.lst hD2, by rw [List.length_map, sizeLine_eq]; omega, l ++ [z], ((hP.draw hp).put hn).mono (by omega), by rw [upd_same, List.map_append]; rfl, by rw [List.length_append, hl]; rfl, ⟨fun x hx => ?_, by rw [List.length_append]; show _ + 1 ≤ _; omega⟩⟩
      rcases List.mem_append.mp hx with hx | hx
      · exact hg.ln x hx
      · rw [List.mem_singleton.mp hx]; exact hz
    · rintro G ⟨l, hP, hD2, hl, hg⟩
      exact ⟨D, l, rfl, hP.mono (by omega), hD2, hg⟩
  rintro σ G3 ⟨a, l, rfl, hP3, ha3, hg3⟩
  have hf3 := hg3.few
  -- where tells are put
  refine ⟨fun σ G => ∃ n : Nat, σ = [some (.ref a0), some (.ref p), some (.ref mm), some (.int (0 + (i : Int))), some (.ref a), some (nI n), x6, x7, x8, x9, x10, x11, none, none] ∧ PM G p c mm (m + 21) ∧ G a = some (.lst (l.map V.str)), ?_, ?_⟩
  · refine ⟨_, rfl, _, rfl, a, _, rfl, .inl (.inl (.inl ha3)), _, _, rfl, rfl, p, c, m + 20, _, rfl, hP3.pen, by omega, by omega, log_ok (by omega) (by rw [List.length_map]; omega), fun n o n0 n1 hp => ?_⟩
    have en : V.int n = nI n.toNat := congrArg V.int (by omega)
    exact ⟨n.toNat, congrArg (fun z => [some (V.ref a0), some (.ref p), some (.ref mm), some (.int (0 + (i : Int))), some (.ref a), some z, x6, x7, x8, x9, x10, x11, none, none]) en, hP3.draw hp, hP3.lst ha3⟩
  rintro σ G4 ⟨at_, rfl, hP4, ha4⟩
  refine ⟨fun σ G => ∃ (a : Addr) (l : List Str), σ = [some (.ref a0), some (.ref p), some (.ref mm), some (.int (0 + (i : Int))), some (.ref a), some (nI at_), x6, x7, x8, x9, x10, x11, none, none] ∧ PM G p c mm (m + 22) ∧ G a = some (.lst (l.map V.str)) ∧ Gl 20 19 l ∧ c ≠ a ∧ mm ≠ a, ?_, ?_⟩
  · refine ⟨_, rfl, _, rfl, _, rfl, a, _, rfl, .inl (.inl ha4), fun q1 hq1 => ?_⟩
    rw [cut_to, ← List.map_take]
    have v1 := sNew (o := .lst ((l.take at_).map V.str)) hq1
    refine ⟨by show 1 ≤ sizeLine; rw [sizeLine_eq]; decide, fun q2 hq2 => ?_⟩
    have v2 := sNew (o := .lst [.str "tell"]) hq2
    refine ⟨_, rfl, by show 6 ≤ sizeLine; rw [sizeLine_eq]; decide, fun q3 hq3 => ?_⟩
    have v3 := sNew (o := .lst [.int 1, .int 1, .int 1, .int 1, .int 0, .int 2]) hq3
    have u1 := hP4.same (v1.trans (v2.trans v3))
    refine ⟨p, c, m + 21, _, _, rfl, u1.pen, .lst (.inl (.inl upd_same)), by omega, by decide, by decide, fun j v o hv hp => ?_⟩
    obtain ⟨z, hz, rfl⟩ := pick_int (ns := [1, 1, 1, 1, 0, 2]) hv
    have hz2 : 0 ≤ z ∧ z ≤ 2 := by
      simp only [List.mem_cons, List.not_mem_nil, or_false] at hz
      omega
    have u2 := u1.draw hp
    have w1 := u1.lst (v3 _ _ (v2 _ _ (show upd G4 q1 (.lst ((l.take at_).map V.str)) q1 = _ from upd_same))) (o := o)
    have w2 := u1.lst (v3 _ _ (show upd _ q2 (.lst [.str "tell"]) q2 = _ from upd_same (H := upd G4 q1 (.lst ((l.take at_).map V.str))))) (o := o)
    have w3 := u1.lst (v3 _ _ (v2 _ _ (v1 _ _ ha4))) (o := o)
    generalize upd _ p o = Gb at u2 w1 w2 w3
    refine ⟨q2, z, _, rfl, rfl, w2, by omega, by omega, by show 1 * z.toNat ≤ _; rw [sizeLine_eq]; omega, fun q4 hq4 => ?_⟩
    rw [rep_str]
    have v4 := sNew (o := .lst ((List.replicate z.toNat (Str.ofString "tell")).map V.str)) hq4
    have g1 : (l.take at_).length ≤ 17 := by rw [List.length_take]; omega
    have g2 : (l.drop at_).length ≤ 17 := by rw [List.length_drop]; omega
    have g12 : (l.take at_).length + (l.drop at_).length = l.length := by rw [← List.length_append, List.take_append_drop]
    refine ⟨q1, q4, _, _, rfl, rfl, v4 _ _ w1, upd_same, by rw [List.length_map, List.length_map, List.length_replicate, sizeLine_eq]; omega, fun q5 hq5 => ?_⟩
    have v5 := sNew (o := .lst ((l.take at_).map V.str ++ (List.replicate z.toNat (Str.ofString "tell")).map V.str)) hq5
    refine ⟨_, rfl, _, rfl, _, rfl, a, _, rfl, .inl (.inl (v5 _ _ (v4 _ _ w3))), fun q6 hq6 => ?_⟩
    rw [cut_from, ← List.map_drop]
    have v6 := sNew (o := .lst ((l.drop at_).map V.str)) hq6
    refine ⟨q5, q6, _, _, rfl, rfl, v6 _ _ upd_same, upd_same, by rw [List.length_append, List.length_map, List.length_map, List.length_map, List.length_replicate, sizeLine_eq]; omega, fun q7 hq7 => ?_⟩
    have hn7 := (u2.same (v4.trans (v5.trans v6))).nes hq7
    refine ⟨q7, l.take at_ ++ List.replicate z.toNat (Str.ofString "tell") ++ l.drop at_, rfl, u2.same (v4.trans (v5.trans (v6.trans (sNew hq7)))), by rw [upd_same, List.map_append, List.map_append], ⟨fun x hx => ?_, by rw [List.length_append, List.length_append, List.length_replicate]; omega⟩, hn7.2.1, hn7.2.2⟩
    rcases List.mem_append.mp hx with hx | hx
    · rcases List.mem_append.mp hx with hx | hx
      · exact hg3.ln x (List.mem_of_mem_take hx)
      · rw [(List.mem_replicate.mp hx).2]
        exact mnu_ln 0 "tell" (by decide +kernel)
    · exact hg3.ln x (List.mem_of_mem_drop hx)
  rintro σ G5 ⟨a, l, rfl, hP5, ha5, hg5, hca, hma⟩
  -- the recovery's lines
  refine ⟨fun σ G => ∃ (b : Addr) (r : List Str), σ = [some (.ref a0), some (.ref p), some (.ref mm), some (.int (0 + (i : Int))), some (.ref a), some (nI at_), some (.ref b), x7, x8, x9, x10, x11, none, none] ∧ PM G p c mm (m + 42) ∧ G a = some (.lst (l.map V.str)) ∧ G b = some (.lst (r.map V.str)) ∧ Gl 20 17 r, ?_, ?_⟩
  · refine ⟨_, rfl, _, rfl, by show 3 ≤ sizeLine; rw [sizeLine_eq]; decide, fun q hq => ?_⟩
    have u1 := hP5.new (o := .lst [.int 4, .int 16, .int 17]) hq
    have t1 := sNew (o := .lst [.int 4, .int 16, .int 17]) hq _ _ ha5
    refine ⟨p, c, m + 22, _, _, rfl, u1.pen, .lst (.inl (.inl upd_same)), by omega, by decide, by decide, fun j v o hv hp => ?_⟩
    obtain ⟨z, rfl, z0, z1⟩ := pk3 j v hv
    have u2 := u1.draw hp
    have t2 := u1.lst t1 (o := o)
    refine ⟨p, c, m + 23, z, rfl, u2.pen, by omega, z0, log_ok z0 (by omega), fun n o2 n0 n1 hp2 => ?_⟩
    have u3 := u2.draw hp2
    have t3 := u2.lst t2 (o := o2)
    generalize hGa : upd _ p o2 = Ga at u3 t3
    refine ⟨n, rfl, by omega, by omega, fun D hD => ?_⟩
    have hn := u3.nes hD
    have hna := ne_of_none t3 hD
    refine lc_range (lo := 0) (n := n.toNat) (fun i G => ∃ l2 : List Str, PM G p c mm (m + 24 + i) ∧ G a = some (.lst (l.map V.str)) ∧ G D = some (.lst (l2.map V.str)) ∧ l2.length = i ∧ Gl 20 17 l2) ⟨[], u3.new hD, sNew hD _ _ t3, upd_same, rfl, ⟨fun x hx => by (cases hx), Nat.zero_le _⟩⟩ ?_ ?_
    · rintro i G hi2 ⟨l2, hP, ht, hD2, hl, hg⟩
      refine ⟨rfl, _, rfl, 2, rfl, fun q2 G7 s7 hq2 => ?_⟩
      have hP7 := hP.same s7
      refine ⟨p, c, _, .ref q2, (mnu 2).map V.str, rfl, hP7.pen, .lst (.inl (.inl hq2)), by omega, by rw [List.length_map]; decide +kernel, by rw [List.length_map]; decide +kernel, fun j v o hv hp => ?_⟩
      obtain ⟨z, rfl, ez⟩ := str_at hv
      have hz := mnu_ln 2 z (List.mem_of_getElem? ez)
      refine ⟨l2.map V.str, hP7.lst (s7 _ _ hD2), by rw [List.length_map, sizeLine_eq]; omega, l2 ++ [z], ((hP7.draw hp).put hn).mono (by omega), by rw [upd_ne hna]; exact hP7.lst (s7 _ _ ht), by rw [upd_same, List.map_append]; rfl, by rw [List.length_append, hl]; rfl, ⟨fun x hx => ?_, by rw [List.length_append]; show _ + 1 ≤ _; omega⟩⟩
      rcases List.mem_append.mp hx with hx | hx
      · exact hg.ln x hx
      · rw [List.mem_singleton.mp hx]; exact hz
    · rintro G ⟨l2, hP, ht, hD2, hl, hg⟩
      exact ⟨D, l2, rfl, hP.mono (by omega), ht, hD2, hg⟩
  rintro σ G6 ⟨b, r, rfl, hP6, ha6, hb6, hg6⟩
  have hf5 := hg5.few
  have hf6 := hg6.few
  refine ⟨fun σ G => ∃ (b : Addr) (r : List Str), σ = [some (.ref a0), some (.ref p), some (.ref mm), some (.int (0 + (i : Int))), some (.ref a), some (nI at_), some (.ref b), x7, x8, x9, x10, x11, none, none] ∧ PM G p c mm (m + 44) ∧ a ≠ b ∧ G a = some (.lst (l.map V.str)) ∧ G b = some (.lst (r.map V.str)) ∧ Gl 20 18 r ∧ c ≠ b ∧ mm ≠ b, ?_, ?_⟩
  · refine ⟨_, rfl, 1, rfl, fun q2 G7 s7 hq2 => ?_⟩
    have hP7 := hP6.same s7
    refine ⟨p, c, m + 42, .ref q2, (mnu 1).map V.str, rfl, hP7.pen, .lst (.inl (.inl hq2)), by omega, by rw [List.length_map]; decide +kernel, by rw [List.length_map]; decide +kernel, fun j v o hv hp => ?_⟩
    obtain ⟨z, rfl, ez⟩ := str_at hv
    have hz := mnu_ln 1 z (List.mem_of_getElem? ez)
    have u1 := hP7.draw hp
    have ta := hP7.lst (s7 _ _ ha6) (o := o)
    have tb := hP7.lst (s7 _ _ hb6) (o := o)
    generalize upd G7 p o = Ga at u1 ta tb
    refine ⟨by show 1 ≤ sizeLine; rw [sizeLine_eq]; decide, fun q3 hq3 => ?_⟩
    have u2 := u1.new (o := .lst [.str z]) hq3
    have v1 := sNew (o := .lst [.str z]) hq3
    have t1 : upd Ga q3 (.lst [.str z]) q3 = some (.lst [.str z]) := upd_same
    refine ⟨_, rfl, p, c, m + 43, 12, rfl, u2.pen, by omega, by decide, log_ok (by decide) (by decide), fun n o2 n0 n1 hp2 => ?_⟩
    have u3 := u2.draw hp2
    have ta2 := u2.lst (v1 _ _ ta) (o := o2)
    have tb2 := u2.lst (v1 _ _ tb) (o := o2)
    have t2 := u2.lst t1 (o := o2)
    generalize upd _ p o2 = Gb at u3 ta2 tb2 t2
    refine ⟨_, _, rfl, rfl, .inr ⟨_, rfl, ?_⟩⟩
    obtain ⟨e, he, he1⟩ : ∃ e : Nat, b2i (decide (0 < n)) = (e : Int) ∧ e ≤ 1 := by
      rcases b2i_cases (decide (0 < n)) with z | z
      · exact ⟨0, z, by omega⟩
      · exact ⟨1, z, by omega⟩
    refine ⟨q3, (e : Int), _, rfl, congrArg V.int he, t2, by omega, by omega, by show 1 * _ ≤ _; rw [sizeLine_eq]; omega, fun q4 hq4 => ?_⟩
    rw [rep_str]
    have v4 := sNew (o := .lst ((List.replicate (e : Int).toNat z).map V.str)) hq4
    refine ⟨_, rfl, q4, b, _, _, rfl, rfl, upd_same, v4 _ _ tb2, by rw [List.length_map, List.length_map, List.length_replicate, sizeLine_eq]; omega, fun q5 hq5 => ?_⟩
    have v5 := sNew (o := .lst ((List.replicate (e : Int).toNat z).map V.str ++ r.map V.str)) hq5
    have hn5 := (u3.same v4).nes hq5
    refine ⟨q5, List.replicate (e : Int).toNat z ++ r, rfl, u3.same (v4.trans v5), ne_of_none (v4 _ _ ta2) hq5, v5 _ _ (v4 _ _ ta2), by rw [upd_same, List.map_append], ⟨fun x hx => ?_, by rw [List.length_append, List.length_replicate]; omega⟩, hn5.2.1, hn5.2.2⟩
    rcases List.mem_append.mp hx with hx | hx
    · rw [(List.mem_replicate.mp hx).2]
      exact hz
    · exact hg6.ln x hx
  rintro σ G7 ⟨b, r, rfl, hP7, hab, ha7, hb7, hg7, hcb, hmb⟩
  -- lines are spoilt
  refine ⟨fun σ G => ∃ (c' r' : List Str) (x5 x7 : Option V), σ = [some (.ref a0), some (.ref p), some (.ref mm), some (.int (0 + (i : Int))), some (.ref a), x5, some (.ref b), x7, x8, x9, x10, x11, none, none] ∧ PM G p c mm (m + 64) ∧ G a = some (.lst (c'.map V.str)) ∧ G b = some (.lst (r'.map V.str)) ∧ Gl 60 20 c' ∧ Gl 60 20 r', ?_, ?_⟩
  · refine ⟨_, rfl, _, rfl, by show 2 ≤ sizeLine; rw [sizeLine_eq]; decide, fun q hq => ?_⟩
    have u0 := hP7.new (o := .lst [.ref a, .ref b]) hq
    have v0 := sNew (o := .lst [.ref a, .ref b]) hq
    refine ⟨q, rfl, ⟨_, .inl (.inl upd_same)⟩, ?_⟩
    have hqa : a ≠ q := ne_of_none ha7 hq
    have hqb : b ≠ q := ne_of_none hb7 hq
    refine for_list (K := K) (a := q) (xs := [.ref a, .ref b]) (fun j σ G => ∃ (f : Addr → List Str) (x5 x7 : Option V), σ = [some (.ref a0), some (.ref p), some (.ref mm), some (.int (0 + (i : Int))), some (.ref a), x5, some (.ref b), x7, x8, x9, x10, x11, none, none] ∧ PM G p c mm (m + 44 + 10 * j) ∧ G q = some (.lst [.ref a, .ref b]) ∧ ∀ x, x = a ∨ x = b → G x = some (.lst ((f x).map V.str)) ∧ Gl (20 + 20 * j) 20 (f x))
      ⟨fun x => if x = a then l else r, _, _, rfl, u0, upd_same, fun x hx => ?_⟩ (fun j σ G _ ⟨_, _, _, _, _, h, _⟩ => .inl (.inl h)) ?_ ?_
    · rcases hx with rfl | rfl
      · show _ = some (HO.lst ((if x = x then l else r).map V.str)) ∧ Gl _ _ (if x = x then l else r)
        rw [if_pos rfl]
        exact ⟨v0 _ _ ha7, hg5.mono (by omega) (by omega)⟩
      · show _ = some (HO.lst ((if x = a then l else r).map V.str)) ∧ Gl _ _ (if x = a then l else r)
        rw [if_neg fun z => hab z.symm]
        exact ⟨v0 _ _ hb7, hg7.mono (by omega) (by omega)⟩
    · rintro j v σ G hj ⟨f, x5, x7, rfl, hP, hq2, hf⟩
      obtain ⟨x, rfl, hx, hj2⟩ : ∃ x, v = .ref x ∧ (x = a ∨ x = b) ∧ j < 2 := by
        match j, hj with
        | 0, hj => exact ⟨a, (Option.some.inj hj).symm, .inl rfl, by omega⟩
        | 1, hj => exact ⟨b, (Option.some.inj hj).symm, .inr rfl, by omega⟩
      obtain ⟨hx1, hx2⟩ := hf x hx
      have hxq : x ≠ q := by rcases hx with rfl | rfl <;> assumption
      have hfx := hx2.few
      refine ⟨_, rfl, by show 0 ≤ sizeLine; rw [sizeLine_eq]; decide, fun em hem => ?_⟩
      have v1 := sNew (o := .lst []) hem
      refine ⟨.list ((f x).map PyData.str), .list (([] : List Str).map PyData.str), .lst (.inl (.inl (v1 _ _ hx1))) (dpS _), .lst (.inl (.inl upd_same)) (dpS []), shapS _ hx2.as, shapS [] (fun x h => by cases h), _, rfl, ?_⟩
      rw [eqvLS]
      have skip : ∀ (G' : Hp) (x5 : Option V) (m' : Nat), PM G' p c mm m' → m' ≤ m + 44 + 10 * (j + 1) → Same G G' ∨ (∀ y u, y ≠ p → G y = some u → G' y = some u) → True := fun _ _ _ _ _ _ => trivial
      by_cases e0 : f x = []
      · refine (if_neg (by rw [decide_eq_true e0]; decide)).mpr ?_
        refine (if_neg (by decide)).mpr ?_
        exact ⟨f, x5, _, rfl, (hP.same v1).mono (by omega), v1 _ _ hq2, fun y hy => ⟨v1 _ _ (hf y hy).1, (hf y hy).2.mono (by omega) (by omega)⟩⟩
      refine (if_pos (by rw [decide_eq_false e0]; rfl)).mpr ?_
      have hP1 := hP.same v1
      refine ⟨_, rfl, p, c, _, 3, rfl, hP1.pen, by omega, by decide, log_ok (by decide) (by decide), fun n o n0 n1 hp => ?_⟩
      have u1 := hP1.draw hp
      have cr : ∀ y, y = a ∨ y = b → upd (upd G em (.lst [])) p o y = some (.lst ((f y).map V.str)) := fun y hy => hP1.lst (v1 _ _ (hf y hy).1)
      have cq := hP1.lst (v1 _ _ hq2) (o := o)
      generalize upd _ p o = Ga at u1 cr cq
      refine ⟨rfl, _, rfl, ?_⟩
      by_cases e1 : n = 0
      rotate_left
      · refine (if_neg (fun z => e1 (V.int.inj (of_decide_eq_true z)))).mpr ?_
        exact ⟨f, x5, _, rfl, u1.mono (by omega), cq, fun y hy => ⟨cr y hy, (hf y hy).2.mono (by omega) (by omega)⟩⟩
      refine (if_pos (decide_eq_true (congrArg V.int e1))).mpr ?_
      have hpos : 0 < (f x).length := List.length_pos_iff.mpr e0
      refine ⟨_, rfl, _, rfl, x, _, rfl, .inl (.inl (.inl (cr x hx))), p, c, _, _, rfl, u1.pen, by omega, by rw [List.length_map]; omega, log_ok (by rw [List.length_map]; omega) (by rw [List.length_map]; omega), fun n2 o2 m0 m1 hp2 => ?_⟩
      rw [List.length_map] at m1
      have u2 := u1.draw hp2
      have cr2 : ∀ y, y = a ∨ y = b → upd Ga p o2 y = some (.lst ((f y).map V.str)) := fun y hy => u1.lst (cr y hy)
      have cq2 := u1.lst cq (o := o2)
      generalize upd _ p o2 = Gb at u2 cr2 cq2
      obtain ⟨k2, rfl⟩ : ∃ k2 : Nat, n2 = (k2 : Int) := ⟨n2.toNat, by omega⟩
      have hk2 : k2 < (f x).length := by omega
      have ek : (f x)[k2]? = some (f x)[k2] := List.getElem?_eq_getElem hk2
      generalize (f x)[k2] = y0 at ek
      have hy0 := hx2.ln y0 (List.mem_of_getElem? ek)
      have hat : atI ((f x).map V.str) (k2 : Int) = some (V.str y0) := atI_nat (by rw [List.getElem?_map, ek]; rfl)
      refine ⟨_, rfl, _, rfl, _, rfl, x, _, _, _, rfl, rfl, .inl (.inl (cr2 x hx)), hat, p, c, _, y0, rfl, u2.pen, by omega, hy0.1, by omega, fun z G8 n8 hz1 hz2 => ?_⟩
      have u3 := u2.pn n8
      have cr3 : ∀ y, y = a ∨ y = b → G8 y = some (.lst ((f y).map V.str)) := fun y hy => n8.lst (cr2 y hy)
      have cq3 := n8.lst cq2
      have ix : ixN ((f x).map V.str).length (k2 : Int) = some k2 := by
        unfold ixN
        rw [if_pos (by omega), List.length_map, if_pos (by omega)]
        rfl
      refine ⟨_, rfl, _, rfl, x, _, _, k2, rfl, rfl, cr3 x hx, ix, ?_⟩
      refine ⟨fun y => if y = x then (f x).set k2 z else f y, _, _, rfl, ?_, ?_, fun y hy => ?_⟩
      · refine PM.mono (PM.put u3 ⟨fun e => ?_, fun e => ?_, fun e => ?_⟩) (by omega)
        · obtain ⟨kvs, hk⟩ := u3.pen.dict
          exact ne_of hk (cr3 x hx) (by intro z; cases z) e
        · rcases hx with rfl | rfl
          · exact hca e
          · exact hcb e
        · rcases hx with rfl | rfl
          · exact hma e
          · exact hmb e
      · rw [upd_ne (fun e => hxq e.symm)]
        exact cq3
      · show _ = some (HO.lst ((if y = x then (f x).set k2 z else f y).map V.str)) ∧ Gl _ _ (if y = x then (f x).set k2 z else f y)
        by_cases e : y = x
        · subst e
          rw [if_pos rfl, upd_same, List.map_set]
          exact ⟨rfl, (hx2.mono (by omega) (Nat.le_refl _)).set ⟨hz1, by omega⟩⟩
        · rw [if_neg e, upd_ne e]
          exact ⟨cr3 y hy, (hf y hy).2.mono (by omega) (Nat.le_refl _)⟩
    · rintro σ G ⟨f, x5, x7, rfl, hP, hq2, hf⟩
      exact ⟨f a, f b, x5, x7, rfl, hP.mono (by show m + 44 + 10 * 2 ≤ _; omega), (hf a (.inl rfl)).1, (hf b (.inr rfl)).1, (hf a (.inl rfl)).2, (hf b (.inr rfl)).2⟩
  rintro σ G8 ⟨c1, r1, y5, y7, rfl, hP8, ha8, hb8, hg8, hh8⟩
  refine ⟨fun σ G => ∃ (a b : Addr) (c' r' : List Str), σ = [some (.ref a0), some (.ref p), some (.ref mm), some (.int (0 + (i : Int))), some (.ref a), y5, some (.ref b), y7, x8, x9, x10, x11, none, none] ∧ PM G p c mm (m + 64) ∧ G a = some (.lst (c'.map V.str)) ∧ G b = some (.lst (r'.map V.str)) ∧ Lok c' ∧ Lok r', ?_, ?_⟩
  · exact if_empty rfl ha8 hg8 fun G9 a' c' s9 h9 ok9 => if_empty rfl (s9 _ _ hb8) hh8 fun G10 b' r' s10 h10 ok10 => ⟨_, _, rfl, a', b', c', r', rfl, hP8.same (s9.trans s10), s10 _ _ h9, h10, ok9, ok10⟩
  rintro σ G9 ⟨a, b, c1, r1, rfl, hP9, ha9, hb9, ok1, ok2⟩
  refine ⟨fun σ G => ∃ t : Addr, σ = [some (.ref a0), some (.ref p), some (.ref mm), some (.int (0 + (i : Int))), some (.ref a), y5, some (.ref b), y7, some (.ref t), x9, x10, x11, none, none] ∧ PM G p c mm (m + 64) ∧ G a = some (.lst (c1.map V.str)) ∧ G b = some (.lst (r1.map V.str)) ∧ G t = some (.tup (dueV (due c1 r1) (jn c1) (jn r1))), ?_, ?_⟩
  · exact ⟨_, rfl, _, rfl, a, b, c1, r1, rfl, .inl (.inl ha9), .inl (.inl hb9), ok1, ok2, fun t G s ht => ⟨t, rfl, hP9.same s, s _ _ ha9, s _ _ hb9, ht⟩⟩
  rintro σ G10 ⟨t, rfl, hP10, ha10, hb10, ht10⟩
  have hx := ok1.as
  have hy := ok2.as
  refine ⟨fun σ G => σ = [some (.ref a0), some (.ref p), some (.ref mm), some (.int (0 + (i : Int))), some (.ref a), y5, some (.ref b), y7, some (.ref t), x9, x10, x11, none, none] ∧ PM G p c mm (m + 64) ∧ G b = some (.lst (r1.map V.str)) ∧ G t = some (.tup (dueV (due c1 r1) (jn c1) (jn r1))), ?_, ?_⟩
  · refine ⟨_, rfl, _, rfl, a, b, c1, r1, rfl, .inl (.inl ha10), .inl (.inl hb10), ok1, ok2, fun t2 G s ht2 => ?_⟩
    refine ⟨_, rfl, .tuple (dueD (due c1 r1) (jn c1) (jn r1)), .tuple (dueD (due c1 r1) (jn c1) (jn r1)), .tup (.inl (.inl ht2)) (dp_due _ _ _), .tup (.inl (.inl (s _ _ ht10))) (dp_due _ _ _), sh_due hx hy, sh_due hx hy, _, rfl, ?_⟩
    refine (if_neg (by rw [eq_due]; decide)).mpr ?_
    exact ⟨rfl, hP10.same s, s _ _ hb10, s _ _ ht10⟩
  rintro σ G11 ⟨rfl, hP11, hb11, ht11⟩
  have next : ∀ (G : Hp) (σ : L2.St) (z9 z10 z11 : Option V), PM G p c mm (m + 64) → σ = [some (.ref a0), some (.ref p), some (.ref mm), some (.int (0 + (i : Int))), some (.ref a), y5, some (.ref b), y7, some (.ref t), z9, z10, z11, none, none] → ∃ x3 x4 x5 x6 x7 x8 x9 x10 x11 : Option V, σ = [some (.ref a0), some (.ref p), some (.ref mm), x3, x4, x5, x6, x7, x8, x9, x10, x11, none, none] ∧ PM G p c mm (100 * (i + 1)) := fun G σ z9 z10 z11 h e => ⟨_, _, _, _, _, _, _, _, _, e, h.mono (by omega)⟩
  cases hd : due c1 r1 with
  | many n =>
    rw [hd] at ht11
    refine ⟨_, rfl, t, _, _, V.str "many", rfl, rfl, .inl (.inl ht11), atI_nat (j := 0) rfl, by show 2 ≤ sizeLine; rw [sizeLine_eq]; decide, fun q hq => ⟨q, _, rfl, .inl (.inl (.inl upd_same)), rfl, flat_str ["text", "many"], _, rfl, ?_⟩⟩
    refine (if_neg (by decide)).mpr ?_
    exact next _ _ _ _ _ (hP11.new hq) rfl
  | text l k =>
    rw [hd] at ht11
    refine ⟨_, rfl, t, _, _, V.str "text", rfl, rfl, .inl (.inl ht11), atI_nat (j := 0) rfl, by show 2 ≤ sizeLine; rw [sizeLine_eq]; decide, fun q hq => ⟨q, _, rfl, .inl (.inl (.inl upd_same)), rfl, flat_str ["text", "many"], _, rfl, ?_⟩⟩
    refine (if_neg (by decide)).mpr ?_
    exact next _ _ _ _ _ (hP11.new hq) rfl
  | ok =>
  rw [hd] at ht11
  have ht11 : G11 t = some (.tup [.str (jn c1), .str (jn r1)]) := ht11
  refine ⟨_, rfl, t, _, _, V.str (jn c1), rfl, rfl, .inl (.inl ht11), atI_nat (j := 0) rfl, by show 2 ≤ sizeLine; rw [sizeLine_eq]; decide, fun q hq => ⟨q, _, rfl, .inl (.inl (.inl upd_same)), rfl, flat_str ["text", "many"], _, rfl, ?_⟩⟩
  have v0 := sNew (o := .lst [.str "text", .str "many"]) hq
  have hP12 := hP11.same v0
  have hb12 := v0 _ _ hb11
  have ht12 := v0 _ _ ht11
  generalize upd G11 q (.lst [.str "text", .str "many"]) = G12 at hP12 hb12 ht12
  cases hin : (if true = true then !inV (V.str (jn c1)) [V.str "text", V.str "many"] else inV (V.str (jn c1)) [V.str "text", V.str "many"]) with
  | false =>
    refine (if_neg (by decide)).mpr ?_
    exact next _ _ _ _ _ hP12 rfl
  | true =>
  refine (if_pos rfl).mpr ?_
  have hdl : due (linesIn (jn c1)) (linesIn (jn r1)) = .ok := by rw [ok1.lines, ok2.lines]; exact hd
  have hcl := ok1.len
  have hrl := ok2.len
  have hA1 : ∀ l ∈ linesIn (jn c1), As l := by
    rw [ok1.lines]
    exact fun l hl => (ok1.ln l hl).1.as
  refine ⟨fun σ G => ∃ o1 o2 : Addr, σ = [some (.ref a0), some (.ref p), some (.ref mm), some (.int (0 + (i : Int))), some (.ref a), y5, some (.ref b), y7, some (.ref t), some (.ref o1), some (.ref o2), x11, none, none] ∧ Same G12 G ∧ CpAt C G o1 (jn c1) (jn r1) ∧ CpAt C G o2 (jn c1) (jn r1), ?_, ?_⟩
  · refine ⟨_, rfl, t, _, _, V.str (jn c1), rfl, rfl, .inl (.inl ht12), atI_nat (j := 0) rfl, _, rfl, t, _, _, V.str (jn r1), rfl, rfl, .inl (.inl ht12), atI_nat (j := 1) rfl, fun o1 d1 ho1 hd1 _ => ?_⟩
    refine make_ok (K := K) hdl (by omega) (by omega) hA1 ho1 hd1 fun G13 s13 h13 => ⟨rfl, ?_⟩
    have ht13 := s13 _ _ ht12
    refine ⟨_, rfl, t, _, _, V.str (jn c1), rfl, rfl, .inl (.inl ht13), atI_nat (j := 0) rfl, _, rfl, t, _, _, V.str (jn r1), rfl, rfl, .inl (.inl ht13), atI_nat (j := 1) rfl, fun o2 d2 ho2 hd2 _ => ?_⟩
    refine make_ok (K := K) hdl (by omega) (by omega) hA1 ho2 hd2 fun G14 s14 h14 => ⟨rfl, ?_⟩
    exact ⟨_, _, rfl, o1, o2, rfl, s13.trans s14, h13.same s14, h14⟩
  rintro σ G13 ⟨o1, o2, rfl, s13, h1, h2⟩
  have ht13 := s13 _ _ ht12
  refine ⟨fun σ G => ∃ (o3 : Addr) (x' y' : Str), σ = [some (.ref a0), some (.ref p), some (.ref mm), some (.int (0 + (i : Int))), some (.ref a), y5, some (.ref b), y7, some (.ref t), some (.ref o1), some (.ref o2), some (.ref o3), none, none] ∧ Same G13 G ∧ CpAt C G o3 x' y' ∧ As x' ∧ As y', ?_, ?_⟩
  · refine ⟨_, rfl, b, _, rfl, .inl (.inl (.inl (s13 _ _ hb12))), _, _, rfl, rfl, _, rfl, ?_⟩
    by_cases e : r1.length < 16
    · refine (if_pos (decide_eq_true (by rw [List.length_map]; omega))).mpr ?_
      have hnl : (Str.ofString "\nsync names").length = 11 := by decide +kernel
      refine ⟨_, rfl, t, _, _, V.str (jn c1), rfl, rfl, .inl (.inl ht13), atI_nat (j := 0) rfl, _, rfl, t, _, _, V.str (jn r1), rfl, rfl, .inl (.inl ht13), atI_nat (j := 1) rfl, _, _, rfl, rfl, by rw [hnl, sizeLine_eq]; omega, fun o3 d3 ho3 hd3 _ => ?_⟩
      refine make_ok (K := K) (more_due ok1 ok2 hd e) (by omega) (by rw [strLen, hnl]; omega) hA1 ho3 hd3 fun G14 s14 h14 => ⟨rfl, ?_⟩
      exact ⟨o3, _, _, rfl, s14, h14, hx, as_app hy sync_ln.2⟩
    · refine (if_neg (fun z => e (by
        have z := of_decide_eq_true z
        rw [List.length_map] at z
        omega))).mpr ?_
      exact ⟨rfl, fun o3 G14 s14 h14 => ⟨o3, _, _, rfl, s14, h14, plain_as2.1, plain_as2.2⟩⟩
  rintro σ G14 ⟨o3, x', y', rfl, s14, h3, hx', hy'⟩
  have h1 := h1.same s14
  have h2 := h2.same s14
  have ht14 := s14 _ _ ht13
  obtain ⟨d1, p1, q1, i1⟩ := id h1
  obtain ⟨d2, p2, q2, i2⟩ := id h2
  obtain ⟨d3, p3, q3, i3⟩ := id h3
  refine ⟨_, rfl, _, rfl, o1, d1, _, rfl, i1, .inl ⟨o2, d2, _, rfl, i2⟩, o1, jn c1, jn r1, _, rfl, h1, .inl ⟨o2, jn c1, jn r1, rfl, h2, _, rfl, _, rfl, ?_⟩⟩
  refine (if_neg (by simp)).mpr ?_
  refine ⟨_, rfl, _, rfl, o1, d1, _, rfl, i1, .inl ⟨o3, d3, _, rfl, i3⟩, o1, jn c1, jn r1, _, rfl, h1, .inl ⟨o3, x', y', rfl, h3, _, rfl, _, rfl, o3, C, d3, _, _, rfl, i3, TC.cl, TC.na _ (by decide), rfl, _, rfl, o3, C, d3, _, _, rfl, i3, TC.cl, TC.na _ (by decide), rfl, by show 2 ≤ sizeLine; rw [sizeLine_eq]; decide, fun q4 hq4 => ?_⟩⟩
  have v4 := sNew (o := .tup [.str x', .str y']) hq4
  have two : ∀ x y : Str, As x → As y → ∀ z ∈ ([x, y] : List Str), As z := fun x y hx hy z hz => by
    rcases List.mem_cons.mp hz with rfl | hz
    · exact hx
    · rw [List.mem_singleton.mp hz]; exact hy
  refine ⟨.tuple (([jn c1, jn r1] : List Str).map PyData.str), .tuple (([x', y'] : List Str).map PyData.str), .tup (.inl (.inl (v4 _ _ ht14))) (dpS [jn c1, jn r1]), .tup (.inl (.inl upd_same)) (dpS [x', y']), shapT _ (two _ _ hx hy), shapT _ (two _ _ hx' hy'), rfl, _, rfl, ?_⟩
  rw [eqvTS]
  have eb : (decide (jn c1 = x') && decide (jn r1 = y')) = decide (([jn c1, jn r1] : List Str) = [x', y']) := by
    by_cases e1 : jn c1 = x' <;> by_cases e2 : jn r1 = y' <;> simp [e1, e2]
  refine (if_neg (by rw [eb]; simp)).mpr ?_
  refine ⟨_, rfl, _, rfl, o1, d1, _, rfl, v4 _ _ i1, .inr ⟨t, _, rfl, v4 _ _ ht14⟩, o1, jn c1, jn r1, _, rfl, h1.same v4, .inr ⟨t, _, rfl, v4 _ _ ht14, _, rfl, ?_⟩⟩
  refine (if_neg (by decide)).mpr ?_
  exact next _ _ _ _ _ (hP12.same (s13.trans (s14.trans v4))) rfl
end
end Wq
set_option Elab.async false
set_option linter.all false
set_option maxRecDepth 100000
set_option maxHeartbeats 2000000
namespace Wq
open PySem PySem.Spec PyProof.Rows L2
open Pl (LST)
/-! methods -/
structure MAt (K : PySem.W.Frag) (C : Addr) (m qual : Str) (st : Stmt) : Prop where
  ex : ∃ (f : Addr) (fd : FuncData), Fun K m qual st f fd ∧ Meth K C m f
theorem m_mk {K : PySem.W.Frag} {C : Addr} {m qual : Str} {st : Stmt} {f : Addr} {oc : Value} {od an : Option Addr} {osl : Array (Option Value)} {kV doc pm cdv ct : Value}
    (a : PySem.W.findIn K (.ref C) m = some (some (.ref f))) (i : PySem.W.isFn K (.ref f) = true) (l : K.lookup f = some ⟨oc, od, .func (PySem.W.fnOf m qual (defArgs st) (defBody st) (defScope st) .none kV doc pm an cdv ct), osl⟩)
    (c : PySem.W.codeIn K cdv qual = true) (k : PySem.W.keepIn K (.ref f) = true) : MAt K C m qual st := ⟨f, _, fun_mk l c k, ⟨a, i, k⟩⟩
/-- the written facts of an error -/
structure ErrW (K : PySem.W.Frag) (mg : Str → Option Value) (CE : Addr) (x : Str) (fs : List Str) : Prop where
  ox : OexC K CE
  nf : ∀ f ∈ fs, PySem.W.findIn K (.ref CE) f = some none
  gC : mg x = some (.ref CE)
  xf : XfC K CE
  te : PySem.W.exmOne K (.ref CE) (.ref CE) = some true
theorem ErrW.txt {K : PySem.W.Frag} {mg : Str → Option Value} {CE f : Addr} {x : Str} {fs : List Str} (E : ErrW K mg CE x fs) (M : Meth K CE "__init__" f) : TxtE K mg CE f x fs := ⟨E.ox, E.nf, M.at_, beq_iff_eq.mp M.fn, E.gC, E.xf, E.te⟩
theorem all2 {p : Str → Prop} {a b : Str} (ha : p a) (hb : p b) : ∀ f ∈ ([a, b] : List Str), p f := fun f hf => by
  rcases List.mem_cons.mp hf with rfl | hf
  · exact ha
  · rw [List.mem_singleton.mp hf]; exact hb
theorem all3 {p : Str → Prop} {a b c : Str} (ha : p a) (hb : p b) (hc : p c) : ∀ f ∈ ([a, b, c] : List Str), p f := fun f hf => by
  rcases List.mem_cons.mp hf with rfl | hf
  · exact ha
  · exact all2 hb hc f hf
theorem all4 {p : Str → Prop} {a b c d : Str} (ha : p a) (hb : p b) (hc : p c) (hd : p d) : ∀ f ∈ ([a, b, c, d] : List Str), p f := fun f hf => by
  rcases List.mem_cons.mp hf with rfl | hf
  · exact ha
  · exact all3 hb hc hd f hf
/-! written tuples of texts, written dicts -/
section
variable {K : PySem.W.Frag} {n : Addr} {od : Option Addr} {m : Nat} {sl : Array (Option Value)} {x y z : Str} {t1 t2 t3 : Tok}
theorem st0 (l : K.lookup n = some ⟨.type "tuple", od, .seq #[] m, sl⟩) : StT K n (([] : List Str).map V.str) := ⟨_, _, _, l, rfl, rfl, by decide, .nil⟩
theorem st1 (l : K.lookup n = some ⟨.type "tuple", od, .seq #[.str x t1] m, sl⟩) : StT K n (([x] : List Str).map V.str) := ⟨_, _, _, l, rfl, rfl, by show 1 ≤ sizeLine; rw [sizeLine_eq]; decide, .cons ⟨_, rfl⟩ .nil⟩
theorem st2 (l : K.lookup n = some ⟨.type "tuple", od, .seq #[.str x t1, .str y t2] m, sl⟩) : StT K n (([x, y] : List Str).map V.str) := ⟨_, _, _, l, rfl, rfl, by show 2 ≤ sizeLine; rw [sizeLine_eq]; decide, .cons ⟨_, rfl⟩ (.cons ⟨_, rfl⟩ .nil)⟩
theorem st3 (l : K.lookup n = some ⟨.type "tuple", od, .seq #[.str x t1, .str y t2, .str z t3] m, sl⟩) : StT K n (([x, y, z] : List Str).map V.str) := ⟨_, _, _, l, rfl, rfl, by show 3 ≤ sizeLine; rw [sizeLine_eq]; decide, .cons ⟨_, rfl⟩ (.cons ⟨_, rfl⟩ (.cons ⟨_, rfl⟩ .nil))⟩
end
structure CpW (K : PySem.W.Frag) (mg : Str → Option Value) (C : Addr) : Prop extends TxtC K mg C, TxtQ K C where
  mkc : PySem.W.makesIn K C = true
  kp : PySem.W.keepIn K (.ref C) = true
  nt : PySem.W.subIn K (.type "tuple") (.ref C) = some false
  ne : PySem.W.findIn K (.ref C) "__ne__" = some (some (.builtin "object.__ne__"))
theorem all_mk {l : PySem.W.OpenLaw} {w : World} {K : PySem.W.Frag} {h : Heap} {mg : Str → Option Value} {fa C CT CM CS : Addr} (X : K.In h) (G : h.Ns mainGlobals mg) (hfa : mg "law" = some (.ref fa))
    (T : Txt K mg) (TP : TxtP K mg) (TW : TxtW K w mg) (WT : ErrW K mg CT "BadText" ["line", "column"]) (WM : ErrW K mg CM "TooMany" ["what", "many", "limit"]) (TS : TxtS K mg CT CM CS) (CW : CpW K mg C)
    (d12 : DefAt K mg "lines_in" sLines) (d13 : DefAt K mg "read_protocol" sRP) (d14 : DefAt K mg "read_line" sRD) (d15 : DefAt K mg "words_behind" sWB) (d20 : DefAt K mg "plain_protocol" sPP)
    (d22 : DefAt K mg "_law_pen" sPen) (d23 : DefAt K mg "_law_draw" sDraw) (d24 : DefAt K mg "_law_pick" sPick) (d25 : DefAt K mg "_law_shared" sSh) (d26 : DefAt K mg "_law_menu" sMn) (d27 : DefAt K mg "_law_column" sCo)
    (d28 : DefAt K mg "_law_spoilt" sSp) (d29 : DefAt K mg "_law_told" sTd) (d30 : DefAt K mg "_law_due" sDu) (d31 : DefAt K mg "law" sLaw)
    (t0 : MAt K CT "__init__" "BadText.__init__" sTI) (m0 : MAt K CM "__init__" "TooMany.__init__" sMI) (c0 : MAt K C "__init__" "CommitProtocol.__init__" sCI) (c1 : MAt K C "__eq__" "CommitProtocol.__eq__" sEQ) :
    ∃ fd : FuncData, (∀ (s : Shared) (v : Value), BindsTo s fd ⟨[v], []⟩ [("_law_script", v)]) ∧ ∀ base : Heap, K.In base → base.Ns mainGlobals mg → FnOk l.prog w K mg base CX0 8 fa fd ["_law_script"] (spLaw K) := by
  obtain ⟨f, fd, F, hm⟩ := d31.ex
  have e := hfa.symm.trans hm
  cases e
  obtain ⟨oc, od, kV, doc, pm, an, cdv, ct, osl, rfl, lk, hcd⟩ := F.ex
  refine ⟨PySem.W.fnOf "law" "law" (defArgs sLaw) (defBody sLaw) (defScope sLaw) .none kV doc pm an cdv ct, fun s v => .of_eq rfl, fun base _ _ => ?_⟩
  have CD := ok_draw (P := l.prog) (w := w) (base := base) d23 T
  have CP := ok_pick (P := l.prog) (w := w) (base := base) d24 T CD
  -- errors
  obtain ⟨fT, fdT, FT, MT⟩ := t0.ex
  have TE := WT.txt MT
  have GT := ok_TI (P := l.prog) (w := w) (base := base) (mg := mg) FT TE
  have bT := FT.binds (ps := ["self", "line", "column"]) fun _ _ _ _ _ _ us hl => match us, hl with | [_, _, _], _ => rfl
  obtain ⟨fM, fdM, FM, MM⟩ := m0.ex
  have TM := WM.txt MM
  have GM := ok_MI (P := l.prog) (w := w) (base := base) (mg := mg) FM TM
  have bM := FM.binds (ps := ["self", "what", "many", "limit"]) fun _ _ _ _ _ _ us hl => match us, hl with | [_, _, _, _], _ => rfl
  -- the program's functions
  have CL := ok_lines (P := l.prog) (w := w) (base := base) d12 T TP
  have CWB := ok_WB (P := l.prog) (base := base) d15 T TP TW
  have CRD := ok_RD d14 T TP TE GT bT CWB
  have CRP := ok_RP d13 T TP TW TE GT bT TM GM bM CL CRD
  -- CommitProtocol
  obtain ⟨f0, fd0, F0, M0⟩ := c0.ex
  obtain ⟨f1, fd1, F1, M1⟩ := c1.ex
  have TC := CW.toTxtC
  have TQ := CW.toTxtQ
  have MK : Mk K C f0 := ⟨CW.mkc, M0.at_, M0.fn, CW.kp⟩
  have G0 := ok_CI (C := C) F0 TC CRP
  have b0 := F0.binds (ps := ["self", "commit", "recovery"]) fun _ _ _ _ _ _ us hl => match us, hl with | [_, _, _], _ => rfl
  have BE : EqC K C f1 := ⟨M1.at_, M1.fn, CW.nt, CW.ne, TQ.hm⟩
  have GE := ok_EQ (P := l.prog) (w := w) (base := base) (isn := TP.isi) F1 TC TQ
  have bE := F1.binds (ps := ["self", "other"]) fun _ _ _ _ _ _ us hl => match us, hl with | [_, _], _ => rfl
  have CMn := ok_Mn (P := l.prog) (w := w) (K := K) (base := base) d26 (ok_Sh d25)
  exact ok_law F T TC MK G0 b0 BE GE bE (ok_pen d22 T) CD CP CMn (ok_Sp d28 T CD CP) (ok_Td d29 TP TE TM TS TC MK G0 b0) (ok_Du d30 T (ok_Co d27 T) CMn) (ok_PP d20 TC MK G0 b0)
theorem walk {l : PySem.W.OpenLaw} {q : Program} {loose : List Str} {XP : (Str → Option Value) → Heap → Prop} {YP : World → Heap → Prop} {d : DefRec} {K : Params → PySem.W.Frag} (hn : l.most = some 63) (hdf : d.params.defaults = [])
    (hY : ∀ (w : World) (h : Heap), YP w h → (K w.params).In h)
    (F : ∀ (w : World) (mg : Str → Option Value) (fa : Addr) (h : Heap), (K w.params).In h → h.Ns mainGlobals mg → mg d.name = some (.ref fa) →
      ∃ fd : FuncData, (∀ (s : Shared) (u : Value), BindsTo s fd ⟨[u], []⟩ [("_law_script", u)]) ∧ ∀ base : Heap, (K w.params).In base → base.Ns mainGlobals mg → FnOk l.prog w (K w.params) mg base CX0 8 fa fd ["_law_script"] (spLaw (K w.params))) :
    PySem.W.WalkO q loose XP YP l.row.toRowW d [] (fun f vs => PySem.call f vs) :=
  L2.walk_of (n := 63) (k := 8) (x := "_law_script") (CX := fun _ => CX0) (sp := fun w => spLaw (K w.params)) hn (by decide) hdf ⟨rfl, by decide, by decide⟩ hY F (fun _ _ a ns hl _ hS => ⟨a, ns, rfl, hS, fun _ => rfl⟩) fun _ _ _ _ _ z => z
end Wq
set_option Elab.async false
set_option linter.all false
set_option maxRecDepth 100000
set_option maxHeartbeats 2000000
namespace Wq
open PySem PySem.Spec PyProof.Rows L2
theorem oex_mk {K : PySem.W.Frag} {C : Addr} {nm q : Str} {N : Addr} {bs bm : List Value} {sn : List Str} {sub : List Value} {ab : Bool} {col : Option Bool} {dd : Option Addr} {k0 k1 k2 k3 k5 : Option Value}
    (xL : K.lookup C = some (excClassObj nm q C N bs bm true sn sub ab col dd k0 k1 k2 k3 k5 "ValueError.__new__")) (rv : PySem.HandSPX.refsVE bm = true) (sa : PySem.W.findIn K (.ref C) "__setattr__" = some (some (.builtin "object.__setattr__")))
    (eC : PySem.W.subIn K (.ref C) (.type "BaseException") = some true) (tC : PySem.W.typeIn K (.ref C) = some (.type "type")) (kC : PySem.W.keepIn K (.ref C) = true) : OexC K C := ⟨⟨nm, q, N, bs, bm, sn, sub, ab, col, dd, k0, k1, k2, k3, k5, xL, rv⟩, sa, eC, tC, kC⟩
section
variable {K : PySem.W.Frag} {w : World} {mg : Str → Option Value} {a a1 a2 a3 a4 a5 : Addr} {n : Nat} {t1 t2 t3 t4 t5 u1 u2 : Tok}
abbrev en (w : World) (x : Str) (t : Tok) (v : Value) : DictEntry := { hash := PyData.keyHash w.params x, key := .str x t, val := v }
theorem gm_mk (g : mg "MOST_WORDS" = some (.ref a)) (l : K.lookup a = some ⟨.type "dict", none, .dict #[{ hash := PyData.keyHash w.params "rename", key := .str "rename" t1, val := .int 3 u1 }, { hash := PyData.keyHash w.params "take", key := .str "take" t2, val := .int 4 u2 }] n, #[]⟩) (low : (a == sysModules) = false) :
    ∃ a, mg "MOST_WORDS" = some (.ref a) ∧ Wd.At K w a [("rename", .int 3), ("take", .int 4)] :=
  ⟨a, g, _, _, l, .cons ⟨⟨_, rfl⟩, rfl, ⟨_, rfl⟩⟩ (.cons ⟨⟨_, rfl⟩, rfl, ⟨_, rfl⟩⟩ .nil), by decide +kernel, by decide, low⟩
theorem nd1 (a1 : V) : ((([("take", a1)] : List (Str × V))).map (·.1)).Nodup := by
  show (["take"] : List Str).Nodup
  decide +kernel
theorem gt_mk (g : mg "TAKE" = some (.ref a)) (l : K.lookup a = some ⟨.type "dict", none, .dict #[{ hash := PyData.keyHash w.params "take", key := .str "take" t1, val := .ref a1 }] n, #[]⟩) (low : (a == sysModules) = false) (s1 : StT K a1 (([] : List Str).map V.str)) :
    ∃ a kvs, mg "TAKE" = some (.ref a) ∧ Wd.At K w a kvs ∧ HdV K kvs Pl.hT :=
  ⟨a, [("take", .ref a1)], g, ⟨_, _, l, .cons ⟨⟨_, rfl⟩, rfl, rfl⟩ .nil, nd1 _, by show 1 ≤ 1000; decide, low⟩, .cons ⟨rfl, a1, rfl, s1⟩ .nil⟩
theorem nd5 (a1 a2 a3 a4 a5 : V) : ((([("write", a1), ("sync", a2), ("rename", a3), ("remove", a4), ("tell", a5)] : List (Str × V))).map (·.1)).Nodup := by
  show (["write", "sync", "rename", "remove", "tell"] : List Str).Nodup
  decide +kernel
theorem nd4 (a1 a2 a3 a4 : V) : ((([("write", a1), ("sync", a2), ("rename", a3), ("remove", a4)] : List (Str × V))).map (·.1)).Nodup := by
  show (["write", "sync", "rename", "remove"] : List Str).Nodup
  decide +kernel
theorem gc_mk (g : mg "COMMIT_WORDS" = some (.ref a)) (l : K.lookup a = some ⟨.type "dict", none, .dict #[{ hash := PyData.keyHash w.params "write", key := .str "write" t1, val := .ref a1 }, { hash := PyData.keyHash w.params "sync", key := .str "sync" t2, val := .ref a2 }, { hash := PyData.keyHash w.params "rename", key := .str "rename" t3, val := .ref a3 }, { hash := PyData.keyHash w.params "remove", key := .str "remove" t4, val := .ref a4 }, { hash := PyData.keyHash w.params "tell", key := .str "tell" t5, val := .ref a5 }] n, #[]⟩) (low : (a == sysModules) = false)
    (s1 : StT K a1 ((["new"] : List Str).map V.str)) (s2 : StT K a2 ((["new", "names"] : List Str).map V.str)) (s3 : StT K a3 (([] : List Str).map V.str)) (s4 : StT K a4 ((["dropped"] : List Str).map V.str)) (s5 : StT K a5 (([] : List Str).map V.str)) :
    ∃ a kvs, mg "COMMIT_WORDS" = some (.ref a) ∧ Wd.At K w a kvs ∧ HdV K kvs Pl.hC :=
  ⟨a, [("write", .ref a1), ("sync", .ref a2), ("rename", .ref a3), ("remove", .ref a4), ("tell", .ref a5)], g, ⟨_, _, l, .cons ⟨⟨_, rfl⟩, rfl, rfl⟩ (.cons ⟨⟨_, rfl⟩, rfl, rfl⟩ (.cons ⟨⟨_, rfl⟩, rfl, rfl⟩ (.cons ⟨⟨_, rfl⟩, rfl, rfl⟩ (.cons ⟨⟨_, rfl⟩, rfl, rfl⟩ .nil)))), nd5 _ _ _ _ _, by show 5 ≤ 1000; decide, low⟩,
    .cons ⟨rfl, a1, rfl, s1⟩ (.cons ⟨rfl, a2, rfl, s2⟩ (.cons ⟨rfl, a3, rfl, s3⟩ (.cons ⟨rfl, a4, rfl, s4⟩ (.cons ⟨rfl, a5, rfl, s5⟩ .nil))))⟩
theorem gr_mk (g : mg "RECOVERY_WORDS" = some (.ref a)) (l : K.lookup a = some ⟨.type "dict", none, .dict #[{ hash := PyData.keyHash w.params "write", key := .str "write" t1, val := .ref a1 }, { hash := PyData.keyHash w.params "sync", key := .str "sync" t2, val := .ref a2 }, { hash := PyData.keyHash w.params "rename", key := .str "rename" t3, val := .ref a3 }, { hash := PyData.keyHash w.params "remove", key := .str "remove" t4, val := .ref a4 }] n, #[]⟩) (low : (a == sysModules) = false)
    (s1 : StT K a1 (([] : List Str).map V.str)) (s2 : StT K a2 ((["names", "taken"] : List Str).map V.str)) (s3 : StT K a3 (([] : List Str).map V.str)) (s4 : StT K a4 ((["stray"] : List Str).map V.str)) :
    ∃ a kvs, mg "RECOVERY_WORDS" = some (.ref a) ∧ Wd.At K w a kvs ∧ HdV K kvs Pl.hR :=
  ⟨a, [("write", .ref a1), ("sync", .ref a2), ("rename", .ref a3), ("remove", .ref a4)], g, ⟨_, _, l, .cons ⟨⟨_, rfl⟩, rfl, rfl⟩ (.cons ⟨⟨_, rfl⟩, rfl, rfl⟩ (.cons ⟨⟨_, rfl⟩, rfl, rfl⟩ (.cons ⟨⟨_, rfl⟩, rfl, rfl⟩ .nil))), nd4 _ _ _ _, by show 4 ≤ 1000; decide, low⟩,
    .cons ⟨rfl, a1, rfl, s1⟩ (.cons ⟨rfl, a2, rfl, s2⟩ (.cons ⟨rfl, a3, rfl, s3⟩ (.cons ⟨rfl, a4, rfl, s4⟩ .nil)))⟩
theorem gl_mk (g : mg "LISTS" = some (.ref a)) (s : StT K a ((["list", "next", "back"] : List Str).map V.str)) : ∃ a, mg "LISTS" = some (.ref a) ∧ StT K a (Pl.LST.map V.str) := ⟨a, g, s⟩
end
end Wq
open PySem PySem.W PyProof.Rows
set_option maxRecDepth 100000 in
set_option maxHeartbeats 0 in
theorem PySem.Challenge.cw_wordquarry_k64_protocol_texts_read_holds : PySem.Challenge.rw_wordquarry_k64_protocol_texts_read.Holds := by
  w_on; o_law; k_head; (case hw => w_witness2)
  k_fill
  refine Wq.walk (l := PySem.Challenge.rw_wordquarry_k64_protocol_texts_read) rfl rfl (fun w h Y => PySem.W.kIn_of Y) ?F
  case F =>
    intro w mg fa h KX G hmg
    refine' Wq.all_mk KX G hmg
      ⟨PySem.W.mg_none_of KX G ?z1, PySem.W.mg_none_of KX G ?z2, PySem.W.mg_none_of KX G ?z3, PySem.W.mg_none_of KX G ?z4, PySem.W.mg_none_of KX G ?z5, PySem.W.mg_none_of KX G ?z6⟩
      ⟨PySem.W.mg_none_of KX G ?z7, PySem.W.mg_none_of KX G ?z8, PySem.W.mg_none_of KX G ?z9, PySem.W.mg_none_of KX G ?z10, Wq.gl_mk (PySem.W.mg_of KX G ?gLi) (Wq.st3 ?sLi), ⟨_, _, PySem.W.mg_of KX G ?gMo, rfl⟩⟩
      ⟨Wq.gm_mk (PySem.W.mg_of KX G ?gMw) ?lMw ?wMw, Wq.gc_mk (PySem.W.mg_of KX G ?gCw) ?lCw ?wCw (Wq.st1 ?sC1) (Wq.st2 ?sC2) (Wq.st0 ?sC3) (Wq.st1 ?sC4) (Wq.st0 ?sC5), Wq.gt_mk (PySem.W.mg_of KX G ?gTw) ?lTw ?wTw (Wq.st0 ?sT1), Wq.gr_mk (PySem.W.mg_of KX G ?gRw) ?lRw ?wRw (Wq.st0 ?sR1) (Wq.st2 ?sR2) (Wq.st0 ?sR3) (Wq.st1 ?sR4)⟩
      ⟨Wq.oex_mk ?nxL ?nrv ?n_sa ?n_ex ?n_ty ?n_kp, Wq.all2 ?n_f0 ?n_f1, PySem.W.mg_of KX G ?gN, ⟨?nx_ga, ?nx_gg, ?nx_ex, ?nx_hd⟩, PySem.W.exm_ref ?nm_ex ?nm_hd ?nm_ty ?nm_su⟩
      ⟨Wq.oex_mk ?rxL ?rrv ?r_sa ?r_ex ?r_ty ?r_kp, Wq.all3 ?r_f0 ?r_f1 ?r_f2, PySem.W.mg_of KX G ?gR, ⟨?rx_ga, ?rx_gg, ?rx_ex, ?rx_hd⟩, PySem.W.exm_ref ?rm_ex ?rm_hd ?rm_ty ?rm_su⟩
      ⟨PySem.W.mg_of KX G ?gS, ⟨?i_hg, ?i_hk, ?i_hs, ?i_hd, ?i_ha, ?i_hn, ?i_ht, ?i_hm⟩, ?i_kS, PySem.W.exm_ref ?q_ex ?q_hd ?q_ty ?q_su⟩
      ⟨⟨⟨?c_pg, ?c_hd, ?c_po, ?c_sa⟩, Wq.all4 ?c_n1 ?c_n2 ?c_n3 ?c_n4, PySem.W.mg_of KX G ?gK, ⟨_, PySem.W.mg_of KX G ?gPC⟩, ⟨_, PySem.W.mg_of KX G ?gPR⟩⟩, ⟨?t_ha, ?t_hn, ?t_ht, ?t_hm, ?t_kT⟩, ?c_mk, ?c_kp, ?c_nt, ?c_ne⟩
      ?d12 ?d13 ?d14 ?d15 ?d20 ?d22 ?d23 ?d24 ?d25 ?d26 ?d27 ?d28 ?d29 ?d30 ?d31 ?t0 ?m0 ?c0 ?c1
    (case gLi => first | k_is | rfl)
    (case gMo => first | k_is | rfl)
    (case gMw => first | k_is | rfl)
    (case gCw => first | k_is | rfl)
    (case gTw => first | k_is | rfl)
    (case gRw => first | k_is | rfl)
    (case gN => first | k_is | rfl)
    (case gR => first | k_is | rfl)
    (case gS => first | k_is | rfl)
    (case gK => first | k_is | rfl)
    (case gPC => first | k_is | rfl)
    (case gPR => first | k_is | rfl)
    (case lMw => k_is)
    (case lCw => k_is)
    (case lTw => k_is)
    (case lRw => k_is)
    (case sLi => k_is)
    (case sC1 => k_is)
    (case sC2 => k_is)
    (case sC3 => k_is)
    (case sC4 => k_is)
    (case sC5 => k_is)
    (case sT1 => k_is)
    (case sR1 => k_is)
    (case sR2 => k_is)
    (case sR3 => k_is)
    (case sR4 => k_is)
    (case d12 => (refine' Wq.def_mk KX G ?a ?l ?c ?k; (case a => k_is); (case l => k_is); (case c => k_is); (case k => k_is)))
    (case d13 => (refine' Wq.def_mk KX G ?a ?l ?c ?k; (case a => k_is); (case l => k_is); (case c => k_is); (case k => k_is)))
    (case d14 => (refine' Wq.def_mk KX G ?a ?l ?c ?k; (case a => k_is); (case l => k_is); (case c => k_is); (case k => k_is)))
    (case d15 => (refine' Wq.def_mk KX G ?a ?l ?c ?k; (case a => k_is); (case l => k_is); (case c => k_is); (case k => k_is)))
    (case d20 => (refine' Wq.def_mk KX G ?a ?l ?c ?k; (case a => k_is); (case l => k_is); (case c => k_is); (case k => k_is)))
    (case d22 => (refine' Wq.def_mk KX G ?a ?l ?c ?k; (case a => k_is); (case l => k_is); (case c => k_is); (case k => k_is)))
    (case d23 => (refine' Wq.def_mk KX G ?a ?l ?c ?k; (case a => k_is); (case l => k_is); (case c => k_is); (case k => k_is)))
    (case d24 => (refine' Wq.def_mk KX G ?a ?l ?c ?k; (case a => k_is); (case l => k_is); (case c => k_is); (case k => k_is)))
    (case d25 => (refine' Wq.def_mk KX G ?a ?l ?c ?k; (case a => k_is); (case l => k_is); (case c => k_is); (case k => k_is)))
    (case d26 => (refine' Wq.def_mk KX G ?a ?l ?c ?k; (case a => k_is); (case l => k_is); (case c => k_is); (case k => k_is)))
    (case d27 => (refine' Wq.def_mk KX G ?a ?l ?c ?k; (case a => k_is); (case l => k_is); (case c => k_is); (case k => k_is)))
    (case d28 => (refine' Wq.def_mk KX G ?a ?l ?c ?k; (case a => k_is); (case l => k_is); (case c => k_is); (case k => k_is)))
    (case d29 => (refine' Wq.def_mk KX G ?a ?l ?c ?k; (case a => k_is); (case l => k_is); (case c => k_is); (case k => k_is)))
    (case d30 => (refine' Wq.def_mk KX G ?a ?l ?c ?k; (case a => k_is); (case l => k_is); (case c => k_is); (case k => k_is)))
    (case d31 => (refine' Wq.def_mk KX G ?a ?l ?c ?k; (case a => k_is); (case l => k_is); (case c => k_is); (case k => k_is)))
    (case t0 => (refine' Wq.m_mk ?a ?i ?l ?c ?k; (case a => k_is); (case i => k_is); (case l => k_is); (case c => k_is); (case k => k_is)))
    (case m0 => (refine' Wq.m_mk ?a ?i ?l ?c ?k; (case a => k_is); (case i => k_is); (case l => k_is); (case c => k_is); (case k => k_is)))
    (case c0 => (refine' Wq.m_mk ?a ?i ?l ?c ?k; (case a => k_is); (case i => k_is); (case l => k_is); (case c => k_is); (case k => k_is)))
    (case c1 => (refine' Wq.m_mk ?a ?i ?l ?c ?k; (case a => k_is); (case i => k_is); (case l => k_is); (case c => k_is); (case k => k_is)))
    (case nxL => first | k_is | rfl)
    (case nrv => first | rfl | decide +kernel)
    (case rxL => first | k_is | rfl)
    (case rrv => first | rfl | decide +kernel)
    (case wMw => first | rfl | decide +kernel | k_is)
    (case wCw => first | rfl | decide +kernel | k_is)
    (case wTw => first | rfl | decide +kernel | k_is)
    (case wRw => first | rfl | decide +kernel | k_is)
    (case z1 => first | k_is | rfl)
    (case z2 => first | k_is | rfl)
    (case z3 => first | k_is | rfl)
    (case z4 => first | k_is | rfl)
    (case z5 => first | k_is | rfl)
    (case z6 => first | k_is | rfl)
    (case z7 => first | k_is | rfl)
    (case z8 => first | k_is | rfl)
    (case z9 => first | k_is | rfl)
    (case z10 => first | k_is | rfl)
    (case n_sa => first | k_is | rfl)
    (case n_ex => first | k_is | rfl)
    (case n_ty => first | k_is | rfl)
    (case n_kp => first | k_is | rfl)
    (case n_f0 => first | k_is | rfl)
    (case n_f1 => first | k_is | rfl)
    (case nx_ga => first | k_is | rfl)
    (case nx_gg => first | k_is | rfl)
    (case nx_ex => first | k_is | rfl)
    (case nx_hd => first | k_is | rfl)
    (case nm_ex => first | k_is | rfl)
    (case nm_hd => first | k_is | rfl)
    (case nm_ty => first | k_is | rfl)
    (case nm_su => first | k_is | rfl)
    (case r_sa => first | k_is | rfl)
    (case r_ex => first | k_is | rfl)
    (case r_ty => first | k_is | rfl)
    (case r_kp => first | k_is | rfl)
    (case r_f0 => first | k_is | rfl)
    (case r_f1 => first | k_is | rfl)
    (case r_f2 => first | k_is | rfl)
    (case rx_ga => first | k_is | rfl)
    (case rx_gg => first | k_is | rfl)
    (case rx_ex => first | k_is | rfl)
    (case rx_hd => first | k_is | rfl)
    (case rm_ex => first | k_is | rfl)
    (case rm_hd => first | k_is | rfl)
    (case rm_ty => first | k_is | rfl)
    (case rm_su => first | k_is | rfl)
    (case i_hg => first | k_is | rfl)
    (case i_hk => first | k_is | rfl)
    (case i_hs => first | k_is | rfl)
    (case i_hd => first | k_is | rfl)
    (case i_ha => first | k_is | rfl)
    (case i_hn => first | k_is | rfl)
    (case i_ht => first | k_is | rfl)
    (case i_hm => first | k_is | rfl)
    (case i_kS => first | k_is | rfl)
    (case q_ex => first | k_is | rfl)
    (case q_hd => first | k_is | rfl)
    (case q_ty => first | k_is | rfl)
    (case q_su => first | k_is | rfl)
    (case c_pg => first | k_is | rfl)
    (case c_hd => first | k_is | rfl)
    (case c_po => first | k_is | rfl)
    (case c_sa => first | k_is | rfl)
    (case c_n1 => first | k_is | rfl)
    (case c_n2 => first | k_is | rfl)
    (case c_n3 => first | k_is | rfl)
    (case c_n4 => first | k_is | rfl)
    (case t_ha => first | k_is | rfl)
    (case t_hn => first | k_is | rfl)
    (case t_ht => first | k_is | rfl)
    (case t_hm => first | k_is | rfl)
    (case t_kT => first | k_is | rfl)
    (case c_mk => first | k_is | rfl)
    (case c_kp => first | k_is | rfl)
    (case c_nt => first | k_is | rfl)
    (case c_ne => first | k_is | rfl)
