import PyProof.Rows.All
import Wide.All
import OpenK.AllK
import Wide.FinOn
import HandS.Base
import HandS.Call
import HandS.List
import HandS.Comp
import HandS.Ends
import HandS.Dict
import HandS.Iter
import HandS.Text
import HandS.Words
import HandS.WordsList
import HandS.Codes
import HandS.Style
import HandS.Wide
import HandS.StrMore
import HandS.WideBits
import HandS.WordsExc
import HandS.WordsDict
import HandS.Walk
import HandS.ExcInit
import HandS.ExcField
import HandS.TupAny
import HandS.TryOnly
import KE.KExcIs
import HandS.ExcOwn
import HandS.ExcIs
import HandS.Lambda
import HandS.Set
import HandS.Strs
import HandS.SetBool
import HandS.SetTxtIn
import PyProof.FactsAll.set_2
import HandS.ExcValue
import HandS.IsInst
import PyProof.TupleOfStr
import PyProof.Rows.SortShellAny
import PyProof.Rows.StrMeet
import HandS.Defaults
import HandS.SetFor
import HandS.AnyAll
import HandS.EndTab
import HandS.Conv
import PySem.Challenge.RW_wordquarry_k75_sealed_rows_marks_and_lis
set_option Elab.async false
set_option linter.all false
set_option maxRecDepth 100000
set_option maxHeartbeats 2000000
namespace Wq
open PySem PySem.Spec PyProof.Rows L2
def top (i : Nat) : Stmt := PySem.Challenge.pw_wordquarry_k75_sealed_rows_marks_and_lis.main.body.getD i (.Pass ⟨0, 0, 0, 0⟩)
/-! callables by name -/
structure Cl (P : Program) (w : World) (K : PySem.W.Frag) (mg : Str → Option Value) (base : Heap) (k : Nat) (x : Str) (sp : Sp) : Prop where
  ex : ∃ (f : Addr) (fd : FuncData) (ps : List Str), FnOk P w K mg base CX0 k f fd ps sp ∧ mg x = some (.ref f) ∧ PySem.W.keepIn K (.ref f) = true ∧ Binds K fd ps []
structure DefAt (K : PySem.W.Frag) (mg : Str → Option Value) (x : Str) (st : Stmt) : Prop where
  ex : ∃ (f : Addr) (fd : FuncData), Fun K x x st f fd ∧ mg x = some (.ref f)
theorem def_mk {h : Heap} {mg : Str → Option Value} {K : PySem.W.Frag} {x : Str} {st : Stmt} {f : Addr} {oc : Value} {od an : Option Addr} {osl : Array (Option Value)} {kV doc pm cdv ct : Value} (X : K.In h) (G : h.Ns mainGlobals mg)
    (a : PySem.W.nsIn K mainGlobals x = some (some (.ref f))) (l : K.lookup f = some ⟨oc, od, .func (PySem.W.fnOf x x (defArgs st) (defBody st) (defScope st) .none kV doc pm an cdv ct), osl⟩)
    (c : PySem.W.codeIn K cdv x = true) (k : PySem.W.keepIn K (.ref f) = true) : DefAt K mg x st := ⟨f, _, fun_mk l c k, PySem.W.mg_of X G a⟩
section
variable {X : Cx} {k j : Nat} {x : Str} {sp : Sp} {p pos : Pos} {e : Expr} {es : List Expr} {t : TA}
theorem pe_cl (c : Cl X.prog X.w X.K X.mg X.base k x sp) (hr : Room j X.A) (hk : k ≤ j) (hg : Gl X x) (ha : PA X (e :: es) t)
    (hdb : (x == ("__debug__" : Str)) = false := by decide) (he : starEach (e :: es) X.env = (false, eval e X.env) :: starEach es X.env := by rfl) (hpl : (backTo pos (starEach es X.env)).any (·.1) = false := by rfl) :
    PE X (.Call (.Name x p) (e :: es) [] pos) (tCall sp [] E0 t) := by
  obtain ⟨f, fd, ps, F, hm, kp, b⟩ := c.ex
  exact pe_call F (hr.mono hk) hg hm kp b .nil pass0 ha hdb he hpl
end
section
variable {P : Program} {w : World} {K : PySem.W.Frag} {mg : Str → Option Value} {base : Heap}
theorem cl_of {x : Str} {st : Stmt} {N ps : List Str} {k : Nat} {sp : Sp} (D : DefAt K mg x st) (S : FnScope N ps (defScope st)) (len : ∀ vs H Q E, sp vs H Q E → vs.length = ps.length)
    (hb : ∀ (kV doc pm : Value) (an : Option Addr) (cdv ct : Value) (us : List Value), us.length = ps.length → bindArgs (PySem.W.fnOf x x (defArgs st) (defBody st) (defScope st) .none kV doc pm an cdv ct) ⟨us, []⟩ = pure (ps.zip us))
    (hbody : ∀ (f : Addr) (cdv : Value) (A : Around) (outer : List Env) (s : Shared) (H : Hp) (vs : List V) (Q : VK) (E : XK), Room k (A.deeper (envOfC x (defScope st) s.heap.objs.size f cdv)) → sp vs H Q E →
      ∃ t, PSs (cxOf CX0 P w K mg base N x (defScope st) f cdv A outer s H E).nox (defBody st) t ∧ t { nx := fun _ H' => Q .non H', rt := Q } (start N vs) H) : Cl P w K mg base (k + 1) x sp := by
  obtain ⟨f, fd, F, hm⟩ := D.ex
  exact ⟨f, fd, ps, F.ok S len (hbody f), hm, F.kp, F.binds hb⟩
/-! what the law's own words want of the top -/
structure Txt (K : PySem.W.Frag) (mg : Str → Option Value) : Prop where
  len : mg "len" = none
  int : mg "int" = none
  list : mg "list" = none
  range : mg "range" = none
  tuple : mg "tuple" = none
  min : mg "min" = none
/-! the pen -/
abbrev kv (s : Str) (v : V) : Key × V := (Sum.inr s, v)
def penD (c : Addr) (i d n f : Int) : List (Key × V) := [kv "cells" (.ref c), kv "at" (.int i), kv "digits" (.int d), kv "count" (.int n), kv "fold" (.int f)]
structure PenAt (H : Hp) (p c : Addr) (m : Nat) : Prop where
  ex : ∃ (ns : List Int) (i d f : Int) (n : Nat), H p = some (.dK (penD c i d n f)) ∧ H c = some (.lst (ns.map V.int)) ∧ 0 ≤ i ∧ 0 ≤ d ∧ n ≤ m ∧ 0 ≤ f ∧ f < 2147483587
theorem SqL_upd {H : Hp} {p c : Addr} {xs : List V} {kvs : List (Key × V)} {o : HO} (h : SqL K H c xs) (hp : H p = some (.dK kvs)) : SqL K (upd H p o) c xs := by
  rcases h with (h | ⟨u, h⟩) | h
  · refine .inl (.inl ?_)
    rw [upd_ne (ne_of h hp (by intro z; cases z))]
    exact h
  · refine .inl (.inr ⟨u, ?_⟩)
    rw [upd_ne (ne_of h hp (by intro z; cases z))]
    exact h
  · exact .inr h
section
variable {H : Hp} {p c : Addr} {i d n f x : Int}
theorem g_cells (h : H p = some (.dK (penD c i d n f))) : DGet H p (.str "cells") (some (.ref c)) := DGet.k (k := Sum.inr "cells") h
theorem g_at (h : H p = some (.dK (penD c i d n f))) : DGet H p (.str "at") (some (.int i)) := DGet.k (k := Sum.inr "at") h
theorem g_digits (h : H p = some (.dK (penD c i d n f))) : DGet H p (.str "digits") (some (.int d)) := DGet.k (k := Sum.inr "digits") h
theorem g_count (h : H p = some (.dK (penD c i d n f))) : DGet H p (.str "count") (some (.int n)) := DGet.k (k := Sum.inr "count") h
theorem g_fold (h : H p = some (.dK (penD c i d n f))) : DGet H p (.str "fold") (some (.int f)) := DGet.k (k := Sum.inr "fold") h
theorem p_count (h : H p = some (.dK (penD c i d n f))) : DPut H p (.str "count") (.int x) (upd H p (.dK (penD c i d x f))) := DPut.k (k := Sum.inr "count") h (by show 5 < sizeLine; decide)
theorem p_at : DPut (upd H p (.dK (penD c i d n f))) p (.str "at") (.int x) (upd H p (.dK (penD c x d n f))) := by
  have e := DPut.k (k := Sum.inr "at") (v := .int x) (upd_same (H := H) (a := p) (o := .dK (penD c i d n f))) (by show 5 < sizeLine; decide)
  rw [upd_upd] at e
  exact e
theorem p_digits : DPut (upd H p (.dK (penD c i d n f))) p (.str "digits") (.int x) (upd H p (.dK (penD c i x n f))) := by
  have e := DPut.k (k := Sum.inr "digits") (v := .int x) (upd_same (H := H) (a := p) (o := .dK (penD c i d n f))) (by show 5 < sizeLine; decide)
  rw [upd_upd] at e
  exact e
theorem p_fold : DPut (upd H p (.dK (penD c i d n f))) p (.str "fold") (.int x) (upd H p (.dK (penD c i d n x))) := by
  have e := DPut.k (k := Sum.inr "fold") (v := .int x) (upd_same (H := H) (a := p) (o := .dK (penD c i d n f))) (by show 5 < sizeLine; decide)
  rw [upd_upd] at e
  exact e
end
theorem PenAt.mono {H : Hp} {p c : Addr} {m m' : Nat} (h : PenAt H p c m) (hm : m ≤ m') : PenAt H p c m' := by
  obtain ⟨ns, i, d, f, n, h1, h2, h3, h4, h5, h6, h7⟩ := h.ex
  exact ⟨ns, i, d, f, n, h1, h2, h3, h4, by omega, h6, h7⟩
theorem PenAt.same {H H' : Hp} {p c : Addr} {m : Nat} (h : PenAt H p c m) (s : Same H H') : PenAt H' p c m := by
  obtain ⟨ns, i, d, f, n, h1, h2, h3⟩ := h.ex
  exact ⟨ns, i, d, f, n, s _ _ h1, s _ _ h2, h3⟩
theorem PenAt.dict {H : Hp} {p c : Addr} {m : Nat} (h : PenAt H p c m) : ∃ kvs, H p = some (.dK kvs) := by
  obtain ⟨ns, i, d, f, n, h1, _⟩ := h.ex
  exact ⟨_, h1⟩
theorem PenAt.cells {H : Hp} {p c : Addr} {m : Nat} (h : PenAt H p c m) : ∃ xs, H c = some (.lst xs) := by
  obtain ⟨ns, i, d, f, n, h1, h2, _⟩ := h.ex
  exact ⟨_, h2⟩
theorem PenAt.put {H : Hp} {p c l : Addr} {m : Nat} {o : HO} (h : PenAt H p c m) (hp : p ≠ l) (hc : c ≠ l) : PenAt (upd H l o) p c m := by
  obtain ⟨ns, i, d, f, n, h1, h2, h3⟩ := h.ex
  exact ⟨ns, i, d, f, n, by rw [upd_ne hp]; exact h1, by rw [upd_ne hc]; exact h2, h3⟩
theorem PenAt.ne {H : Hp} {p c l : Addr} {m : Nat} {o : HO} (h : PenAt H p c m) (hl : H l = some o) (ho : ∀ kvs, o ≠ .dK kvs) : l ≠ p := by
  obtain ⟨kvs, hk⟩ := h.dict
  exact ne_of hl hk (ho kvs)
/-- the pen moved on: lists stay -/
theorem PenAt.lst {H : Hp} {p c l : Addr} {m : Nat} {xs : List V} {o : HO} (h : PenAt H p c m) (hl : H l = some (.lst xs)) : upd H p o l = some (.lst xs) := by
  rw [upd_ne (h.ne hl (by intro kvs z; cases z))]
  exact hl
abbrev sPen : Stmt := top 38
abbrev sDraw : Stmt := top 39
abbrev sPick : Stmt := top 40
def spPen (K : PySem.W.Frag) : Sp := fun vs H Q _ => ∃ (a : Addr) (ns : List Int), vs = [.ref a] ∧ SqL K H a (ns.map V.int) ∧ ∀ p c H', H p = none → Same H H' → PenAt H' p c 0 → Q (.ref p) H'
def spDraw (K : PySem.W.Frag) : Sp := fun vs H Q _ => ∃ (p c : Addr) (m : Nat) (many : Int), vs = [.ref p, .int many] ∧ PenAt H p c m ∧ m < 1099511627776 ∧ 0 < many ∧ many.natAbs.log2 < 9000 ∧
  ∀ (v : Int) (o : HO), 0 ≤ v → v < many → PenAt (upd H p o) p c (m + 1) → Q (.int v) (upd H p o)
/-- what may be picked from: a list, a tuple, a text -/
inductive Some (K : PySem.W.Frag) (H : Hp) : V → List V → Prop
  | lst {l xs} : SqL K H l xs → Some K H (.ref l) xs
  | tup {l xs} : SqT K H l xs → Some K H (.ref l) xs
  | str {z} : z.length ≤ sizeLine → Some K H (.str z) (z.cps.toList.map fun c => V.str ⟨#[c]⟩)
def spPick (K : PySem.W.Frag) : Sp := fun vs H Q _ => ∃ (p c : Addr) (m : Nat) (u : V) (xs : List V), vs = [.ref p, u] ∧ PenAt H p c m ∧ Some K H u xs ∧ m < 1099511627776 ∧ 0 < xs.length ∧ xs.length < 1073741824 ∧
  ∀ (i : Nat) (v : V) (o : HO), xs[i]? = some v → PenAt (upd H p o) p c (m + 1) → Q v (upd H p o)
theorem scPen : FnScope ["_law_script", "_law_fold", "_law_cell"] ["_law_script"] (defScope sPen) := ⟨rfl, rfl, rfl, by decide +kernel, rfl, by decide +kernel, by decide +kernel⟩
theorem scDraw : FnScope ["_law_pen_here", "_law_many", "_law_cell", "_law_digit", "_law_mixed"] ["_law_pen_here", "_law_many"] (defScope sDraw) := ⟨rfl, rfl, rfl, by decide +kernel, rfl, by decide +kernel, by decide +kernel⟩
theorem scPick : FnScope ["_law_pen_here", "_law_some"] ["_law_pen_here", "_law_some"] (defScope sPick) := ⟨rfl, rfl, rfl, by decide +kernel, rfl, by decide +kernel, by decide +kernel⟩
theorem ints_at {ns : List Int} {i : Nat} {y : V} (hi : (ns.map V.int)[i]? = some y) : ∃ z, y = V.int z := by
  rw [List.getElem?_map] at hi
  cases e : ns[i]? with
  | none =>
    rw [e] at hi
    cases hi
  | some z =>
    rw [e] at hi
    exact ⟨z, (Option.some.inj hi).symm⟩
theorem ok_pen (D : DefAt K mg "_law_pen" sPen) (T : Txt K mg) : Cl P w K mg base 1 "_law_pen" (spPen K) := by
  refine cl_of D scPen (fun vs H Q E h => ?_) (fun _ _ _ _ _ _ us hl => match us, hl with | [_], _ => rfl) (fun f cdv A outer s H vs Q E hr h => ?_)
  · obtain ⟨a, ns, rfl, _⟩ := h
    rfl
  · obtain ⟨a, ns, rfl, hS, k⟩ := h
    refine ⟨_, pss_cons (ps_set (i := 1) scPen.nd rfl (Or.inl rfl) pe_int)
      (pss_cons (ps_for PassesOwn.never rfl (pi_list (pv 0)) (pg_name (i := 2) scPen.nd rfl (Or.inl rfl))
        (pss_one (ps_set (i := 1) scPen.nd rfl (Or.inl rfl) (pe_op op_mod (pe_callTy call_int1 (by rfl) (by exact T.int) PyProof.Rows.boot_int (pa_cons (pe_op op_add (pe_op op_mul (pv 1) pe_int) (pv 2)) pa_nil)) pe_int))))
      (pss_one (ps_ret (pe_disp (pps_cons pe_str (pe_callTy call_list_of (by rfl) (by exact T.list) (by decide +kernel) (pa_cons (pv 0) pa_nil)) (pps_cons pe_str pe_int (pps_cons pe_str pe_int (pps_cons pe_str pe_int (pps_cons pe_str (pv 1) pps_nil))))) (by rfl) (by rfl) (fun z => by cases z) (by decide))))), ?_⟩
    refine ⟨_, rfl, a, rfl, ⟨_, hS⟩, for_list (K := K) (a := a) (xs := ns.map V.int) (fun i σ H' => ∃ (n : Int) (v : Option V), σ = [some (.ref a), some (.int n), v] ∧ H' = H ∧ 0 ≤ n ∧ n < 1000000007)
      ⟨0, none, rfl, rfl, by decide, by decide⟩ (fun i σ H' _ ⟨_, _, _, e, _, _⟩ => by rw [e]; exact hS) ?_ ?_⟩
    · rintro i y σ H' hi ⟨n, v, rfl, rfl, h0, h1⟩
      obtain ⟨z, rfl⟩ := ints_at hi
      refine ⟨_, rfl, _, _, rfl, rfl, .inl ⟨by omega, by omega⟩, _, rfl, _, _, rfl, rfl, .inl ⟨_, rfl, _, _, rfl, rfl, (by show (0 : Int) < 1000000007; decide), ?_⟩⟩
      exact ⟨(n * 41 + z) % 1000000007, _, rfl, rfl, Int.emod_nonneg _ (by decide), Int.emod_lt_of_pos _ (by decide)⟩
    · rintro σ H' ⟨n, v, rfl, rfl, h0, h1⟩
      intro p hp
      have s1 : Same H' (upd H' p (.dK [])) := fun b o e => by rw [upd_ne (ne_of_none e hp)]; exact e
      refine ⟨_, rfl, a, _, rfl, .inl (s1.seq hS), fun l hl => ?_⟩
      have npl : p ≠ l := ne_of_none upd_same hl
      have s2 : Same H' (upd (upd (upd H' p (.dK [])) l (.lst (ns.map V.int))) p (.dK (mergeK [] (penD l 0 0 0 n)))) := fun b o e => by
        rw [upd_ne (ne_of_none e hp), upd_ne (ne_of_none (s1 b o e) hl)]
        exact s1 b o e
      refine ⟨_, rfl, by rw [upd_ne npl, upd_same], penD l 0 0 0 n, rfl, (by show 5 ≤ 15; decide), ?_⟩
      refine k p l _ hp s2 ⟨ns, 0, 0, n, 0, upd_same, ?_, by decide, by decide, by decide, h0, by omega⟩
      rw [upd_ne npl.symm, upd_same]
theorem ok_draw (D : DefAt K mg "_law_draw" sDraw) (T : Txt K mg) : Cl P w K mg base 1 "_law_draw" (spDraw K) := by
  refine cl_of D scDraw (fun vs H Q E h => ?_) (fun _ _ _ _ _ _ us hl => match us, hl with | [_, _], _ => rfl) (fun f cdv A outer s H vs Q E hr h => ?_)
  · obtain ⟨p, c, m, many, rfl, _⟩ := h
    rfl
  · obtain ⟨p, c, m, many, rfl, HP, hm, m0, m1, k⟩ := h
    obtain ⟨ns, i, d, f, n, hH, hc, hi, hd, hn, hf0, hf1⟩ := HP.ex
    have hu := hu_of hr
    refine ⟨_, pss_cons (ps_dput hu (pv 0) pe_str (pe_op op_add (pe_dget hu (pv 0) pe_str (fun _ _ => rfl)) pe_int) rfl)
      (C8.pss_cut (ps_if (PW.pt (pw_and (pt_cmpR op_eq (pe_dget hu (pv 0) pe_str (fun _ _ => rfl)) pe_int (nomark _)) (pw_and1 (pt_cmpR op_lt (pe_dget hu (pv 0) pe_str (fun _ _ => rfl)) (pe_callB call_len_seq (by rfl) (by exact T.len) PySem.boot_len (pa_cons (pe_dget hu (pv 0) pe_str (fun _ _ => rfl)) pa_nil)) (nomark _)))))
        (pss_cons (ps_set (i := 2) scDraw.nd rfl (Or.inl rfl) (pe_ix ix_list (pe_dget hu (pv 0) pe_str (fun _ _ => rfl)) (pe_dget hu (pv 0) pe_str (fun _ _ => rfl)) (fun _ _ => rfl)))
        (pss_cons (ps_dput hu (pv 0) pe_str (pe_op op_add (pe_dget hu (pv 0) pe_str (fun _ _ => rfl)) pe_int) rfl)
        (pss_one (ps_if (pt_cmpR op_ge (pv 2) (pe_op op_pow pe_int pe_int) (nomark _))
          (pss_one (ps_dput hu (pv 0) pe_str (pe_op op_sub (pv 2) (pe_op op_pow pe_int pe_int)) rfl))
          (pss_one (ps_dput hu (pv 0) pe_str (pe_op op_mod (pe_callTy call_int1 (by rfl) (by exact T.int) PyProof.Rows.boot_int (pa_cons (pe_op op_add (pe_op op_mul (pe_dget hu (pv 0) pe_str (fun _ _ => rfl)) pe_int) (pv 2)) pa_nil)) pe_int) rfl))))))
        pss_nil)
      (pss_cons (ps_if (pt_cmpR op_gt (pe_dget hu (pv 0) pe_str (fun _ _ => rfl)) pe_int (nomark _))
        (pss_cons (ps_set (i := 3) scDraw.nd rfl (Or.inl rfl) (pe_op op_modN (pe_callTy call_int1 (by rfl) (by exact T.int) PyProof.Rows.boot_int (pa_cons (pe_dget hu (pv 0) pe_str (fun _ _ => rfl)) pa_nil)) (pv 1)))
        (pss_cons (ps_dput hu (pv 0) pe_str (pe_op op_fdivW (pe_dget hu (pv 0) pe_str (fun _ _ => rfl)) (pv 1)) rfl)
        (pss_one (ps_ret (pv 3))))) pss_nil)
      (pss_cons (ps_set (i := 4) scDraw.nd rfl (Or.inl rfl) (pe_op op_add (pe_op op_add (pe_dget hu (pv 0) pe_str (fun _ _ => rfl)) (pe_op op_mul (pe_dget hu (pv 0) pe_str (fun _ _ => rfl)) pe_int)) pe_int))
      (pss_one (ps_ret (pe_op op_modN (pe_op op_fdivN (pe_callTy call_int1 (by rfl) (by exact T.int) PyProof.Rows.boot_int (pa_cons (pe_op op_modN (pe_op op_pow (pv 4) pe_int) pe_int) pa_nil)) pe_int) (pv 1))))))), ?_⟩
    -- count
    refine ⟨_, rfl, p, _, rfl, g_count hH, _, _, rfl, rfl, _, rfl, p, _, rfl, p_count hH, ?_⟩
    have S1 : ∀ o, upd H p o c = some (.lst (ns.map V.int)) := fun o => HP.lst hc
    have S0 : ∀ o, SqL K (upd H p o) c (ns.map V.int) := fun o => .inl (.inl (S1 o))
    refine ⟨fun σ H' => ∃ (i' d' f' : Int) (v : Option V), σ = [some (.ref p), some (.int many), v, none, none] ∧ H' = upd H p (.dK (penD c i' d' ((n : Int) + 1) f')) ∧ 0 ≤ i' ∧ 0 ≤ d' ∧ 0 ≤ f' ∧ f' < 2147483587, ?_, ?_⟩
    · -- the digits are used up?
      refine ⟨_, rfl, p, _, rfl, g_digits upd_same, rfl, _, rfl, ?_⟩
      refine ite2 (fun _ => ?_) (fun _ => ⟨i, d, f, none, rfl, rfl, hi, hd, hf0, hf1⟩)
      refine ⟨_, rfl, p, _, rfl, g_at upd_same, _, rfl, p, _, rfl, g_cells upd_same, c, _, rfl, .inl (S0 _), _, _, rfl, rfl, _, rfl, ?_⟩
      refine ite2 (fun hlt => ?_) (fun _ => ⟨i, d, f, none, rfl, rfl, hi, hd, hf0, hf1⟩)
      have hlt := of_decide_eq_true hlt
      rw [List.length_map] at hlt
      obtain ⟨z, hz⟩ : ∃ z, (ns.map V.int)[i.toNat]? = some (V.int z) := by
        refine ⟨ns[i.toNat]'(by omega), ?_⟩
        rw [List.getElem?_map, List.getElem?_eq_getElem (by omega)]
        rfl
      have hat : atI (ns.map V.int) i = some (V.int z) := by
        have e : i = ((i.toNat : Nat) : Int) := by omega
        rw [e]
        exact atI_nat hz
      refine ⟨_, rfl, p, _, rfl, g_cells upd_same, _, rfl, p, _, rfl, g_at upd_same, c, _, _, _, rfl, rfl, S0 _, hat, ?_⟩
      refine ⟨_, rfl, p, _, rfl, g_at upd_same, _, _, rfl, rfl, _, rfl, p, _, rfl, p_at, ?_⟩
      refine ⟨_, rfl, _, _, rfl, rfl, ⟨by decide, by decide, by decide⟩, _, _, rfl, rfl, _, rfl, ?_⟩
      refine ite2 (fun hge => ?_) (fun _ => ?_)
      · have hge := of_decide_eq_true hge
        refine ⟨_, rfl, _, _, rfl, rfl, ⟨by decide, by decide, by decide⟩, _, _, rfl, rfl, _, rfl, p, _, rfl, p_digits, ?_⟩
        exact ⟨_, _, f, _, rfl, rfl, by omega, Int.sub_nonneg.mpr hge, hf0, hf1⟩
      · refine ⟨_, rfl, p, _, rfl, g_fold upd_same, _, _, rfl, rfl, .inl ⟨by omega, by omega⟩, _, rfl, _, _, rfl, rfl, .inl ⟨_, rfl, _, _, rfl, rfl, (by show (0 : Int) < 2147483587; decide), _, rfl, p, _, rfl, p_fold, ?_⟩⟩
        exact ⟨_, _, _, _, rfl, rfl, by omega, hd, Int.emod_nonneg _ (by decide), Int.emod_lt_of_pos _ (by decide)⟩
    · rintro σ H' ⟨i', d', f', v, rfl, rfl, hi', hd', hf0', hf1'⟩
      have pen : ∀ d'', 0 ≤ d'' → PenAt (upd H p (.dK (penD c i' d'' ((n : Int) + 1) f'))) p c (m + 1) := fun d'' h0 => ⟨ns, i', d'', f', n + 1, upd_same, S1 _, hi', h0, by omega, hf0', hf1'⟩
      refine ⟨_, rfl, p, _, rfl, g_digits upd_same, _, _, rfl, rfl, _, rfl, ?_⟩
      refine ite2 (fun _ => ?_) (fun _ => ?_)
      · refine ⟨_, rfl, p, _, rfl, g_digits upd_same, .inl ⟨_, rfl, _, rfl, _, _, rfl, rfl, by omega, ?_⟩⟩
        refine ⟨_, rfl, p, _, rfl, g_digits upd_same, _, rfl, _, _, rfl, rfl, ⟨m0, m1⟩, _, rfl, p, _, rfl, p_digits, ?_⟩
        refine ⟨_, rfl, ?_⟩
        exact k _ _ (Int.fmod_nonneg_of_pos _ m0) (Int.fmod_lt_of_pos _ m0) (pen _ (Int.ediv_nonneg hd' (by omega)))
      · refine ⟨_, rfl, p, _, rfl, g_fold upd_same, _, rfl, p, _, rfl, g_count upd_same, _, _, rfl, rfl, .inl ⟨by omega, by omega⟩, _, _, rfl, rfl, _, _, rfl, rfl, ?_⟩
        refine ⟨_, rfl, _, _, rfl, rfl, ⟨by decide, by decide, by omega⟩, _, _, rfl, rfl, (by show (2305843009213693951 : Int) ≠ 0; decide), .inl ⟨_, rfl, _, _, rfl, rfl, ⟨by decide, by decide⟩, _, rfl, _, _, rfl, rfl, by omega, ?_⟩⟩
        exact k _ _ (Int.fmod_nonneg_of_pos _ m0) (Int.fmod_lt_of_pos _ m0) (pen _ hd')
theorem SqT_upd {H : Hp} {p c : Addr} {xs : List V} {kvs : List (Key × V)} {o : HO} (h : SqT K H c xs) (hp : H p = some (.dK kvs)) : SqT K (upd H p o) c xs := by
  rcases h with (h | ⟨u, h⟩) | h
  · refine .inl (.inl ?_)
    rw [upd_ne (ne_of h hp (by intro z; cases z))]
    exact h
  · refine .inl (.inr ⟨u, ?_⟩)
    rw [upd_ne (ne_of h hp (by intro z; cases z))]
    exact h
  · exact .inr h
theorem ok_pick (D : DefAt K mg "_law_pick" sPick) (T : Txt K mg) (CD : Cl P w K mg base 1 "_law_draw" (spDraw K)) : Cl P w K mg base 2 "_law_pick" (spPick K) := by
  refine cl_of D scPick (fun vs H Q E h => ?_) (fun _ _ _ _ _ _ us hl => match us, hl with | [_, _], _ => rfl) (fun f cdv A outer s H vs Q E hr h => ?_)
  · obtain ⟨p, c, m, u, xs, rfl, _⟩ := h
    rfl
  · obtain ⟨p, c, m, u, xs, rfl, HP, hS, hm, m0, m1, k⟩ := h
    refine ⟨_, pss_one (ps_ret (pe_ix ix_seq (pv 1) (pe_cl CD hr (Nat.le_refl _) rfl (pa_cons (pv 0) (pa_cons (pe_callB call_len (by rfl) (by exact T.len) PySem.boot_len (pa_cons (pv 1) pa_nil)) pa_nil))) (fun _ _ => rfl))), ?_⟩
    obtain ⟨kvs, hk⟩ := HP.dict
    have hln : LenV K u H xs.length := by
      cases hS with
      | lst h => exact .inl ⟨_, h, rfl⟩
      | tup h => exact .inr ⟨_, h, rfl⟩
      | str h => exact ⟨h, by rw [List.length_map]; exact (Array.length_toList).symm⟩
    refine ⟨_, rfl, _, rfl, _, rfl, _, _, rfl, hln, ?_⟩
    refine ⟨p, c, m, _, rfl, HP, hm, by omega, ?_, fun v o v0 v1 HP' => ?_⟩
    · have h2 : (xs.length : Int).natAbs.log2 < 30 := PySem.Flt.log2_lt_of (by decide) (by omega)
      omega
    obtain ⟨y, hv⟩ : ∃ y, xs[v.toNat]? = some y := ⟨xs[v.toNat]'(by omega), List.getElem?_eq_getElem (by omega)⟩
    have e : v = ((v.toNat : Nat) : Int) := by omega
    have hq := k v.toNat y o hv HP'
    cases hS with
    | lst h => exact .inl ⟨_, xs, v, y, rfl, rfl, SqL_upd h hk, by rw [e]; exact atI_nat hv, hq⟩
    | tup h => exact .inr (.inl ⟨_, xs, v, y, rfl, rfl, SqT_upd h hk, by rw [e]; exact atI_nat hv, hq⟩)
    | @str z h =>
      rw [List.getElem?_map] at hv
      cases ec : z.cps.toList[v.toNat]? with
      | none => rw [ec] at hv; cases hv
      | some cc =>
        rw [ec] at hv
        obtain rfl := Option.some.inj hv
        exact .inr (.inr ⟨z, v, cc, rfl, rfl, h, by rw [e]; exact atI_nat ec, hq⟩)
end
end Wq
namespace Rb
/-- a number in groups of seven bits -/
def wh (n : Nat) : List Nat := if h : n > 127 then (128 + n % 128) :: wh (n / 128) else [n]
termination_by n
decreasing_by omega
theorem wh_big {n : Nat} (h : n > 127) : wh n = (128 + n % 128) :: wh (n / 128) := by rw [wh, dif_pos h]
theorem wh_small {n : Nat} (h : ¬ n > 127) : wh n = [n] := by rw [wh, dif_neg h]
theorem wh_lt (n : Nat) : ∀ b ∈ wh n, b < 256 := by
  induction n using Nat.strongRecOn with
  | ind n ih =>
    intro b hb
    by_cases h : n > 127
    · rw [wh_big h] at hb
      rcases List.mem_cons.mp hb with e | hb
      · omega
      · exact ih _ (by omega) b hb
    · rw [wh_small h] at hb
      have := List.mem_singleton.mp hb
      omega
/-- little-endian: k bytes of v; the value of bytes -/
def le : Nat → Nat → List Nat
  | 0, _ => []
  | k + 1, v => (v % 256) :: le k (v / 256)
def un : List Nat → Nat
  | [] => 0
  | b :: r => b + 256 * un r
theorem le_un {l : List Nat} (h : ∀ b ∈ l, b < 256) : le l.length (un l) = l := by
  induction l with
  | nil => rfl
  | cons b r ih =>
    have hb := h b (List.mem_cons_self ..)
    show ((b + 256 * un r) % 256) :: le r.length ((b + 256 * un r) / 256) = b :: r
    have e1 : (b + 256 * un r) % 256 = b := by omega
    have e2 : (b + 256 * un r) / 256 = un r := by omega
    rw [e1, e2, ih fun c hc => h c (List.mem_cons_of_mem _ hc)]
theorem le_len (k v : Nat) : (le k v).length = k := by
  induction k generalizing v with
  | zero => rfl
  | succ k ih => show (le k _).length + 1 = _; rw [ih]
theorem le_lt (k v : Nat) : ∀ b ∈ le k v, b < 256 := by
  induction k generalizing v with
  | zero => intro b hb; cases hb
  | succ k ih =>
    intro b hb
    rcases List.mem_cons.mp hb with e | hb
    · omega
    · exact ih _ b hb
theorem un_snoc (l : List Nat) (b : Nat) : un (l ++ [b]) = un l + 256 ^ l.length * b := by
  induction l with
  | nil => show b + 256 * 0 = 0 + 256 ^ 0 * b; omega
  | cons a r ih =>
    show a + 256 * un (r ++ [b]) = a + 256 * un r + 256 ^ (r.length + 1) * b
    rw [ih, Nat.pow_succ, Nat.mul_add, Nat.add_assoc]
    congr 2
    rw [← Nat.mul_assoc, Nat.mul_comm 256]
theorem un_lt {l : List Nat} (h : ∀ b ∈ l, b < 256) : un l < 256 ^ l.length := by
  induction l with
  | nil => decide
  | cons b r ih =>
    have hb := h b (List.mem_cons_self ..)
    have hr := ih fun c hc => h c (List.mem_cons_of_mem _ hc)
    show b + 256 * un r < 256 ^ (r.length + 1)
    rw [Nat.pow_succ]
    omega
theorem le_at {k v j : Nat} (h : j < k) : (le k v)[j]? = some (v / 256 ^ j % 256) := by
  induction k generalizing v j with
  | zero => omega
  | succ k ih =>
    cases j with
    | zero => show some (v % 256) = _; rw [Nat.pow_zero, Nat.div_one]
    | succ j =>
      show (le k (v / 256))[j]? = _
      rw [ih (by omega), Nat.div_div_eq_div_mul, Nat.pow_succ, Nat.mul_comm]
/-- numbers of w bits, the lowest first -/
def val (w : Nat) : List Nat → Nat
  | [] => 0
  | n :: r => n + 2 ^ w * val w r
theorem val_snoc (w : Nat) (l : List Nat) (b : Nat) : val w (l ++ [b]) = val w l + 2 ^ (w * l.length) * b := by
  induction l with
  | nil => show b + 2 ^ w * 0 = 0 + 2 ^ (w * 0) * b; rw [Nat.mul_zero, Nat.mul_zero, Nat.pow_zero]; omega
  | cons a r ih =>
    show a + 2 ^ w * val w (r ++ [b]) = a + 2 ^ w * val w r + 2 ^ (w * (r.length + 1)) * b
    rw [ih, Nat.mul_add, Nat.add_assoc, Nat.mul_succ, Nat.pow_add]
    congr 2
    rw [← Nat.mul_assoc, Nat.mul_comm (2 ^ w)]
theorem val_lt {w : Nat} {l : List Nat} (h : ∀ b ∈ l, b < 2 ^ w) : val w l < 2 ^ (w * l.length) := by
  induction l with
  | nil => show 0 < 2 ^ (w * 0); rw [Nat.mul_zero]; decide
  | cons b r ih =>
    have hb := h b (List.mem_cons_self ..)
    have hr := ih fun c hc => h c (List.mem_cons_of_mem _ hc)
    show b + 2 ^ w * val w r < 2 ^ (w * (r.length + 1))
    rw [Nat.mul_succ, Nat.pow_add, Nat.mul_comm (2 ^ (w * r.length))]
    have h1 : 2 ^ w * val w r + 2 ^ w ≤ 2 ^ w * 2 ^ (w * r.length) := by
      rw [← Nat.mul_succ]
      exact Nat.mul_le_mul_left _ hr
    omega
/-- the number in the middle -/
theorem val_at {w : Nat} {l : List Nat} {i n : Nat} (h : ∀ b ∈ l, b < 2 ^ w) (hi : l[i]? = some n) : val w l / 2 ^ (w * i) % 2 ^ w = n := by
  induction l generalizing i with
  | nil => cases hi
  | cons b r ih =>
    have hb := h b (List.mem_cons_self ..)
    cases i with
    | zero =>
      obtain rfl := Option.some.inj hi
      show (b + 2 ^ w * val w r) / 2 ^ (w * 0) % 2 ^ w = b
      rw [Nat.mul_zero, Nat.pow_zero, Nat.div_one, Nat.add_mul_mod_self_left, Nat.mod_eq_of_lt hb]
    | succ i =>
      have hr := ih (fun c hc => h c (List.mem_cons_of_mem _ hc)) hi
      show (b + 2 ^ w * val w r) / 2 ^ (w * (i + 1)) % 2 ^ w = n
      rw [Nat.mul_succ, Nat.add_comm (w * i), Nat.pow_add, ← Nat.div_div_eq_div_mul, Nat.add_mul_div_left _ _ (Nat.pow_pos (by decide)), Nat.div_eq_of_lt hb, Nat.zero_add]
      exact hr
theorem val_bit {w : Nat} {l : List Nat} {i n k : Nat} (h : ∀ b ∈ l, b < 2 ^ w) (hi : l[i]? = some n) (hk : k < w) : (val w l).testBit (w * i + k) = n.testBit k := by
  have e := val_at h hi
  have e2 : (val w l / 2 ^ (w * i) % 2 ^ w).testBit k = (val w l).testBit (w * i + k) := by
    rw [Nat.testBit_mod_two_pow, Nat.testBit_div_two_pow, decide_eq_true hk, Bool.true_and, Nat.add_comm]
  rw [← e2, e]
/-- disjoint bits put together -/
theorem or_shl {a k b : Nat} (h : a < 2 ^ k) : a ||| b <<< k = a + 2 ^ k * b := by
  rw [Nat.shiftLeft_eq, Nat.mul_comm b, Nat.or_comm, ← Nat.two_pow_add_eq_or_of_lt h, Nat.add_comm]
/-- the loop of bits: what was put out, what is held -/
structure Bp (V m : Nat) (out : List Nat) (held many : Nat) : Prop where
  by_ : ∀ b ∈ out, b < 256
  le_ : held < 2 ^ many
  eq_ : V = un out + 256 ^ out.length * held
  mn : m = 8 * out.length + many
theorem p256 (k : Nat) : 256 ^ k = 2 ^ (8 * k) := by
  rw [Nat.pow_mul]
theorem Bp.put {V m : Nat} {out : List Nat} {held many n w : Nat} (B : Bp V m out held many) (hn : n < 2 ^ w) : Bp (V + 2 ^ m * n) (m + w) out (held ||| n <<< many) (many + w) := by
  refine ⟨B.by_, ?_, ?_, ?_⟩
  · rw [or_shl B.le_, Nat.pow_add]
    have h1 : 2 ^ many * n + 2 ^ many ≤ 2 ^ many * 2 ^ w := by
      rw [← Nat.mul_succ]
      exact Nat.mul_le_mul_left _ hn
    have := B.le_
    omega
  · rw [or_shl B.le_, B.mn, Nat.pow_add, Nat.mul_add, ← Nat.add_assoc, ← B.eq_, p256, Nat.mul_assoc]
  · have := B.mn
    omega
theorem Bp.out {V m : Nat} {out : List Nat} {held many : Nat} (B : Bp V m out held many) (h : 8 ≤ many) : Bp V m (out ++ [held % 256]) (held / 256) (many - 8) := by
  refine ⟨?_, ?_, ?_, ?_⟩
  · intro b hb
    rcases List.mem_append.mp hb with h | h
    · exact B.by_ b h
    · have := List.mem_singleton.mp h
      omega
  · have h1 := B.le_
    have e : many = 8 + (many - 8) := by omega
    rw [e, Nat.pow_add] at h1
    exact Nat.div_lt_of_lt_mul h1
  · rw [un_snoc, List.length_append, Nat.add_assoc]
    show V = un out + (256 ^ out.length * (held % 256) + 256 ^ (out.length + 1) * (held / 256))
    rw [Nat.pow_succ, Nat.mul_assoc, ← Nat.mul_add, Nat.mod_add_div]
    exact B.eq_
  · rw [List.length_append]
    have := B.mn
    show m = 8 * (out.length + 1) + (many - 8)
    omega
theorem Bp.done {V m : Nat} {out : List Nat} {held many : Nat} (B : Bp V m out held many) (h : many < 8) : (if many > 0 then out ++ [held] else out) = le ((m + 7) / 8) V := by
  have hm := B.mn
  have hl := B.le_
  by_cases h0 : many > 0
  · rw [if_pos h0]
    have hh : held < 256 := Nat.lt_of_lt_of_le hl (Nat.pow_le_pow_right (n := 2) (j := 8) (by decide) (by omega))
    have e : V = un (out ++ [held]) := by rw [un_snoc]; exact B.eq_
    have el : (m + 7) / 8 = (out ++ [held]).length := by
      rw [List.length_append]
      show _ = out.length + 1
      omega
    rw [e, el, le_un]
    intro b hb
    rcases List.mem_append.mp hb with h | h
    · exact B.by_ b h
    · rw [List.mem_singleton.mp h]; exact hh
  · rw [if_neg h0]
    have e0 : many = 0 := by omega
    rw [e0, Nat.pow_zero] at hl
    have e1 : held = 0 := by omega
    have e : V = un out := by rw [B.eq_, e1]; rfl
    have el : (m + 7) / 8 = out.length := by omega
    rw [e, el, le_un B.by_]
inductive Wr
  | whole (n : Nat)
  | signs (t : List Nat)
  | bits (ns : List Nat) (w : Nat)
  | raw (bs : List Nat)
def row : Wr → List Nat
  | .whole n => wh n
  | .signs t => wh t.length ++ t
  | .bits ns w => le ((w * ns.length + 7) / 8) (val w ns)
  | .raw bs => bs
end Rb
set_option Elab.async false
set_option linter.all false
set_option maxRecDepth 100000
set_option maxHeartbeats 2000000
namespace Wq
open PySem PySem.Spec PyProof.Rows L2
open Rb (wh le un val Bp)
abbrev nI (n : Nat) : V := .int (n : Int)
theorem Same.new {H : Hp} {p : Addr} {o : HO} (h : H p = none) : Same H (upd H p o) := fun b u e => by
  rw [upd_ne (ne_of_none e h)]
  exact e
theorem Same.put {H H' : Hp} {p : Addr} {o : HO} (s : Same H H') (h : H p = none) : Same H (upd H' p o) := fun b u e => by
  rw [upd_ne (ne_of_none e h)]
  exact s _ _ e
theorem nats_at {ns : List Nat} {i : Nat} {y : V} (hi : (ns.map nI)[i]? = some y) : ∃ z, ns[i]? = some z ∧ y = nI z := by
  rw [List.getElem?_map] at hi
  cases e : ns[i]? with
  | none =>
    rw [e] at hi
    cases hi
  | some z =>
    rw [e] at hi
    exact ⟨z, rfl, (Option.some.inj hi).symm⟩
/-! operations on numbers from 0 on -/
theorem xorN (a b : Nat) : Builtin.bitXor (a : Int) (b : Int) = ((a ^^^ b : Nat) : Int) := by
  rw [Bits.bitXor_pp (by omega) (by omega), Int.toNat_natCast, Int.toNat_natCast]
theorem andN (a b : Nat) : Builtin.bitAnd (a : Int) (b : Int) = ((a &&& b : Nat) : Int) := by
  rw [bitAnd_pp (by omega) (by omega), Int.toNat_natCast, Int.toNat_natCast]
theorem orN (a b : Nat) : Builtin.bitOr (a : Int) (b : Int) = ((a ||| b : Nat) : Int) := by
  rw [Bits.bitOr_pp (by omega) (by omega), Int.toNat_natCast, Int.toNat_natCast]
theorem shlN (a k : Nat) : (a : Int) * 2 ^ k = ((a <<< k : Nat) : Int) := by
  rw [Nat.shiftLeft_eq, Int.natCast_mul, Int.natCast_pow]
  rfl
theorem shrN (a k : Nat) : (a : Int) / 2 ^ k = ((a >>> k : Nat) : Int) := by
  rw [Nat.shiftRight_eq_div_pow, Int.natCast_ediv, Int.natCast_pow]
  rfl
def rNN (C : Nat → Nat → Prop) (g : Nat → Nat → Nat) : R2 := fun x y H Q => ∃ n m : Nat, x = nI n ∧ y = nI m ∧ C n m ∧ Q (nI (g n m)) H
def cTt (_ _ : Nat) : Prop := True
def cSh (n k : Nat) : Prop := n < 2 ^ 64 + 1 ∧ k ≤ 1000000
theorem nn_of {X : Cx} {op : Value → Value → Sem Value} {C : Nat → Nat → Prop} {g : Nat → Nat → Nat} {D : Int → Int → Prop} {f : Int → Int → V} (ho : OpR X op (rI D f)) (hD : ∀ n m : Nat, C n m → D n m) (hf : ∀ n m : Nat, C n m → f n m = nI (g n m)) : OpR X op (rNN C g) := by
  intro pins s σ H x y v u Q I rx ry h
  obtain ⟨n, m, rfl, rfl, c, q⟩ := h
  exact ho pins s σ H _ _ v u Q I rx ry ⟨_, _, rfl, rfl, hD n m c, by rw [hf n m c]; exact q⟩
theorem nn_of0 {X : Cx} {op : Value → Value → Sem Value} {g : Nat → Nat → Nat} {f : Int → Int → V} (ho : OpR X op (rI0 f)) (hf : ∀ n m : Nat, f n m = nI (g n m)) : OpR X op (rNN cTt g) := by
  intro pins s σ H x y v u Q I rx ry h
  obtain ⟨n, m, rfl, rfl, _, q⟩ := h
  exact ho pins s σ H _ _ v u Q I rx ry ⟨_, _, rfl, rfl, by rw [hf n m]; exact q⟩
theorem shl_ok {n m : Nat} (c : cSh n m) : CShl n m := by
  refine ⟨by omega, ?_⟩
  have h1 : Builtin.Int.intBits (n : Int) ≤ 66 := by
    unfold Builtin.Int.intBits
    have h2 : (n : Int).natAbs.log2 < 65 := PySem.Flt.log2_lt_of (by decide) (by have := c.1; omega)
    split <;> omega
  have := c.2
  omega
section
variable {X : Cx}
theorem nn_xor : OpR X (binaryOp .BitXor) (rNN cTt fun n m => n ^^^ m) := nn_of0 op_xor fun n m => congrArg V.int (xorN n m)
theorem nn_and : OpR X (binaryOp .BitAnd) (rNN cTt fun n m => n &&& m) := nn_of0 op_and fun n m => congrArg V.int (andN n m)
theorem nn_or : OpR X (binaryOp .BitOr) (rNN cTt fun n m => n ||| m) := nn_of0 op_or fun n m => congrArg V.int (orN n m)
theorem nn_shl : OpR X (binaryOp .LShift) (rNN cSh fun n m => n <<< m) := nn_of op_shlW (fun n m c => shl_ok c) fun n m _ => congrArg V.int (by rw [Int.toNat_natCast]; exact shlN n m)
theorem nn_shr : OpR X (binaryOp .RShift) (rNN cTt fun n m => n >>> m) := nn_of op_shr (fun n m _ => by omega) fun n m _ => congrArg V.int (by rw [Int.toNat_natCast]; exact shrN n m)
theorem nn_add : OpR X (binaryOp .Add) (rNN cTt fun n m => n + m) := nn_of0 op_add fun n m => congrArg V.int (Int.natCast_add n m).symm
theorem ni_xor : PIp X .BitXor (rNN cTt fun n m => n ^^^ m) := nn_of0 iop_xor fun n m => congrArg V.int (xorN n m)
theorem ni_or : PIp X .BitOr (rNN cTt fun n m => n ||| m) := nn_of0 iop_or fun n m => congrArg V.int (orN n m)
theorem ni_add : PIp X .Add (rNN cTt fun n m => n + m) := nn_of0 iop_add fun n m => congrArg V.int (Int.natCast_add n m).symm
theorem ni_sub : PIp X .Sub (rNN (fun n m => m ≤ n) fun n m => n - m) := by
  intro pins s σ H x y v u Q I rx ry h
  obtain ⟨n, m, rfl, rfl, c, q⟩ := h
  refine ip_sub pins s σ H _ _ v u Q I rx ry ⟨_, _, rfl, rfl, ?_⟩
  have e : (n : Int) - (m : Int) = ((n - m : Nat) : Int) := by omega
  show Q (V.int ((n : Int) - (m : Int))) H
  rw [e]
  exact q
theorem ni_shl : PIp X .LShift (rNN cSh fun n m => n <<< m) := nn_of iop_shlW (fun n m c => shl_ok c) fun n m _ => congrArg V.int (by rw [Int.toNat_natCast]; exact shlN n m)
theorem ni_shr : PIp X .RShift (rNN cTt fun n m => n >>> m) := nn_of iop_shr (fun n m _ => by omega) fun n m _ => congrArg V.int (by rw [Int.toNat_natCast]; exact shrN n m)
theorem pgi {x : Str} {n : Int} {t : Tok} {pos : Pos} (hm : X.mg x = some (.int n t)) (hg : Gl X x := by rfl) (hd : (x == ("__debug__" : Str)) = false := by decide) : PE X (.Name x pos) (tC (.int n)) := pe_glob hg hm ⟨_, rfl⟩ hd
theorem pgs {x : Str} {z : Str} {t : Tok} {pos : Pos} (hm : X.mg x = some (.str z t)) (hg : Gl X x := by rfl) (hd : (x == ("__debug__" : Str)) = false := by decide) : PE X (.Name x pos) (tC (.str z)) := pe_glob hg hm ⟨_, rfl⟩ hd
end
/-! the signs -/
def SG : Str := "\n !\"#$&'()*+,-./0123456789:;<=>?@ABCDEFGHIJKLMNOPQRSTUVWXYZ[\\]^_`abcdefghijklmnopqrstuvwxyz{|}~"
def sgn (i : Nat) : Nat := SG.cps.toList.getD i 0
theorem SG_len : SG.cps.toList.length = 95 := by decide +kernel
theorem SG_index : ∀ i, i < 95 → Txt.index0 SG ⟨#[sgn i]⟩ = some i := by decide +kernel
theorem SG_at {i : Nat} (h : i < 95) : SG.cps.toList[i]? = some (sgn i) := by
  unfold sgn
  rw [List.getD_eq_getElem?_getD, List.getElem?_eq_getElem (by rw [SG_len]; exact h)]
  rfl
/-- the text of sign numbers -/
def txt (t : List Nat) : Str := ⟨(t.map sgn).toArray⟩
theorem txt_len (t : List Nat) : (txt t).length = t.length := by
  show (t.map sgn).toArray.size = _
  rw [List.size_toArray, List.length_map]
/-! methods -/
structure Mt (P : Program) (w : World) (K : PySem.W.Frag) (mg : Str → Option Value) (base : Heap) (k : Nat) (C : Addr) (m : Str) (sp : Sp) : Prop where
  ex : ∃ (f : Addr) (fd : FuncData) (ps : List Str), Cls K C ∧ Meth K C m f ∧ FnOk P w K mg base CX0 k f fd ps sp ∧ Binds K fd ps []
structure MAt (K : PySem.W.Frag) (C : Addr) (m qual : Str) (st : Stmt) : Prop where
  ex : ∃ (f : Addr) (fd : FuncData), Fun K m qual st f fd ∧ Meth K C m f
theorem m_mk {K : PySem.W.Frag} {C : Addr} {m qual : Str} {st : Stmt} {f : Addr} {oc : Value} {od an : Option Addr} {osl : Array (Option Value)} {kV doc pm cdv ct : Value}
    (a : PySem.W.findIn K (.ref C) m = some (some (.ref f))) (i : PySem.W.isFn K (.ref f) = true) (l : K.lookup f = some ⟨oc, od, .func (PySem.W.fnOf m qual (defArgs st) (defBody st) (defScope st) .none kV doc pm an cdv ct), osl⟩)
    (c : PySem.W.codeIn K cdv qual = true) (k : PySem.W.keepIn K (.ref f) = true) : MAt K C m qual st := ⟨f, _, fun_mk l c k, ⟨a, i, k⟩⟩
section
variable {X : Cx} {k j : Nat} {C : Addr} {x m : Str} {sp : Sp} {p pos apos : Pos} {e o : Expr} {es : List Expr} {ta : TE} {t : TA}
theorem pe_cl0 (c : Cl X.prog X.w X.K X.mg X.base k x sp) (hr : Room j X.A) (hk : k ≤ j) (hg : Gl X x) (hdb : (x == ("__debug__" : Str)) = false := by decide) : PE X (.Call (.Name x p) [] [] pos) (tCall sp [] E0 tNil) := by
  obtain ⟨f, fd, ps, F, hm, kp, b⟩ := c.ex
  exact pe_call0 F (hr.mono hk) hg hm kp b .nil pass0 hdb
end
end Wq
set_option Elab.async false
set_option linter.all false
set_option maxRecDepth 100000
set_option maxHeartbeats 2000000
set_option exponentiation.threshold 5000
namespace Wq
open PySem PySem.Spec PyProof.Rows L2
open Rb (wh le un val Bp)
/-! Writer -/
def wf (l : Addr) : List (Str × V) := putF "_row" (.ref l) []
theorem wf_row (l : Addr) : (wf l).lookup ("_row" : Str) = some (.ref l) := by
  unfold wf
  rw [lookup_putF, if_pos rfl]
theorem wf_no (l : Addr) {m : Str} (h : ¬ m = "_row") : (wf l).lookup m = none := by
  unfold wf
  rw [lookup_putF, if_neg h]
  rfl
/-- a Writer stands at p, its list at l holds r -/
structure WAt (C : Addr) (H : Hp) (p l : Addr) (r : List Nat) : Prop where
  ob : ∃ dx, H p = some (.ins C dx (wf l))
  ls : H l = some (.lst (r.map nI))
theorem WAt.ne {C : Addr} {H : Hp} {p l : Addr} {r : List Nat} (W : WAt C H p l r) : p ≠ l := by
  obtain ⟨dx, h⟩ := W.ob
  exact ne_of h W.ls (by intro z; cases z)
theorem WAt.put {C : Addr} {H : Hp} {p l : Addr} {r r' : List Nat} (W : WAt C H p l r) : WAt C (upd H l (.lst (r'.map nI))) p l r' := by
  obtain ⟨dx, h⟩ := W.ob
  exact ⟨⟨dx, by rw [upd_ne W.ne]; exact h⟩, upd_same⟩
/-- only the list at l is another one -/
def But (l : Addr) (H H' : Hp) : Prop := ∀ b o, H b = some o → b ≠ l → H' b = some o
theorem But.refl (l : Addr) (H : Hp) : But l H H := fun _ _ h _ => h
theorem But.trans {l : Addr} {H H1 H2 : Hp} (a : But l H H1) (b : But l H1 H2) : But l H H2 := fun c o h n => b c o (a c o h n) n
theorem But.up (l : Addr) (H : Hp) (o : HO) : But l H (upd H l o) := fun b u h n => by rw [upd_ne n]; exact h
theorem But.same {l : Addr} {H H1 : Hp} (a : Same H H1) : But l H H1 := fun c o h _ => a c o h
abbrev sWI : Stmt := inClass (top 11) 0
abbrev sWA : Stmt := inClass (top 11) 1
abbrev sWW : Stmt := inClass (top 11) 2
abbrev sWS : Stmt := inClass (top 11) 3
abbrev sWB : Stmt := inClass (top 11) 4
abbrev sWR : Stmt := inClass (top 11) 5
theorem scWI : FnScope ["self"] ["self"] (defScope sWI) := ⟨rfl, rfl, rfl, by decide +kernel, rfl, by decide +kernel, by decide +kernel⟩
theorem scWA : FnScope ["self"] ["self"] (defScope sWA) := ⟨rfl, rfl, rfl, by decide +kernel, rfl, by decide +kernel, by decide +kernel⟩
theorem scWW : FnScope ["self", "number"] ["self", "number"] (defScope sWW) := ⟨rfl, rfl, rfl, by decide +kernel, rfl, by decide +kernel, by decide +kernel⟩
theorem scWS : FnScope ["self", "text", "sign"] ["self", "text"] (defScope sWS) := ⟨rfl, rfl, rfl, by decide +kernel, rfl, by decide +kernel, by decide +kernel⟩
theorem scWB : FnScope ["self", "numbers", "width", "held", "many", "number"] ["self", "numbers", "width"] (defScope sWB) := ⟨rfl, rfl, rfl, by decide +kernel, rfl, by decide +kernel, by decide +kernel⟩
theorem scWR : FnScope ["self", "row"] ["self", "row"] (defScope sWR) := ⟨rfl, rfl, rfl, by decide +kernel, rfl, by decide +kernel, by decide +kernel⟩
structure TxtW (K : PySem.W.Frag) (mg : Str → Option Value) (C : Addr) : Prop where
  cl : Cls K C
  nR : NoAttr K C "_row"
  sg : ∃ t, mg "SIGNS" = some (.str SG t)
def spWI (C : Addr) : Sp := fun vs H Q _ => ∃ (p dx : Addr), vs = [.ref p] ∧ H p = some (.ins C dx []) ∧ ∀ (l : Addr) (H' : Hp), H l = none → WAt C H' p l [] → (∀ b o, H b = some o → b ≠ p → H' b = some o) → Q .non H'
def spWA (C : Addr) : Sp := fun vs H Q _ => ∃ (p l : Addr) (r : List Nat), vs = [.ref p] ∧ WAt C H p l r ∧ ∀ t, H t = none → Q (.ref t) (upd H t (.tup (r.map nI)))
/-- a deed that writes some bytes more -/
def wrote (C : Addr) (H : Hp) (p l : Addr) (r more : List Nat) (Q : VK) : Prop := ∀ H', But l H H' → WAt C H' p l (r ++ more) → Q .non H'
def spWW (C : Addr) : Sp := fun vs H Q _ => ∃ (p l : Addr) (r : List Nat) (n : Nat), vs = [.ref p, nI n] ∧ WAt C H p l r ∧ n < 2 ^ 4000 ∧ r.length ≤ 100000 ∧ wrote C H p l r (wh n) Q
def spWS (C : Addr) : Sp := fun vs H Q _ => ∃ (p l : Addr) (r t : List Nat), vs = [.ref p, .str (txt t)] ∧ WAt C H p l r ∧ (∀ i ∈ t, i < 95) ∧ t.length ≤ 1000 ∧ r.length ≤ 90000 ∧ wrote C H p l r (wh t.length ++ t) Q
def spWB (K : PySem.W.Frag) (C : Addr) : Sp := fun vs H Q _ => ∃ (p l a : Addr) (r ns : List Nat) (w : Nat), vs = [.ref p, .ref a, nI w] ∧ WAt C H p l r ∧ SqL K H a (ns.map nI) ∧ (∀ H', But l H H' → SqL K H' a (ns.map nI)) ∧ (∀ n ∈ ns, n < 2 ^ w) ∧ w ≤ 64 ∧ ns.length ≤ 1000 ∧ r.length ≤ 90000 ∧ wrote C H p l r (le ((w * ns.length + 7) / 8) (val w ns)) Q
def spWR (K : PySem.W.Frag) (C : Addr) : Sp := fun vs H Q _ => ∃ (p l a : Addr) (r bs : List Nat), vs = [.ref p, .ref a] ∧ WAt C H p l r ∧ SqT K H a (bs.map nI) ∧ r.length + bs.length ≤ 100000 ∧ wrote C H p l r bs Q
theorem pow128 (a b : Nat) (h : b ≤ 7 * a) : 2 ^ b ≤ 128 ^ a := by
  have e : (128 : Nat) = 2 ^ 7 := rfl
  rw [e, ← Nat.pow_mul]
  exact Nat.pow_le_pow_right (by decide) h
theorem wh_len (n k : Nat) (h : n < 128 ^ k) (hk : 0 < k) : (wh n).length ≤ k := by
  induction k generalizing n with
  | zero => omega
  | succ k ih =>
    by_cases h1 : n > 127
    · rw [Rb.wh_big h1]
      have h2 : n / 128 < 128 ^ k := by rw [Nat.pow_succ] at h; exact Nat.div_lt_of_lt_mul (by rw [Nat.mul_comm]; exact h)
      have h3 : 0 < k := by
        cases k with
        | zero => rw [Nat.pow_zero] at h2; omega
        | succ k => omega
      show (wh (n / 128)).length + 1 ≤ k + 1
      have := ih _ h2 h3
      omega
    · rw [Rb.wh_small h1]
      show 1 ≤ k + 1
      omega
section
variable {P : Program} {w : World} {K : PySem.W.Frag} {mg : Str → Option Value} {base : Heap} {C : Addr}
theorem ok_WI {f : Addr} {fd : FuncData} (F : Fun K "__init__" "Writer.__init__" sWI f fd) (T : TxtW K mg C) : FnOk P w K mg base CX0 1 f fd ["self"] (spWI C) := by
  refine F.ok scWI (fun vs H Q E h => ?_) (fun cdv A outer s H vs Q E hr h => ?_)
  · obtain ⟨p, dx, rfl, _⟩ := h
    rfl
  · obtain ⟨p, dx, rfl, hp, k⟩ := h
    refine ⟨_, pss_one (ps_fld (pv 0) (pe_lst pa_nil) rfl), ?_⟩
    refine ⟨Nat.zero_le _, fun l hl => ?_⟩
    have npl : p ≠ l := ne_of_none hp hl
    refine ⟨_, rfl, p, C, dx, [], rfl, (by rw [upd_ne npl]; exact hp), T.cl, T.nR, (by show 0 < 1000; decide), ?_⟩
    refine k l _ hl ⟨⟨dx, upd_same⟩, by rw [upd_ne npl.symm, upd_same]; rfl⟩ fun b o e hb => ?_
    rw [upd_ne hb, upd_ne (ne_of_none e hl)]
    exact e
theorem ok_WA {f : Addr} {fd : FuncData} (F : Fun K "all_bytes" "Writer.all_bytes" sWA f fd) (T : TxtW K mg C) (TT : Txt K mg) : FnOk P w K mg base CX0 1 f fd ["self"] (spWA C) := by
  refine F.ok scWA (fun vs H Q E h => ?_) (fun cdv A outer s H vs Q E hr h => ?_)
  · obtain ⟨p, l, r, rfl, _⟩ := h
    rfl
  · obtain ⟨p, l, r, rfl, W, k⟩ := h
    obtain ⟨dx, hp⟩ := W.ob
    refine ⟨_, pss_one (ps_ret (pe_callTy call_tuple_of (by rfl) (by exact TT.tuple) (by decide +kernel) (pa_cons (pe_fld (pv 0) rfl) pa_nil))), ?_⟩
    exact ⟨_, rfl, p, C, dx, _, _, rfl, hp, T.cl, T.nR, wf_row l, l, _, rfl, .inl ⟨.inl (.inl W.ls), fun t ht => k t ht⟩⟩
theorem ok_WW {f : Addr} {fd : FuncData} (F : Fun K "whole" "Writer.whole" sWW f fd) (T : TxtW K mg C) : FnOk P w K mg base CX0 1 f fd ["self", "number"] (spWW C) := by
  refine F.ok scWW (fun vs H Q E h => ?_) (fun cdv A outer s H vs Q E hr h => ?_)
  · obtain ⟨p, l, r, n, rfl, _⟩ := h
    rfl
  · obtain ⟨p, l, r, n, rfl, W, hn, hr0, k⟩ := h
    refine ⟨_, pss_cons (ps_while PassesOwn.never (pt_cmpR op_gt (pv 1) pe_int (nomark _))
      (pss_cons (ps_expr (pe_bm PySem.F.plainAttrs_list PySem.F.slot_list_append PySem.F.type_list_append mt_append (pe_fld (pv 0) rfl) (pa_cons (pe_op nn_add pe_int (pe_op nn_and (pv 1) pe_int)) pa_nil)))
      (pss_one (ps_aug (i := 1) scWW.nd rfl (Or.inl rfl) pe_int ni_shr))))
      (pss_one (ps_expr (pe_bm PySem.F.plainAttrs_list PySem.F.slot_list_append PySem.F.type_list_append mt_append (pe_fld (pv 0) rfl) (pa_cons (pv 1) pa_nil)))), ?_⟩
    have hwl : (wh n).length ≤ 572 := wh_len n 572 (Nat.lt_of_lt_of_le hn (pow128 572 4000 (by decide))) (by decide)
    refine while_by (fun σ H' => ∃ (m : Nat) (r' : List Nat), σ = [some (.ref p), some (nI m)] ∧ But l H H' ∧ WAt C H' p l r' ∧ r' ++ wh m = r ++ wh n) (fun σ H' => match σ with | [_, some (.int y)] => y.toNat | _ => 0)
      ⟨n, r, rfl, But.refl _ _, W, rfl⟩ ?_ ?_
    · rintro σ H' ⟨m, r', rfl, B, W', e⟩
      obtain ⟨dx, hp⟩ := W'.ob
      have hlen : r'.length ≤ 100572 := by
        have := congrArg List.length e
        rw [List.length_append, List.length_append] at this
        omega
      have hsz : (r'.map nI).length < sizeLine := by rw [List.length_map, sizeLine_eq]; omega
      refine ⟨_, rfl, _, _, rfl, rfl, _, rfl, ?_⟩
      refine ite2 (fun hc => ?_) (fun hc => ?_)
      · have hc : m > 127 := by have := of_decide_eq_true hc; omega
        refine ⟨_, rfl, p, C, dx, _, _, rfl, hp, T.cl, T.nR, wf_row l, .inl ⟨rfl, _, .inl (.inl W'.ls)⟩, _, rfl, m, 127, rfl, rfl, trivial, 128, _, rfl, rfl, trivial, l, _, _, rfl, rfl, W'.ls, hsz, ?_⟩
        refine ⟨_, rfl, m, 7, rfl, rfl, trivial, ?_⟩
        have em : m &&& 127 = m % 128 := Nat.and_two_pow_sub_one_eq_mod m 7
        have es : m >>> 7 = m / 128 := Nat.shiftRight_eq_div_pow m 7
        refine ⟨⟨m / 128, r' ++ [128 + m % 128], by rw [← es]; rfl, B.trans (But.up _ _ _), ?_, ?_⟩, ?_⟩
        · have e2 : (r'.map nI) ++ [nI (128 + (m &&& 127))] = (r' ++ [128 + m % 128]).map nI := by rw [List.map_append, em]; rfl
          show WAt C (upd H' l (.lst ((r'.map nI) ++ [nI (128 + (m &&& 127))]))) p l _
          rw [e2]
          exact W'.put
        · rw [List.append_assoc, ← e, Rb.wh_big hc]
          rfl
        · show ((m >>> 7 : Nat) : Int).toNat < m
          rw [es]
          omega
      · have hc : ¬ m > 127 := fun z => hc (decide_eq_true (by omega))
        refine ⟨_, rfl, p, C, dx, _, _, rfl, hp, T.cl, T.nR, wf_row l, .inl ⟨rfl, _, .inl (.inl W'.ls)⟩, _, rfl, l, _, _, rfl, rfl, W'.ls, hsz, ?_⟩
        refine k _ (B.trans (But.up _ _ _)) ?_
        have e2 : (r'.map nI) ++ [nI m] = (r ++ wh n).map nI := by rw [← e, Rb.wh_small hc, List.map_append]; rfl
        rw [e2]
        exact W'.put
    · intro σ H' Q' Q'' hq h
      obtain ⟨v, h1, h⟩ := h
      obtain ⟨i, j, e1, e2, k', e3, h⟩ := h
      exact ⟨v, h1, i, j, e1, e2, k', e3, hq _ _ h⟩
theorem ok_WS {f fW : Addr} {fd fdW : FuncData} (F : Fun K "signs" "Writer.signs" sWS f fd) (T : TxtW K mg C) (TT : Txt K mg) (MW : Meth K C "whole" fW) (GW : FnOk P w K mg base CX0 1 fW fdW ["self", "number"] (spWW C)) (bW : Binds K fdW ["self", "number"] []) : FnOk P w K mg base CX0 2 f fd ["self", "text"] (spWS C) := by
  refine F.ok scWS (fun vs H Q E h => ?_) (fun cdv A outer s H vs Q E hr h => ?_)
  · obtain ⟨p, l, r, t, rfl, _⟩ := h
    rfl
  · obtain ⟨p, l, r, t, rfl, W, ht, htl, hr0, k⟩ := h
    obtain ⟨tk, sg⟩ := T.sg
    obtain ⟨dx, hp⟩ := W.ob
    refine ⟨_, pss_cons (ps_expr (pe_meth (pv 0) T.cl MW GW hr bW .nil pass0 (pa_cons (pe_callB call_len_str (by rfl) (by exact TT.len) PySem.boot_len (pa_cons (pv 1) pa_nil)) pa_nil)))
      (pss_one (ps_for PassesOwn.never rfl (pi_str (pv 1)) (pg_name (i := 2) scWS.nd rfl (Or.inl rfl))
      (pss_one (ps_expr (pe_bm PySem.F.plainAttrs_list PySem.F.slot_list_append PySem.F.type_list_append mt_append (pe_fld (pv 0) rfl) (pa_cons (pe_bmS PySem.F.plainAttrs_str PySem.F.slot_str_index PySem.F.type_str_index (mt_indexX rfl takes0) (pgs (by exact sg)) (pa_cons (pv 2) pa_nil)) pa_nil)))))), ?_⟩
    refine ⟨_, rfl, p, dx, _, rfl, hp, wf_no l (by decide +kernel), _, rfl, _, rfl, ?_, ?_⟩
    · rw [txt_len, sizeLine_eq]
      omega
    refine ⟨p, l, r, t.length, by rw [txt_len]; rfl, W, ?_, by omega, fun H' B W' => ?_⟩
    · exact Nat.lt_of_lt_of_le (show t.length < 2 ^ 11 by omega) (Nat.pow_le_pow_right (by decide) (by decide))
    have hwl : (wh t.length).length ≤ 2 := wh_len _ 2 (by show t.length < 16384; omega) (by decide)
    refine ⟨_, rfl, _, rfl, for_it walk_str (fun i σ H2 => ∃ v : Option V, σ = [some (.ref p), some (.str (txt t)), v] ∧ But l H H2 ∧ WAt C H2 p l ((r ++ wh t.length) ++ t.take i))
      ⟨none, rfl, B, by rw [List.take_zero, List.append_nil]; exact W'⟩ (fun _ _ _ _ _ => trivial) ?_ ?_⟩
    · rintro i x σ H2 H3 hi ⟨v, rfl, B2, W2⟩ ⟨rfl, c, hc, rfl⟩
      have hi : i < t.length := by rw [← txt_len]; exact hi
      obtain ⟨z, hz⟩ : ∃ z, t[i]? = some z := ⟨t[i], List.getElem?_eq_getElem hi⟩
      have hz95 : z < 95 := ht z (List.mem_of_getElem? hz)
      have ec : c = sgn z := by
        have : (t.map sgn).toArray[i]? = some c := hc
        rw [List.getElem?_toArray, List.getElem?_map, hz] at this
        exact (Option.some.inj this).symm
      obtain ⟨dx2, hp2⟩ := W2.ob
      have hsz : (((r ++ wh t.length) ++ t.take i).map nI).length < sizeLine := by
        rw [List.length_map, List.length_append, List.length_append, List.length_take, sizeLine_eq]
        omega
      refine ⟨_, rfl, p, C, dx2, _, _, rfl, hp2, T.cl, T.nR, wf_row l, .inl ⟨rfl, _, .inl (.inl W2.ls)⟩, rfl, _, rfl, SG, ⟨#[c]⟩, rfl, rfl, fun k hk => ?_, fun hn _ => ?_⟩
      · rw [ec, SG_index z hz95] at hk
        obtain rfl := Option.some.inj hk
        refine ⟨l, _, _, rfl, rfl, W2.ls, hsz, ?_⟩
        refine ⟨some (.str ⟨#[c]⟩), rfl, B2.trans (But.up _ _ _), ?_⟩
        have e2 : (((r ++ wh t.length) ++ t.take i).map nI) ++ [nI z] = ((r ++ wh t.length) ++ t.take (i + 1)).map nI := by
          rw [List.take_add_one, hz, ← List.append_assoc, List.map_append (l₂ := (some z).toList)]
          rfl
        rw [e2]
        exact W2.put
      · rw [ec, SG_index z hz95] at hn
        cases hn
    · rintro σ H2 ⟨v, rfl, B2, W2⟩
      have e : (txt t).cps.size = t.length := txt_len t
      rw [e, List.take_length, List.append_assoc] at W2
      exact k H2 B2 W2
theorem ok_WR {f : Addr} {fd : FuncData} (F : Fun K "raw" "Writer.raw" sWR f fd) (T : TxtW K mg C) (TT : Txt K mg) : FnOk P w K mg base CX0 1 f fd ["self", "row"] (spWR K C) := by
  refine F.ok scWR (fun vs H Q E h => ?_) (fun cdv A outer s H vs Q E hr h => ?_)
  · obtain ⟨p, l, a, r, bs, rfl, _⟩ := h
    rfl
  · obtain ⟨p, l, a, r, bs, rfl, W, hS, hl, k⟩ := h
    obtain ⟨dx, hp⟩ := W.ob
    refine ⟨_, pss_one (ps_expr (pe_bm PySem.F.plainAttrs_list PySem.F.slot_list_extend PySem.F.type_list_extend mt_extend (pe_fld (pv 0) rfl) (pa_cons (pe_callTy call_list_of (by rfl) (by exact TT.list) (by decide +kernel) (pa_cons (pv 1) pa_nil)) pa_nil))), ?_⟩
    refine ⟨_, rfl, p, C, dx, _, _, rfl, hp, T.cl, T.nR, wf_row l, .inl ⟨rfl, _, .inl (.inl W.ls)⟩, _, rfl, a, _, rfl, .inr hS, fun b hb => ?_⟩
    have s1 := Same.new (o := .lst (bs.map nI)) hb
    have W1 : WAt C (upd H b (.lst (bs.map nI))) p l r := ⟨⟨dx, s1 _ _ hp⟩, s1 _ _ W.ls⟩
    refine ⟨l, b, _, _, rfl, rfl, W1.ls, upd_same, ?_, ?_⟩
    · rw [List.length_map, List.length_map, sizeLine_eq]
      omega
    refine k _ ((But.same s1).trans (But.up _ _ _)) ?_
    rw [← List.map_append]
    exact W1.put
theorem ok_WB {f : Addr} {fd : FuncData} (F : Fun K "bits" "Writer.bits" sWB f fd) (T : TxtW K mg C) : FnOk P w K mg base CX0 1 f fd ["self", "numbers", "width"] (spWB K C) := by
  refine F.ok scWB (fun vs H Q E h => ?_) (fun cdv A outer s H vs Q E hr h => ?_)
  · obtain ⟨p, l, a, r, ns, w', rfl, _⟩ := h
    rfl
  · obtain ⟨p, l, a, r, ns, w', rfl, W, hS, hS', hn, hw, hnl, hrl, k⟩ := h
    refine ⟨_, pss_cons (ps_set (i := 3) scWB.nd rfl (Or.inl rfl) pe_int)
      (pss_cons (ps_set (i := 4) scWB.nd rfl (Or.inl rfl) pe_int)
      (pss_cons (ps_for PassesOwn.never rfl (pi_list (pv 1)) (pg_name (i := 5) scWB.nd rfl (Or.inl rfl))
      (pss_cons (ps_aug (i := 3) scWB.nd rfl (Or.inl rfl) (pe_op nn_shl (pv 5) (pv 4)) ni_or)
      (pss_cons (ps_aug (i := 4) scWB.nd rfl (Or.inl rfl) (pv 2) ni_add)
      (pss_one (ps_while PassesOwn.never (pt_cmpR op_ge (pv 4) pe_int (nomark _))
      (pss_cons (ps_expr (pe_bm PySem.F.plainAttrs_list PySem.F.slot_list_append PySem.F.type_list_append mt_append (pe_fld (pv 0) rfl) (pa_cons (pe_op nn_and (pv 3) pe_int) pa_nil)))
      (pss_cons (ps_aug (i := 3) scWB.nd rfl (Or.inl rfl) pe_int ni_shr)
      (pss_one (ps_aug (i := 4) scWB.nd rfl (Or.inl rfl) pe_int ni_sub)))))))))
      (pss_one (ps_if (pt_cmpR op_gt (pv 4) pe_int (nomark _))
      (pss_one (ps_expr (pe_bm PySem.F.plainAttrs_list PySem.F.slot_list_append PySem.F.type_list_append mt_append (pe_fld (pv 0) rfl) (pa_cons (pv 3) pa_nil))))
      pss_nil)))), ?_⟩
    have bigL : ∀ {V m : Nat} {out : List Nat} {held many : Nat}, Bp V m out held many → m ≤ 64000 → ((r ++ out).map nI).length < sizeLine := fun B hm => by
      have := B.mn
      rw [List.length_map, List.length_append, sizeLine_eq]
      omega
    refine ⟨_, rfl, a, rfl, ⟨_, hS⟩, for_list (K := K) (a := a) (xs := ns.map nI) (fun i σ H' => ∃ (v : Option V) (out : List Nat) (held many : Nat), σ = [some (.ref p), some (.ref a), some (nI w'), some (nI held), some (nI many), v] ∧ But l H H' ∧ WAt C H' p l (r ++ out) ∧ Bp (val w' (ns.take i)) (w' * (ns.take i).length) out held many ∧ many < 8)
      ⟨none, [], 0, 0, rfl, But.refl _ _, by rw [List.append_nil]; exact W, ⟨(fun b hb => nomatch hb), (by decide), rfl, rfl⟩, (by decide)⟩ (fun i σ H' _ ⟨_, _, _, _, _, B, _⟩ => hS' _ B) ?_ ?_⟩
    · rintro i y σ H' hi ⟨v, out, held, many, rfl, B, W1, bp, hm8⟩
      obtain ⟨n, hni, rfl⟩ := nats_at hi
      have hn64 : n < 2 ^ w' := hn n (List.mem_of_getElem? hni)
      have hn65 : n < 2 ^ 64 := Nat.lt_of_lt_of_le hn64 (Nat.pow_le_pow_right (by decide) hw)
      have hil := (List.getElem?_eq_some_iff.mp hni).1
      have bp1 := bp.put hn64
      have et : ns.take (i + 1) = ns.take i ++ [n] := by rw [List.take_add_one, hni]; rfl
      have el : (ns.take i).length = i := by rw [List.length_take]; omega
      have el1 : (ns.take (i + 1)).length = i + 1 := by rw [List.length_take]; omega
      have eV : val w' (ns.take i) + 2 ^ (w' * (ns.take i).length) * n = val w' (ns.take (i + 1)) := by rw [et, Rb.val_snoc]
      have eM : w' * (ns.take i).length + w' = w' * (ns.take (i + 1)).length := by rw [el, el1, Nat.mul_succ]
      rw [eV, eM] at bp1
      have hmb : w' * (ns.take (i + 1)).length ≤ 64000 := Nat.le_trans (Nat.mul_le_mul hw (show (ns.take (i + 1)).length ≤ 1000 by omega)) (by decide)
      generalize w' * (ns.take (i + 1)).length = M at *
      generalize val w' (ns.take (i + 1)) = VV at *
      refine ⟨_, rfl, _, rfl, _, rfl, n, many, rfl, rfl, ⟨by omega, by omega⟩, held, _, rfl, rfl, trivial, ?_⟩
      refine ⟨_, rfl, _, rfl, many, w', rfl, rfl, trivial, ?_⟩
      refine while_by (fun σ H' => ∃ (out : List Nat) (held many : Nat), σ = [some (.ref p), some (.ref a), some (nI w'), some (nI held), some (nI many), some (nI n)] ∧ But l H H' ∧ WAt C H' p l (r ++ out) ∧ Bp VV M out held many) (fun σ H' => match σ with | [_, _, _, _, some (.int y), _] => y.toNat | _ => 0)
        ⟨out, _, _, rfl, B, W1, bp1⟩ ?_ ?_
      · rintro σ H2 ⟨out, held, many, rfl, B, W2, bp2⟩
        obtain ⟨dx2, hp2⟩ := W2.ob
        refine ⟨_, rfl, _, _, rfl, rfl, _, rfl, ?_⟩
        refine ite2 (fun hc => ?_) (fun hc => ?_)
        · have hc : 8 ≤ many := by have := of_decide_eq_true hc; omega
          refine ⟨_, rfl, p, C, dx2, _, _, rfl, hp2, T.cl, T.nR, wf_row l, .inl ⟨rfl, _, .inl (.inl W2.ls)⟩, _, rfl, held, 255, rfl, rfl, trivial, l, _, _, rfl, rfl, W2.ls, bigL bp2 hmb, ?_⟩
          refine ⟨_, rfl, held, 8, rfl, rfl, trivial, _, rfl, many, 8, rfl, rfl, hc, ?_⟩
          have em : held &&& 255 = held % 256 := Nat.and_two_pow_sub_one_eq_mod held 8
          have es : held >>> 8 = held / 256 := Nat.shiftRight_eq_div_pow held 8
          have bp3 := bp2.out hc
          refine ⟨⟨out ++ [held % 256], held / 256, many - 8, by rw [← es]; rfl, B.trans (But.up _ _ _), ?_, bp3⟩, ?_⟩
          · have e2 : ((r ++ out).map nI) ++ [nI (held &&& 255)] = (r ++ (out ++ [held % 256])).map nI := by rw [← List.append_assoc, List.map_append (l₂ := [held % 256]), em]; rfl
            show WAt C (upd H2 l (.lst (((r ++ out).map nI) ++ [nI (held &&& 255)]))) p l _
            rw [e2]
            exact W2.put
          · show ((many - 8 : Nat) : Int).toNat < many
            omega
        · have hc : many < 8 := by
            have : ¬ (8 : Int) ≤ (many : Int) := fun z => hc (decide_eq_true z)
            omega
          exact ⟨_, out, held, many, rfl, B, W2, bp2, hc⟩
      · intro σ H' Q' Q'' hq h
        obtain ⟨v, h1, h⟩ := h
        obtain ⟨i, j, e1, e2, k', e3, h⟩ := h
        exact ⟨v, h1, i, j, e1, e2, k', e3, hq _ _ h⟩
    · rintro σ H' ⟨v, out, held, many, rfl, B, W1, bp, hm8⟩
      rw [List.length_map, List.take_length] at bp
      obtain ⟨dx1, hp1⟩ := W1.ob
      have hd := bp.done hm8
      have hmb : w' * ns.length ≤ 64000 := Nat.le_trans (Nat.mul_le_mul hw hnl) (by decide)
      refine ⟨_, rfl, _, _, rfl, rfl, _, rfl, ?_⟩
      refine ite2 (fun hc => ?_) (fun hc => ?_)
      · have hc : many > 0 := by have := of_decide_eq_true hc; omega
        rw [if_pos hc] at hd
        refine ⟨_, rfl, p, C, dx1, _, _, rfl, hp1, T.cl, T.nR, wf_row l, .inl ⟨rfl, _, .inl (.inl W1.ls)⟩, _, rfl, l, _, _, rfl, rfl, W1.ls, bigL bp hmb, ?_⟩
        refine k _ (B.trans (But.up _ _ _)) ?_
        have e2 : ((r ++ out).map nI) ++ [nI held] = (r ++ le ((w' * ns.length + 7) / 8) (val w' ns)).map nI := by rw [← hd, ← List.append_assoc, List.map_append (l₂ := [held])]; rfl
        rw [e2]
        exact W1.put
      · have hc : ¬ many > 0 := fun z => hc (decide_eq_true (by omega))
        rw [if_neg hc] at hd
        refine k _ B ?_
        rw [← hd]
        exact W1
end
end Wq
set_option Elab.async false
set_option linter.all false
set_option maxRecDepth 100000
set_option maxHeartbeats 2000000
namespace Wq
open PySem PySem.Spec PyProof.Rows L2
open Rb (wh le un val Bp Wr)
theorem fold_rep (c n : Nat) (a : Array Nat) : (List.replicate n #[c]).foldl (· ++ ·) a = a ++ (List.replicate n c).toArray := by
  induction n generalizing a with
  | zero => simp
  | succ n ih =>
    rw [List.replicate_succ, List.foldl_cons, ih, List.replicate_succ]
    apply Array.ext'
    simp
theorem op_rep1 {X : Cx} : OpR X (binaryOp .Mult) (fun x y H Q => ∃ (c n : Nat), x = .str ⟨#[c]⟩ ∧ y = nI n ∧ n ≤ 1000 ∧ Q (.str ⟨(List.replicate n c).toArray⟩) H) := by
  intro pins s σ H x y v u Q I rx ry h
  obtain ⟨c, n, rfl, rfl, hn, q⟩ := h
  obtain ⟨t, rfl⟩ := rx
  obtain ⟨t', rfl⟩ := ry
  have h1000 : 1000 ≤ sizeLine := by rw [sizeLine_eq]; decide
  refine PySem.P.mul_str ?_ (fun h1 _ => ?_) (fun _ _ => ?_) ?_
  · rw [decide_eq_false (by omega), decide_eq_false (by omega)]; rfl
  · show ¬ (((1 : Nat) : Int) > (2 ^ 63 - 1) / (n : Int))
    have h2 : 1 ≤ ((2 : Int) ^ 63 - 1) / (n : Int) := by
      rw [Int.le_ediv_iff_mul_le (by omega)]
      omega
    omega
  · have e : (⟨#[c]⟩ : Str).length * (n : Int).toNat = n := by
      show 1 * (n : Int).toNat = n
      omega
    rw [e]
    exact decide_eq_false (by omega)
  · by_cases h0 : (n : Int) < 1
    · rw [if_pos h0]
      have e : n = 0 := by omega
      subst e
      exact ⟨by decide, ⟨.str Str.empty, H, I.tok _, ⟨_, rfl⟩, q⟩⟩
    · rw [if_neg h0]
      by_cases h1 : n = 1
      · subst h1
        rw [if_pos (show ((((1 : Nat) : Int) == 1) || (⟨#[c]⟩ : Str).length == 0) = true from rfl)]
        exact ⟨.str ⟨#[c]⟩, H, I, ⟨_, rfl⟩, q⟩
      · have hb : ((n : Int) == 1 || (⟨#[c]⟩ : Str).length == 0) = false := by
          have h2 : ((n : Int) == 1) = false := by
            rw [beq_eq_false_iff_ne]
            omega
          rw [h2]; rfl
        rw [hb, if_neg (by decide)]
        have e : (⟨(List.replicate (n : Int).toNat (⟨#[c]⟩ : Str).cps).foldl (· ++ ·) #[]⟩ : Str) = ⟨(List.replicate n c).toArray⟩ := by
          rw [Int.toNat_natCast]
          show (⟨(List.replicate n #[c]).foldl (· ++ ·) #[]⟩ : Str) = _
          rw [fold_rep]
          simp
        rw [e]
        refine ⟨?_, ⟨.str ⟨(List.replicate n c).toArray⟩, H, I.tok _, ⟨_, rfl⟩, q⟩⟩
        show (List.replicate n c).toArray.size ≤ sizeLine
        rw [List.size_toArray, List.length_replicate]
        omega
/-! writings -/
def gd : Wr → Prop
  | .whole n => n < 2 ^ 200
  | .signs t => (∀ i ∈ t, i < 95) ∧ t.length ≤ 200
  | .bits ns w => (∀ n ∈ ns, n < 2 ^ w) ∧ w ≤ 64 ∧ ns.length ≤ 8
  | .raw bs => (∀ n ∈ bs, n < 256) ∧ bs.length ≤ 8
/-- a writing stands at t -/
def Wrt (H : Hp) (t : Addr) : Wr → Prop
  | .whole n => H t = some (.tup [.str "whole", nI n])
  | .signs s => H t = some (.tup [.str "signs", .str (txt s)])
  | .bits ns w => ∃ a, H t = some (.tup [.str "bits", .ref a, nI w]) ∧ H a = some (.lst (ns.map nI))
  | .raw bs => ∃ a, H t = some (.tup [.str "raw", .ref a]) ∧ H a = some (.lst (bs.map nI))
theorem Wrt.same {H H' : Hp} {t : Addr} {x : Wr} (h : Wrt H t x) (s : Same H H') : Wrt H' t x := by
  cases x with
  | whole n => exact s _ _ h
  | signs z => exact s _ _ h
  | bits ns w => obtain ⟨a, h1, h2⟩ := h; exact ⟨a, s _ _ h1, s _ _ h2⟩
  | raw bs => obtain ⟨a, h1, h2⟩ := h; exact ⟨a, s _ _ h1, s _ _ h2⟩
/-- the same, and its list is a new one -/
def WrtN (H H' : Hp) (t : Addr) : Wr → Prop
  | .whole n => H' t = some (.tup [.str "whole", nI n])
  | .signs s => H' t = some (.tup [.str "signs", .str (txt s)])
  | .bits ns w => ∃ a, H a = none ∧ H' t = some (.tup [.str "bits", .ref a, nI w]) ∧ H' a = some (.lst (ns.map nI))
  | .raw bs => ∃ a, H a = none ∧ H' t = some (.tup [.str "raw", .ref a]) ∧ H' a = some (.lst (bs.map nI))
theorem But.free {p : Addr} {H H' : Hp} {t : Addr} {o : HO} (B : But p H H') (hp : H' p = some o) (h : H' t = none) : H t = none := by
  cases e : H t with
  | none => rfl
  | some u =>
    by_cases n : t = p
    · rw [n, hp] at h; cases h
    · rw [B t u e n] at h; cases h
theorem But.put {p : Addr} {H G : Hp} {D : Addr} {o : HO} (B : But p H G) (h : H D = none) : But p H (upd G D o) := fun b u e n => by
  rw [upd_ne (ne_of_none e h)]
  exact B b u e n
theorem greats {i : Nat} {v : V} (h : ([V.int 4, V.int 127, V.int 128, V.int 129, V.int 16383, V.int 16384, V.int (10 ^ Int.toNat 30)] : List V)[i]? = some v) : ∃ g : Nat, v = nI g ∧ g ≤ 10 ^ 30 := by
  match i, h with
  | 0, h => exact ⟨4, (Option.some.inj h).symm, by decide⟩
  | 1, h => exact ⟨127, (Option.some.inj h).symm, by decide⟩
  | 2, h => exact ⟨128, (Option.some.inj h).symm, by decide⟩
  | 3, h => exact ⟨129, (Option.some.inj h).symm, by decide⟩
  | 4, h => exact ⟨16383, (Option.some.inj h).symm, by decide⟩
  | 5, h => exact ⟨16384, (Option.some.inj h).symm, by decide⟩
  | 6, h => exact ⟨10 ^ 30, (Option.some.inj h).symm, Nat.le_refl _⟩
  | n + 7, h => cases h
theorem widths {i : Nat} {v : V} (h : ([V.int 0, V.int 1, V.int 3, V.int 7, V.int 8, V.int 9, V.int 13, V.int 64] : List V)[i]? = some v) : ∃ g : Nat, v = nI g ∧ g ≤ 64 := by
  match i, h with
  | 0, h => exact ⟨0, (Option.some.inj h).symm, by decide⟩
  | 1, h => exact ⟨1, (Option.some.inj h).symm, by decide⟩
  | 2, h => exact ⟨3, (Option.some.inj h).symm, by decide⟩
  | 3, h => exact ⟨7, (Option.some.inj h).symm, by decide⟩
  | 4, h => exact ⟨8, (Option.some.inj h).symm, by decide⟩
  | 5, h => exact ⟨9, (Option.some.inj h).symm, by decide⟩
  | 6, h => exact ⟨13, (Option.some.inj h).symm, by decide⟩
  | 7, h => exact ⟨64, (Option.some.inj h).symm, by decide⟩
  | n + 8, h => cases h
/-- the signs as texts of one sign -/
def sg1 (i : Nat) : V := .str ⟨#[sgn i]⟩
theorem sg_pick {i : Nat} {v : V} (h : (SG.cps.toList.map fun c => V.str ⟨#[c]⟩)[i]? = some v) : i < 95 ∧ v = sg1 i := by
  have hl := (List.getElem?_eq_some_iff.mp h).1
  rw [List.length_map, SG_len] at hl
  rw [List.getElem?_map, SG_at hl] at h
  exact ⟨hl, (Option.some.inj h).symm⟩
theorem SG_small : SG.length ≤ sizeLine := by
  rw [sizeLine_eq]
  decide +kernel
theorem SG_Some {K : PySem.W.Frag} {H : Hp} : Some K H (.str SG) (SG.cps.toList.map fun c => V.str ⟨#[c]⟩) := .str SG_small
theorem SG_lens : 0 < (SG.cps.toList.map fun c => V.str ⟨#[c]⟩).length ∧ (SG.cps.toList.map fun c => V.str ⟨#[c]⟩).length < 1073741824 := by
  rw [List.length_map, SG_len]
  decide
theorem joinL_nil : ∀ ps : List (List Nat), TL.joinL [] ps = ps.flatten
  | [] => rfl
  | [p] => by simp [TL.joinL]
  | p :: q :: r => by
    show p ++ ([] ++ TL.joinL [] (q :: r)) = _
    rw [joinL_nil (q :: r)]
    simp
theorem join_signs (t : List Nat) : Txt.join ("" : Str) (t.map fun i => (⟨#[sgn i]⟩ : Str)) = txt t := by
  apply TL.ext_tl
  rw [TL.join_eq, TL.tl_join]
  show TL.joinL [] _ = (t.map sgn).toArray.toList
  rw [joinL_nil, List.map_map]
  induction t with
  | nil => rfl
  | cons a r ih =>
    show sgn a :: _ = sgn a :: _
    congr 1
theorem ones_sum (t : List Nat) : ((t.map fun i => (⟨#[sgn i]⟩ : Str)).map (·.length)).sum = t.length := by
  induction t with
  | nil => rfl
  | cons a r ih =>
    rw [List.map_cons, List.map_cons, List.sum_cons, ih, List.length_cons]
    show 1 + r.length = r.length + 1
    omega
theorem rep_txt (i n : Nat) (t : List Nat) : (⟨(List.replicate n (sgn i)).toArray⟩ : Str) ++ txt t = txt (List.replicate n i ++ t) := by
  apply TL.ext_tl
  show ((List.replicate n (sgn i)).toArray ++ (t.map sgn).toArray).toList = ((List.replicate n i ++ t).map sgn).toArray.toList
  simp
section
variable {P : Program} {w : World} {K : PySem.W.Frag} {mg : Str → Option Value} {base : Heap}
end
end Wq
set_option Elab.async false
set_option linter.all false
set_option maxRecDepth 100000
set_option maxHeartbeats 2000000
set_option exponentiation.threshold 5000
namespace Wq
open PySem PySem.Spec PyProof.Rows L2
open Rb (wh le un val Bp Wr)
/-! BadBytes(place) -/
abbrev sBI : Stmt := inClass (top 2) 0
theorem scBI : FnScope ["self", "place"] ["self", "place"] (defScope sBI) := ⟨rfl, rfl, rfl, by decide +kernel, rfl, by decide +kernel, by decide +kernel⟩
structure TxtE (K : PySem.W.Frag) (mg : Str → Option Value) (CE fI : Addr) : Prop where
  ox : OexC K CE
  nP : PySem.W.findIn K (.ref CE) "place" = some none
  iC : PySem.W.findIn K (.ref CE) "__init__" = some (some (.ref fI))
  tI : PySem.W.typeIn K (.ref fI) = some (.type "function")
  gC : mg "BadBytes" = some (.ref CE)
  xf : XfC K CE
  te : PySem.W.exmOne K (.ref CE) (.ref CE) = some true
def spBI (CE : Addr) : Sp := fun vs H Q _ => ∃ (a : Addr) (v : V), vs = [.ref a, v] ∧ H a = some (exo a CE none) ∧ ∀ d, H d = none → d ≠ a → Q .non (upd (upd H d (exd d [("place", v)])) a (exo a CE (some d)))
/-- the error of a place: what is told of it -/
def Err (H H' : Hp) (d : Addr) (k : Nat) : Prop := Same H H' ∧ H d = none ∧ H' d = some (.xd [("place", nI k)])
theorem err_heap {H : Hp} {a d CE : Addr} {k : Nat} (ha : H a = none) (hd : (upd H a (exo a CE none)) d = none) (hda : d ≠ a) : Err H (upd (del (upd (upd (upd H a (exo a CE none)) d (exd d [("place", nI k)])) a (exo a CE (some d))) a) d (.xd [("place", nI k)])) d k := by
  have hd' : H d = none := by rw [upd_ne hda] at hd; exact hd
  refine ⟨fun b o e => ?_, hd', upd_same⟩
  have hba : b ≠ a := ne_of_none e ha
  have hbd : b ≠ d := ne_of_none e hd'
  rw [upd_ne hbd, del_ne hba, upd_ne hba, upd_ne hbd, upd_ne hba]
  exact e
/-! RowReader -/
def rf (q : Addr) (i : Nat) (b : Bool) : List (Str × V) := [("_row", .ref q), ("at", nI i), ("is_done", .bl b)]
theorem rf_row (q : Addr) (i : Nat) (b : Bool) : (rf q i b).lookup ("_row" : Str) = some (.ref q) := by rfl
theorem rf_at (q : Addr) (i : Nat) (b : Bool) : (rf q i b).lookup ("at" : Str) = some (nI i) := by rfl
theorem rf_done (q : Addr) (i : Nat) (b : Bool) : (rf q i b).lookup ("is_done" : Str) = some (.bl b) := by rfl
/-- a RowReader stands at p, its row at q, so many bytes read -/
structure RAt (C : Addr) (H : Hp) (p q : Addr) (row : List Nat) (i : Nat) : Prop where
  ob : ∃ dx, H p = some (.ins C dx (rf q i (i == row.length)))
  tp : H q = some (.tup (row.map nI))
theorem RAt.same {C : Addr} {H H' : Hp} {p q : Addr} {row : List Nat} {i : Nat} (R : RAt C H p q row i) (s : Same H H') : RAt C H' p q row i := by
  obtain ⟨dx, h⟩ := R.ob
  exact ⟨⟨dx, s _ _ h⟩, s _ _ R.tp⟩
theorem RAt.ne {C : Addr} {H : Hp} {p q : Addr} {row : List Nat} {i : Nat} (R : RAt C H p q row i) : q ≠ p := by
  obtain ⟨dx, h⟩ := R.ob
  exact ne_of R.tp h (by intro z; cases z)
abbrev sRI : Stmt := inClass (top 12) 0
abbrev sRG : Stmt := inClass (top 12) 1
abbrev sRB : Stmt := inClass (top 12) 2
abbrev sRY : Stmt := inClass (top 12) 3
abbrev sRF : Stmt := inClass (top 12) 4
abbrev sRW : Stmt := inClass (top 12) 5
abbrev sRS : Stmt := inClass (top 12) 6
abbrev sRT : Stmt := inClass (top 12) 7
abbrev sRN : Stmt := inClass (top 12) 8
abbrev sRR : Stmt := inClass (top 12) 9
theorem scRI : FnScope ["self", "row"] ["self", "row"] (defScope sRI) := ⟨rfl, rfl, rfl, by decide +kernel, rfl, by decide +kernel, by decide +kernel⟩
theorem scRG : FnScope ["self", "place"] ["self", "place"] (defScope sRG) := ⟨rfl, rfl, rfl, by decide +kernel, rfl, by decide +kernel, by decide +kernel⟩
theorem scRB : FnScope ["self", "place"] ["self", "place"] (defScope sRB) := ⟨rfl, rfl, rfl, by decide +kernel, rfl, by decide +kernel, by decide +kernel⟩
theorem scRY : FnScope ["self", "value"] ["self"] (defScope sRY) := ⟨rfl, rfl, rfl, by decide +kernel, rfl, by decide +kernel, by decide +kernel⟩
theorem scRF : FnScope ["self", "place", "number", "shift", "group"] ["self", "place"] (defScope sRF) := ⟨rfl, rfl, rfl, by decide +kernel, rfl, by decide +kernel, by decide +kernel⟩
theorem scRW : FnScope ["self", "number", "place"] ["self"] (defScope sRW) := ⟨rfl, rfl, rfl, by decide +kernel, rfl, by decide +kernel, by decide +kernel⟩
abbrev NRS : List Str := ["self", "many", "begin", "end", "place", "index"]
theorem scRS : FnScope NRS ["self"] (defScope sRS) := ⟨rfl, rfl, rfl, by decide +kernel, rfl, by decide +kernel, by decide +kernel⟩
theorem scRT : FnScope ["self", "many", "width", "end", "numbers"] ["self", "many", "width"] (defScope sRT) := ⟨rfl, rfl, rfl, by decide +kernel, rfl, by decide +kernel, by decide +kernel⟩
theorem scRN : FnScope ["self", "many", "width", "end", "numbers", "held", "held_bits", "place"] ["self", "many", "width", "end"] (defScope sRN) := ⟨rfl, rfl, rfl, by decide +kernel, rfl, by decide +kernel, by decide +kernel⟩
theorem scRR : FnScope ["self", "many", "end", "row"] ["self", "many"] (defScope sRR) := ⟨rfl, rfl, rfl, by decide +kernel, rfl, by decide +kernel, by decide +kernel⟩
structure TxtR (K : PySem.W.Frag) (mg : Str → Option Value) (C : Addr) : Prop where
  cl : Cls K C
  nR : NoAttr K C "_row"
  nA : NoAttr K C "at"
  nD : NoAttr K C "is_done"
  sg : ∃ t, mg "SIGNS" = some (.str SG t)
def spRI (C : Addr) : Sp := fun vs H Q _ => ∃ (p dx q : Addr) (row : List Nat), vs = [.ref p, .ref q] ∧ H p = some (.ins C dx []) ∧ H q = some (.tup (row.map nI)) ∧ (∀ H', But p H H' → RAt C H' p q row 0 → Q .non H')
def spRG (C : Addr) : Sp := fun vs H Q _ => ∃ (p q : Addr) (row : List Nat) (i j : Nat), vs = [.ref p, nI j] ∧ RAt C H p q row i ∧ (∀ H', But p H H' → RAt C H' p q row j → Q .non H')
def spRB (C CE : Addr) : Sp := fun vs H Q E => ∃ (p q : Addr) (row : List Nat) (i j : Nat), vs = [.ref p, nI j] ∧ RAt C H p q row i ∧ (∀ b, row[j]? = some b → Q (nI b) H) ∧ (row.length ≤ j → ∀ d H', Err H H' d row.length → E (.ref CE) (some d) H')
section
variable {P : Program} {w : World} {K : PySem.W.Frag} {mg : Str → Option Value} {base : Heap} {C CE fI : Addr}
theorem ok_BI {fd : FuncData} (F : Fun K "__init__" "BadBytes.__init__" sBI fI fd) (T : TxtE K mg CE fI) : FnOk P w K mg base CX0 1 fI fd ["self", "place"] (spBI CE) := by
  refine F.ok scBI (fun vs H Q E h => ?_) (fun cdv A outer s H vs Q E hr h => ?_)
  · obtain ⟨a, v, rfl, _⟩ := h
    rfl
  · obtain ⟨a, v, rfl, ha, k⟩ := h
    exact ⟨_, pss_one (ps_ost (pv 0) (pv 1)), _, rfl, _, rfl, a, CE, rfl, T.ox, T.nP, .inl ⟨ha, fun dx n ne => k dx n ne⟩⟩
theorem ok_RI {f : Addr} {fd : FuncData} (F : Fun K "__init__" "RowReader.__init__" sRI f fd) (T : TxtR K mg C) (TT : Txt K mg) : FnOk P w K mg base CX0 1 f fd ["self", "row"] (spRI C) := by
  refine F.ok scRI (fun vs H Q E h => ?_) (fun cdv A outer s H vs Q E hr h => ?_)
  · obtain ⟨p, dx, q, row, rfl, _⟩ := h
    rfl
  · obtain ⟨p, dx, q, row, rfl, hp, hq, k⟩ := h
    have npq : q ≠ p := ne_of hq hp (by intro z; cases z)
    refine ⟨_, pss_cons (ps_fld (pv 0) (pe_callTy call_tuple_of (by rfl) (by exact TT.tuple) (by decide +kernel) (pa_cons (pv 1) pa_nil)) rfl)
      (pss_cons (ps_fld (pv 0) pe_int rfl)
      (pss_one (ps_fld (pv 0) (pe_cmpR op_eq (pe_callB call_len_seq (by rfl) (by exact TT.len) PySem.boot_len (pa_cons (pe_fld (pv 0) rfl) pa_nil)) pe_int (nomark _)) rfl))), ?_⟩
    refine ⟨_, rfl, q, _, rfl, .inr ⟨.inl (.inl hq), _, rfl, p, C, dx, [], rfl, hp, T.cl, T.nR, (by show 0 < 1000; decide), ?_⟩⟩
    refine ⟨_, rfl, p, C, dx, _, rfl, upd_same, T.cl, T.nA, (by show 1 < 1000; decide), ?_⟩
    refine ⟨_, rfl, p, C, dx, _, _, rfl, upd_same, T.cl, T.nR, rfl, q, _, rfl, .inr (.inl (.inl (by rw [upd_ne npq, upd_ne npq]; exact hq))), rfl, _, rfl, p, C, dx, _, rfl, upd_same, T.cl, T.nD, (by show 2 < 1000; decide), ?_⟩
    refine k _ (fun b o e n => by rw [upd_ne n, upd_ne n, upd_ne n]; exact e) ⟨⟨dx, ?_⟩, by rw [upd_ne npq, upd_ne npq, upd_ne npq]; exact hq⟩
    rw [upd_same]
    have e : decide (V.int (((row.map nI).length : Nat) : Int) = V.int 0) = (0 == row.length) := by
      rw [List.length_map]
      cases row with
      | nil => rfl
      | cons b r => exact decide_eq_false (fun z => by have := V.int.inj z; simp at this; omega)
    rw [e]
    rfl
theorem ok_RG {f : Addr} {fd : FuncData} (F : Fun K "_go_to" "RowReader._go_to" sRG f fd) (T : TxtR K mg C) (TT : Txt K mg) : FnOk P w K mg base CX0 1 f fd ["self", "place"] (spRG C) := by
  refine F.ok scRG (fun vs H Q E h => ?_) (fun cdv A outer s H vs Q E hr h => ?_)
  · obtain ⟨p, q, row, i, j, rfl, _⟩ := h
    rfl
  · obtain ⟨p, q, row, i, j, rfl, R, k⟩ := h
    obtain ⟨dx, hp⟩ := R.ob
    have npq := R.ne
    refine ⟨_, pss_cons (ps_fld (pv 0) (pv 1) rfl)
      (pss_one (ps_fld (pv 0) (pe_cmpR op_eq (pv 1) (pe_callB call_len_seq (by rfl) (by exact TT.len) PySem.boot_len (pa_cons (pe_fld (pv 0) rfl) pa_nil)) (nomark _)) rfl)), ?_⟩
    refine ⟨_, rfl, _, rfl, p, C, dx, _, rfl, hp, T.cl, T.nA, (by show 3 < 1000; decide), ?_⟩
    refine ⟨_, rfl, _, rfl, p, C, dx, _, _, rfl, upd_same, T.cl, T.nR, rfl, q, _, rfl, .inr (.inl (.inl (by rw [upd_ne npq]; exact R.tp))), rfl, _, rfl, p, C, dx, _, rfl, upd_same, T.cl, T.nD, (by show 3 < 1000; decide), ?_⟩
    refine k _ (fun b o e n => by rw [upd_ne n, upd_ne n]; exact e) ⟨⟨dx, ?_⟩, by rw [upd_ne npq, upd_ne npq]; exact R.tp⟩
    rw [upd_same]
    have e : decide (nI j = V.int (((row.map nI).length : Nat) : Int)) = (j == row.length) := by
      rw [List.length_map]
      by_cases h : j = row.length
      · rw [h]
        simp
      · have e2 : (j == row.length) = false := by simp [h]
        rw [e2]
        exact decide_eq_false (fun z => h (Int.ofNat_inj.mp (V.int.inj z)))
    rw [e]
    rfl
end
end Wq
set_option Elab.async false
set_option linter.all false
set_option maxRecDepth 100000
set_option maxHeartbeats 2000000
set_option exponentiation.threshold 5000
namespace Rb
/-- a whole number read: the groups that are left, how many were read, what they are worth -/
inductive RW
  | err (i : Nat)
  | ok (n c : Nat)
def rwa : List Nat → Nat → Nat → RW
  | [], i, _ => .err i
  | b :: r, i, acc => if b > 127 then rwa r (i + 1) (acc + 2 ^ (7 * i) * (b % 128)) else if b = 0 ∧ 0 < i then .err i else .ok (acc + 2 ^ (7 * i) * b) (i + 1)
theorem rwa_at {row : List Nat} {k b i acc : Nat} (h : row[k]? = some b) : rwa (row.drop k) i acc = if b > 127 then rwa (row.drop (k + 1)) (i + 1) (acc + 2 ^ (7 * i) * (b % 128)) else if b = 0 ∧ 0 < i then .err i else .ok (acc + 2 ^ (7 * i) * b) (i + 1) := by
  have hk := (List.getElem?_eq_some_iff.mp h).1
  have e : row.drop k = b :: row.drop (k + 1) := by
    rw [List.drop_eq_getElem_cons hk]
    congr 1
    exact (List.getElem?_eq_some_iff.mp h).2
  rw [e]
  rfl
theorem rwa_out {row : List Nat} {k i acc : Nat} (h : row.length ≤ k) : rwa (row.drop k) i acc = .err i := by
  rw [List.drop_eq_nil_of_le h]
  rfl
theorem rwa_ok {l : List Nat} {i acc n c : Nat} (h : rwa l i acc = .ok n c) : c ≤ i + l.length := by
  induction l generalizing i acc with
  | nil => cases h
  | cons b r ih =>
    unfold rwa at h
    by_cases h1 : b > 127
    · rw [if_pos h1] at h
      have := ih h
      simp only [List.length_cons]
      omega
    · rw [if_neg h1] at h
      by_cases h2 : b = 0 ∧ 0 < i
      · rw [if_pos h2] at h; cases h
      · rw [if_neg h2] at h
        cases h
        simp only [List.length_cons]
        omega
end Rb
namespace Wq
open PySem PySem.Spec PyProof.Rows L2
open Rb (wh le un val Bp Wr rwa)
def spRY (C CE : Addr) : Sp := fun vs H Q E => ∃ (p q : Addr) (row : List Nat) (i : Nat), vs = [.ref p] ∧ RAt C H p q row i ∧ (∀ b H', row[i]? = some b → But p H H' → RAt C H' p q row (i + 1) → Q (nI b) H') ∧ (row.length ≤ i → ∀ d H', Err H H' d row.length → E (.ref CE) (some d) H')
def spRF (C CE : Addr) : Sp := fun vs H Q E => ∃ (p q : Addr) (row : List Nat) (i j : Nat), vs = [.ref p, nI j] ∧ RAt C H p q row i ∧ j ≤ row.length ∧ row.length ≤ 100000 ∧ (∀ b ∈ row, b < 256) ∧
  (∀ n c, rwa (row.drop j) 0 0 = .ok n c → ∀ t, H t = none → Q (.ref t) (upd H t (.tup [nI n, nI (j + c)]))) ∧ (∀ e, rwa (row.drop j) 0 0 = .err e → ∀ d H', Err H H' d (j + e) → E (.ref CE) (some d) H')
def spRW (C CE : Addr) : Sp := fun vs H Q E => ∃ (p q : Addr) (row : List Nat) (i : Nat), vs = [.ref p] ∧ RAt C H p q row i ∧ i ≤ row.length ∧ row.length ≤ 100000 ∧ (∀ b ∈ row, b < 256) ∧
  (∀ n c H', rwa (row.drop i) 0 0 = .ok n c → But p H H' → RAt C H' p q row (i + c) → Q (nI n) H') ∧ (∀ e, rwa (row.drop i) 0 0 = .err e → ∀ d H', Err H H' d (i + e) → E (.ref CE) (some d) H')
section
variable {P : Program} {w : World} {K : PySem.W.Frag} {mg : Str → Option Value} {base : Heap} {C CE fI : Addr}
theorem Err.out {H : Hp} {a d CE : Addr} {k : Nat} {E : XK} (h : ∀ d H', Err H H' d k → E (.ref CE) (some d) H') (ha : H a = none) (hd : (upd H a (exo a CE none)) d = none) (hda : d ≠ a) :
    E (.ref CE) (some d) (upd (del (upd (upd (upd H a (exo a CE none)) d (exd d [("place", nI k)])) a (exo a CE (some d))) a) d (.xd [("place", nI k)])) := h d _ (err_heap ha hd hda)
theorem ok_RB {f : Addr} {fd fdI : FuncData} (F : Fun K "_byte_at" "RowReader._byte_at" sRB f fd) (T : TxtR K mg C) (TT : Txt K mg) (TE : TxtE K mg CE fI) (GI : FnOk P w K mg base CX0 1 fI fdI ["self", "place"] (spBI CE)) (bI : Binds K fdI ["self", "place"] []) :
    FnOk P w K mg base (L2.CX P w) 3 f fd ["self", "place"] (spRB C CE) := by
  refine F.okX scRB (fun vs H Q E h => ?_) (fun cdv A outer s H vs Q E hr h => ?_)
  · obtain ⟨p, q, row, i, j, rfl, _⟩ := h
    rfl
  · obtain ⟨p, q, row, i, j, rfl, R, k1, k2⟩ := h
    obtain ⟨dx, hp⟩ := R.ob
    refine ⟨_, pss_cons (ps_if (pt_cmpR op_ge (pv 1) (pe_callB call_len_seq (by rfl) (by exact TT.len) PySem.boot_len (pa_cons (pe_fld (pv 0) rfl) pa_nil)) (nomark _))
      (pss_one (ps_raise rfl (takes_of rfl rfl rfl rfl) (pmk_oex TE.ox TE.iC TE.tI GI hr bI .nil pass0 rfl (by exact TE.gC) (by exact (pa_cons (pe_callB call_len_seq (by rfl) (by exact TT.len) PySem.boot_len (pa_cons (pe_fld (pv 0) rfl) pa_nil)) pa_nil))))) pss_nil)
      (pss_one (ps_ret (pe_ix ix_tup (pe_fld (pv 0) rfl) (pv 1) (fun _ _ => rfl)))), ?_⟩
    have hrow : SqT K H q (row.map nI) := .inl (.inl R.tp)
    refine ⟨_, rfl, _, rfl, p, C, dx, _, _, rfl, hp, T.cl, T.nR, rfl, q, _, rfl, .inr hrow, _, _, rfl, rfl, _, rfl, ?_⟩
    refine ite2 (fun hc => ?_) (fun hc => ?_)
    · have hc : row.length ≤ j := by
        have := of_decide_eq_true hc
        rw [List.length_map] at this
        omega
      refine ⟨_, rfl, p, C, dx, _, _, rfl, hp, T.cl, T.nR, rfl, q, _, rfl, .inr hrow, (by show 1 ≤ 1000; decide), fun a ha => ⟨a, _, rfl, upd_same, fun d hd hda => ⟨rfl, d, _, upd_same, by rw [upd_ne hda, upd_same], by rw [upd_ne hda] at hd; exact hd, ?_⟩⟩⟩
      have e := Err.out (k2 hc) ha hd hda
      rw [← List.length_map (f := nI) (as := row)] at e
      exact e
    · have hc : j < row.length := by
        have : ¬ (((row.map nI).length : Nat) : Int) ≤ (j : Int) := fun z => hc (decide_eq_true z)
        rw [List.length_map] at this
        omega
      refine ⟨_, rfl, p, C, dx, _, _, rfl, hp, T.cl, T.nR, rfl, _, rfl, q, _, _, nI row[j], rfl, rfl, hrow, ?_, ?_⟩
      · exact atI_nat (by rw [List.getElem?_map, List.getElem?_eq_getElem hc]; rfl)
      · exact k1 _ (List.getElem?_eq_getElem hc)
theorem ok_RY {f fB fG : Addr} {fd fdB fdG : FuncData} (F : Fun K "byte" "RowReader.byte" sRY f fd) (T : TxtR K mg C) (MB : Meth K C "_byte_at" fB) (GB : FnOk P w K mg base (L2.CX P w) 3 fB fdB ["self", "place"] (spRB C CE)) (bB : Binds K fdB ["self", "place"] [])
    (MG : Meth K C "_go_to" fG) (GG : FnOk P w K mg base CX0 1 fG fdG ["self", "place"] (spRG C)) (bG : Binds K fdG ["self", "place"] []) :
    FnOk P w K mg base (L2.CX P w) 4 f fd ["self"] (spRY C CE) := by
  refine F.okX scRY (fun vs H Q E h => ?_) (fun cdv A outer s H vs Q E hr h => ?_)
  · obtain ⟨p, q, row, i, rfl, _⟩ := h
    rfl
  · obtain ⟨p, q, row, i, rfl, R, k1, k2⟩ := h
    obtain ⟨dx, hp⟩ := R.ob
    refine ⟨_, pss_cons (ps_set (i := 1) scRY.nd rfl (Or.inl rfl) (pe_meth (pv 0) T.cl MB GB hr bB .nil (passes_call (takes_of rfl rfl rfl rfl) (fun _ _ _ _ h => h)) (pa_cons (pe_fld (pv 0) rfl) pa_nil)))
      (pss_cons (ps_expr (pe_meth (pv 0) T.cl MG GG (hr.mono (by decide)) bG .nil pass0 (pa_cons (pe_op nn_add (pe_fld (pv 0) rfl) pe_int) pa_nil)))
      (pss_one (ps_ret (pv 1)))), ?_⟩
    refine ⟨_, rfl, p, dx, _, rfl, hp, by rfl, _, rfl, p, C, dx, _, _, rfl, hp, T.cl, T.nA, rfl, p, q, row, i, i, rfl, R, fun b hb => ?_, fun hl d H' he => k2 hl d H' he⟩
    refine ⟨_, rfl, p, dx, _, rfl, hp, by rfl, _, rfl, p, C, dx, _, _, rfl, hp, T.cl, T.nA, rfl, i, 1, rfl, rfl, trivial, p, q, row, i, i + 1, rfl, R, fun H' B R' => ?_⟩
    exact ⟨_, rfl, k1 b H' hb B R'⟩
theorem ok_RF {f fB : Addr} {fd fdB fdI : FuncData} (F : Fun K "_whole_from" "RowReader._whole_from" sRF f fd) (T : TxtR K mg C) (TE : TxtE K mg CE fI) (GI : FnOk P w K mg base CX0 1 fI fdI ["self", "place"] (spBI CE)) (bI : Binds K fdI ["self", "place"] [])
    (MB : Meth K C "_byte_at" fB) (GB : FnOk P w K mg base (L2.CX P w) 3 fB fdB ["self", "place"] (spRB C CE)) (bB : Binds K fdB ["self", "place"] []) :
    FnOk P w K mg base (L2.CX P w) 4 f fd ["self", "place"] (spRF C CE) := by
  refine F.okX scRF (fun vs H Q E h => ?_) (fun cdv A outer s H vs Q E hr h => ?_)
  · obtain ⟨p, q, row, i, j, rfl, _⟩ := h
    rfl
  · obtain ⟨p, q, row, i, j, rfl, R, hj, hlr, hb8, k1, k2⟩ := h
    obtain ⟨dx, hp⟩ := R.ob
    refine ⟨_, pss_cons (ps_set (i := 2) scRF.nd rfl (Or.inl rfl) pe_int)
      (pss_cons (ps_set (i := 3) scRF.nd rfl (Or.inl rfl) pe_int)
      (pss_cons (ps_set (i := 4) scRF.nd rfl (Or.inl rfl) (pe_meth (pv 0) T.cl MB GB hr bB .nil (passes_call (takes_of rfl rfl rfl rfl) (fun _ _ _ _ h => h)) (pa_cons (pv 1) pa_nil)))
      (pss_cons (ps_while (passes_of rfl) (pt_cmpR op_gt (pv 4) pe_int (nomark _))
      (pss_cons (ps_aug (i := 2) scRF.nd rfl (Or.inl rfl) (pe_op nn_shl (pe_op nn_and (pv 4) pe_int) (pv 3)) ni_or)
      (pss_cons (ps_aug (i := 3) scRF.nd rfl (Or.inl rfl) pe_int ni_add)
      (pss_cons (ps_aug (i := 1) scRF.nd rfl (Or.inl rfl) pe_int ni_add)
      (pss_one (ps_set (i := 4) scRF.nd rfl (Or.inl rfl) (pe_meth (pv 0) T.cl MB GB hr bB .nil (passes_call (takes_of rfl rfl rfl rfl) (fun _ _ _ _ h => h)) (pa_cons (pv 1) pa_nil))))))))
      (pss_cons (ps_if (PW.pt (pw_and (pt_cmpR op_eq (pv 4) pe_int (nomark _)) (pw_and1 (pt_cmpR op_gt (pv 3) pe_int (nomark _)))))
      (pss_one (ps_raise rfl (takes_of rfl rfl rfl rfl) (pmk_oex TE.ox TE.iC TE.tI GI (hr.mono (by decide)) bI .nil pass0 rfl (by exact TE.gC) (by exact (pa_cons (pv 1) pa_nil)))))
      pss_nil)
      (pss_one (ps_ret (pe_tup (pa_cons (pe_op nn_or (pv 2) (pe_op nn_shl (pv 4) (pv 3))) (pa_cons (pe_op nn_add (pv 1) pe_int) pa_nil))))))))), ?_⟩
    refine ⟨_, rfl, p, dx, _, rfl, hp, by rfl, _, rfl, p, q, row, i, j, rfl, R, fun b hb => ?_, fun hl d H' he => ?_⟩
    · refine while_by (fun σ H' => H' = H ∧ ∃ (n b acc : Nat), σ = [some (.ref p), some (nI (j + n)), some (nI acc), some (nI (7 * n)), some (nI b)] ∧ row[j + n]? = some b ∧ acc < 2 ^ (7 * n) ∧ rwa (row.drop j) 0 0 = rwa (row.drop (j + n)) n acc)
        (fun σ H' => match σ with | [_, some (.int y), _, _, _] => row.length - y.toNat | _ => 0)
        ⟨rfl, 0, b, 0, rfl, hb, by decide, rfl⟩ ?_ ?_
      · rintro σ H' ⟨rfl, n, b, acc, rfl, hbn, hacc, e⟩
        have hb256 : b < 256 := hb8 b (List.mem_of_getElem? hbn)
        have hln := (List.getElem?_eq_some_iff.mp hbn).1
        rw [Rb.rwa_at hbn] at e
        refine ⟨_, rfl, _, _, rfl, rfl, _, rfl, ?_⟩
        refine ite2 (fun hc => ?_) (fun hc => ?_)
        · have hc : b > 127 := by have := of_decide_eq_true hc; omega
          rw [if_pos hc] at e
          have em : b &&& 127 = b % 128 := Nat.and_two_pow_sub_one_eq_mod b 7
          refine ⟨_, rfl, _, rfl, b, 127, rfl, rfl, trivial, _, rfl, b &&& 127, 7 * n, rfl, rfl, ⟨by omega, by omega⟩, acc, _, rfl, rfl, trivial, ?_⟩
          refine ⟨_, rfl, 7 * n, 7, rfl, rfl, trivial, _, rfl, j + n, 1, rfl, rfl, trivial, ?_⟩
          have eo : acc ||| (b &&& 127) <<< (7 * n) = acc + 2 ^ (7 * n) * (b % 128) := by rw [Rb.or_shl hacc, em]
          have hacc2 : acc + 2 ^ (7 * n) * (b % 128) < 2 ^ (7 * (n + 1)) := by
            rw [Nat.mul_succ, Nat.pow_add]
            have h1 : 2 ^ (7 * n) * (b % 128) + 2 ^ (7 * n) ≤ 2 ^ (7 * n) * 2 ^ 7 := by
              rw [← Nat.mul_succ]
              exact Nat.mul_le_mul_left _ (show b % 128 + 1 ≤ 2 ^ 7 by omega)
            omega
          refine ⟨_, rfl, p, dx, _, rfl, hp, by rfl, _, rfl, p, q, row, i, j + n + 1, rfl, R, fun b' hb' => ?_, fun hl d H2 he => ?_⟩
          · refine ⟨⟨rfl, n + 1, b', acc + 2 ^ (7 * n) * (b % 128), ?_, hb', hacc2, e⟩, ?_⟩
            · show [_, some (nI (j + n + 1)), some (nI (acc ||| (b &&& 127) <<< (7 * n))), some (nI (7 * n + 7)), _] = _
              rw [eo]
              rfl
            · show row.length - ((j + n + 1 : Nat) : Int).toNat < row.length - ((j + n : Nat) : Int).toNat
              omega
          · have el : row.length = j + (n + 1) := by omega
            have e' := e.trans (Rb.rwa_out (show row.length ≤ j + n + 1 by omega))
            rw [el] at he
            exact k2 _ e' d H2 he
        · have hc : ¬ b > 127 := fun z => hc (decide_eq_true (by omega))
          rw [if_neg hc] at e
          -- the last group
          have emit : ¬ (b = 0 ∧ 0 < n) → 2 ≤ sizeLine ∧ ∀ t, H' t = none → Q (.ref t) (upd H' t (.tup [nI (acc ||| b <<< (7 * n)), nI (j + n + 1)])) := by
            intro hz
            rw [if_neg hz] at e
            refine ⟨by decide, fun t ht => ?_⟩
            rw [Rb.or_shl hacc]
            exact k1 _ _ e t ht
          refine ⟨_, rfl, rfl, _, rfl, ?_⟩
          refine ite2 (fun h0 => ?_) (fun h0 => ?_)
          · have h0 : b = 0 := Int.ofNat_inj.mp (V.int.inj (of_decide_eq_true h0))
            refine ⟨_, rfl, _, _, rfl, rfl, _, rfl, ?_⟩
            refine ite2 (fun h1 => ?_) (fun h1 => ?_)
            · have h1 : 0 < n := by have := of_decide_eq_true h1; omega
              rw [if_pos ⟨h0, h1⟩] at e
              exact ⟨_, rfl, (by show 1 ≤ 1000; decide), fun a ha => ⟨a, _, rfl, upd_same, fun d hd hda => ⟨rfl, d, _, upd_same, by rw [upd_ne hda, upd_same], by rw [upd_ne hda] at hd; exact hd, Err.out (k2 _ e) ha hd hda⟩⟩⟩
            · have h1 : ¬ 0 < n := fun z => h1 (decide_eq_true (by omega))
              exact ⟨_, rfl, _, rfl, _, rfl, b, 7 * n, rfl, rfl, ⟨by omega, by omega⟩, acc, _, rfl, rfl, trivial, _, rfl, j + n, 1, rfl, rfl, trivial, emit (fun z => h1 z.2)⟩
          · have h0 : ¬ b = 0 := fun z => h0 (decide_eq_true (by rw [z]; rfl))
            exact ⟨_, rfl, _, rfl, _, rfl, b, 7 * n, rfl, rfl, ⟨by omega, by omega⟩, acc, _, rfl, rfl, trivial, _, rfl, j + n, 1, rfl, rfl, trivial, emit (fun z => h0 z.1)⟩
      · intro σ H' Q' Q'' hq h
        obtain ⟨v, h1, h⟩ := h
        obtain ⟨i, j, e1, e2, k', e3, h⟩ := h
        exact ⟨v, h1, i, j, e1, e2, k', e3, hq _ _ h⟩
    · have e : rwa (row.drop j) 0 0 = .err 0 := Rb.rwa_out hl
      have el : row.length = j + 0 := by omega
      rw [el] at he
      exact k2 0 e d H' he
theorem ok_RW {f fF fG : Addr} {fd fdF fdG : FuncData} (F : Fun K "whole" "RowReader.whole" sRW f fd) (T : TxtR K mg C) (MF : Meth K C "_whole_from" fF) (GF : FnOk P w K mg base (L2.CX P w) 4 fF fdF ["self", "place"] (spRF C CE)) (bF : Binds K fdF ["self", "place"] [])
    (MG : Meth K C "_go_to" fG) (GG : FnOk P w K mg base CX0 1 fG fdG ["self", "place"] (spRG C)) (bG : Binds K fdG ["self", "place"] []) :
    FnOk P w K mg base (L2.CX P w) 5 f fd ["self"] (spRW C CE) := by
  refine F.okX scRW (fun vs H Q E h => ?_) (fun cdv A outer s H vs Q E hr h => ?_)
  · obtain ⟨p, q, row, i, rfl, _⟩ := h
    rfl
  · obtain ⟨p, q, row, i, rfl, R, hi, hlr, hb8, k1, k2⟩ := h
    obtain ⟨dx, hp⟩ := R.ob
    refine ⟨_, pss_cons (ps_asg (pe_meth (pv 0) T.cl MF GF hr bF .nil (passes_call (takes_of rfl rfl rfl rfl) (fun _ _ _ _ h => h)) (pa_cons (pe_fld (pv 0) rfl) pa_nil)) (pg_tup (by rfl) (pgs_cons (pg_name (i := 1) scRW.nd rfl (Or.inl rfl)) (pgs_cons (pg_name (i := 2) scRW.nd rfl (Or.inl rfl)) pgs_nil))))
      (pss_cons (ps_expr (pe_meth (pv 0) T.cl MG GG (hr.mono (by decide)) bG .nil pass0 (pa_cons (pv 2) pa_nil)))
      (pss_one (ps_ret (pv 1)))), ?_⟩
    refine ⟨_, rfl, p, dx, _, rfl, hp, by rfl, _, rfl, p, C, dx, _, _, rfl, hp, T.cl, T.nA, rfl, p, q, row, i, i, rfl, R, hi, hlr, hb8, fun n c e t ht => ?_, fun e he d H' hd => k2 e he d H' hd⟩
    refine ⟨t, _, rfl, .inl (.inl upd_same), rfl, _, _, rfl, _, _, rfl, rfl, ?_⟩
    have s1 := Same.new (o := .tup [nI n, nI (i + c)]) ht
    have R1 := R.same s1
    refine ⟨_, rfl, p, dx, _, rfl, s1 _ _ hp, by rfl, _, rfl, p, q, row, i, i + c, rfl, R1, fun H' B R' => ?_⟩
    exact ⟨_, rfl, k1 n c H' e ((But.same s1).trans B) R'⟩
end
end Wq
set_option Elab.async false
set_option linter.all false
set_option maxRecDepth 100000
set_option maxHeartbeats 2000000
set_option exponentiation.threshold 5000
namespace Rb
inductive Res
  | err (p : Nat)
  | whole (n a : Nat)
  | text (t : List Nat) (a : Nat)
  | nums (ns : List Nat) (a : Nat)
  | bytes (bs : List Nat) (a : Nat)
def fb : List Nat → Option Nat
  | [] => none
  | b :: r => if b > 94 then some 0 else (fb r).map (· + 1)
theorem fb_none {l : List Nat} (h : ∀ j b : Nat, l[j]? = some b → b ≤ 94) : fb l = none := by
  induction l with
  | nil => rfl
  | cons b r ih =>
    unfold fb
    rw [if_neg (by have := h 0 b rfl; omega), ih fun j c hc => h (j + 1) c hc]
    rfl
theorem fb_some {l : List Nat} {i b : Nat} (hi : l[i]? = some b) (hb : b > 94) (h : ∀ j c : Nat, j < i → l[j]? = some c → c ≤ 94) : fb l = some i := by
  induction l generalizing i with
  | nil => cases hi
  | cons a r ih =>
    unfold fb
    cases i with
    | zero =>
      obtain rfl := Option.some.inj hi
      rw [if_pos hb]
    | succ i =>
      rw [if_neg (by have := h 0 a (by omega) rfl; omega), ih hi fun j c hj hc => h (j + 1) c (by omega) hc]
      rfl
def rdWhole (row : List Nat) (i : Nat) : Res := match rwa (row.drop i) 0 0 with
  | .err e => .err (i + e)
  | .ok n c => .whole n (i + c)
def rdSigns (row : List Nat) (i : Nat) : Res := match rwa (row.drop i) 0 0 with
  | .err e => .err (i + e)
  | .ok n c => match fb ((row.drop (i + c)).take n) with
    | some k => .err (i + c + k)
    | none => if row.length < i + c + n then .err row.length else .text ((row.drop (i + c)).take n) (i + c + n)
def many (m w : Nat) : Nat := (m * w + 7) / 8
def cutN (U w m : Nat) : List Nat := (List.range m).map fun j => U / 2 ^ (w * j) % 2 ^ w
def rdBits (row : List Nat) (i m w : Nat) : Res :=
  if row.length < i + many m w then .err row.length else
    if un ((row.drop i).take (many m w)) / 2 ^ (w * m) > 0 then .err (i + many m w - 1) else .nums (cutN (un ((row.drop i).take (many m w))) w m) (i + many m w)
def rdRaw (row : List Nat) (i m : Nat) : Res := if row.length < i + m then .err row.length else .bytes ((row.drop i).take m) (i + m)
def rd (row : List Nat) (i : Nat) : Wr → Res
  | .whole _ => rdWhole row i
  | .signs _ => rdSigns row i
  | .bits ns w => rdBits row i ns.length w
  | .raw bs => rdRaw row i bs.length
theorem low_part {U a b w : Nat} (h : b + w ≤ a) : U % 2 ^ a / 2 ^ b % 2 ^ w = U / 2 ^ b % 2 ^ w := by
  have e : 2 ^ a = 2 ^ b * 2 ^ (a - b) := by rw [← Nat.pow_add]; congr 1; omega
  rw [e, Nat.mod_mul_right_div_self, Nat.mod_mod_of_dvd]
  exact Nat.pow_dvd_pow 2 (by omega)
theorem low_next {U k b m : Nat} (h : m ≤ 8 * k) (hb : U / 2 ^ (8 * k) % 256 = b) : U % 2 ^ (8 * (k + 1)) / 2 ^ m = U % 2 ^ (8 * k) / 2 ^ m ||| b <<< (8 * k - m) := by
  have e1 : U % 2 ^ (8 * (k + 1)) = U % 2 ^ (8 * k) + 2 ^ (8 * k) * b := by
    have : 2 ^ (8 * (k + 1)) = 2 ^ (8 * k) * 256 := by rw [Nat.mul_succ, Nat.pow_add]
    rw [this, Nat.mod_mul, hb]
  have e2 : 2 ^ (8 * k) = 2 ^ m * 2 ^ (8 * k - m) := by rw [← Nat.pow_add]; congr 1; omega
  have hlt : U % 2 ^ (8 * k) / 2 ^ m < 2 ^ (8 * k - m) := by
    refine Nat.div_lt_of_lt_mul ?_
    rw [← e2]
    exact Nat.mod_lt _ (Nat.pow_pos (by decide))
  rw [or_shl hlt, e1]
  have e3 : 2 ^ (8 * k) * b = 2 ^ m * (2 ^ (8 * k - m) * b) := by rw [e2, Nat.mul_assoc]
  rw [e3, Nat.add_mul_div_left _ _ (Nat.pow_pos (by decide))]
theorem un_at {l : List Nat} {k b : Nat} (h : ∀ b ∈ l, b < 256) (hk : l[k]? = some b) : un l / 2 ^ (8 * k) % 256 = b := by
  have e := le_un h
  have hl := (List.getElem?_eq_some_iff.mp hk).1
  have e2 := le_at (v := un l) hl
  rw [e, hk] at e2
  rw [← p256]
  exact (Option.some.inj e2).symm
end Rb
namespace Wq
open PySem PySem.Spec PyProof.Rows L2
open Rb (wh le un val Bp Wr rwa fb rdWhole rdSigns rdBits rdRaw rd Res many cutN)
def spRR (C CE : Addr) : Sp := fun vs H Q E => ∃ (p q : Addr) (row : List Nat) (i m : Nat), vs = [.ref p, nI m] ∧ RAt C H p q row i ∧ i ≤ row.length ∧ row.length ≤ 100000 ∧
  (∀ bs a l H', rdRaw row i m = .bytes bs a → But p H H' → RAt C H' p q row a → H' l = some (.tup (bs.map nI)) → Q (.ref l) H') ∧ (∀ e, rdRaw row i m = .err e → ∀ d H', Err H H' d e → E (.ref CE) (some d) H')
def spRS (C CE : Addr) : Sp := fun vs H Q E => ∃ (p q : Addr) (row : List Nat) (i : Nat), vs = [.ref p] ∧ RAt C H p q row i ∧ i ≤ row.length ∧ row.length ≤ 100000 ∧ (∀ b ∈ row, b < 256) ∧
  (∀ t a H', rdSigns row i = .text t a → But p H H' → RAt C H' p q row a → Q (.str (txt t)) H') ∧ (∀ e, rdSigns row i = .err e → ∀ d H', Err H H' d e → E (.ref CE) (some d) H')
def spRN (C CE : Addr) : Sp := fun vs H Q E => ∃ (p q : Addr) (row : List Nat) (i m w : Nat), vs = [.ref p, nI m, nI w, nI (i + many m w)] ∧ RAt C H p q row i ∧ i + many m w ≤ row.length ∧ row.length ≤ 100000 ∧ (∀ b ∈ row, b < 256) ∧ m ≤ 1000 ∧ w ≤ 64 ∧
  (un ((row.drop i).take (many m w)) / 2 ^ (w * m) = 0 → ∀ l H', H l = none → Same H H' → H' l = some (.lst ((cutN (un ((row.drop i).take (many m w))) w m).map nI)) → Q (.ref l) H') ∧
  (un ((row.drop i).take (many m w)) / 2 ^ (w * m) > 0 → ∀ d H', Err H H' d (i + many m w - 1) → E (.ref CE) (some d) H')
def spRT (C CE : Addr) : Sp := fun vs H Q E => ∃ (p q : Addr) (row : List Nat) (i m w : Nat), vs = [.ref p, nI m, nI w] ∧ RAt C H p q row i ∧ i ≤ row.length ∧ row.length ≤ 100000 ∧ (∀ b ∈ row, b < 256) ∧ m ≤ 1000 ∧ w ≤ 64 ∧
  (∀ ns a l H', rdBits row i m w = .nums ns a → But p H H' → RAt C H' p q row a → H' l = some (.lst (ns.map nI)) → Q (.ref l) H') ∧ (∀ e, rdBits row i m w = .err e → ∀ d H', Err H H' d e → E (.ref CE) (some d) H')
section
variable {P : Program} {w : World} {K : PySem.W.Frag} {mg : Str → Option Value} {base : Heap} {C CE fI : Addr}
theorem cutV_nat (row : List Nat) (i m : Nat) (h : i + m ≤ row.length) : cutV (row.map nI) (some ((i : Nat) : Int)) (some ((i + m : Nat) : Int)) = ((row.drop i).take m).map nI := by
  unfold cutV
  rw [HT.sIx_nat, HT.sIx_nat, List.length_map, Nat.min_eq_left (by omega), Nat.min_eq_left (by omega), Nat.add_sub_cancel_left, ← List.map_drop, ← List.map_take]
/-- a slice of the row, which may be the whole of it -/
theorem slA_row {H : Hp} {q : Addr} {row : List Nat} {i m : Nat} {Q : VK} (hq : H q = some (.tup (row.map nI))) (h : i + m ≤ row.length)
    (k : ∀ l H', Same H H' → H' l = some (.tup (((row.drop i).take m).map nI)) → Q (.ref l) H') : rSlA K (.ref q) (some ((i : Nat) : Int)) (some ((i + m : Nat) : Int)) H Q := by
  refine ⟨q, _, rfl, .inl (.inl hq), fun hw => ?_, fun _ l hl => ?_⟩
  · rw [HT.sIx_nat, HT.sIx_nat, List.length_map, Nat.min_eq_left (by omega), Nat.min_eq_left (by omega)] at hw
    refine k q H (Same.refl H) ?_
    have e1 : i = 0 := hw.1
    have e2 : i + m = row.length := hw.2
    rw [hq, e1, List.drop_zero, List.take_of_length_le (by omega)]
  · rw [cutV_nat row i m h]
    exact k l _ (Same.new hl) upd_same
theorem ok_RR {f fG : Addr} {fd fdI fdG : FuncData} (F : Fun K "raw" "RowReader.raw" sRR f fd) (T : TxtR K mg C) (TT : Txt K mg) (TE : TxtE K mg CE fI) (GI : FnOk P w K mg base CX0 1 fI fdI ["self", "place"] (spBI CE)) (bI : Binds K fdI ["self", "place"] [])
    (MG : Meth K C "_go_to" fG) (GG : FnOk P w K mg base CX0 1 fG fdG ["self", "place"] (spRG C)) (bG : Binds K fdG ["self", "place"] []) :
    FnOk P w K mg base (L2.CX P w) 3 f fd ["self", "many"] (spRR C CE) := by
  refine F.okX scRR (fun vs H Q E h => ?_) (fun cdv A outer s H vs Q E hr h => ?_)
  · obtain ⟨p, q, row, i, m, rfl, _⟩ := h
    rfl
  · obtain ⟨p, q, row, i, m, rfl, R, hi, hlr, k1, k2⟩ := h
    obtain ⟨dx, hp⟩ := R.ob
    refine ⟨_, pss_cons (ps_set (i := 2) scRR.nd rfl (Or.inl rfl) (pe_op nn_add (pe_fld (pv 0) rfl) (pv 1)))
      (pss_cons (ps_if (pt_cmpR op_gt (pv 2) (pe_callB call_len_seq (by rfl) (by exact TT.len) PySem.boot_len (pa_cons (pe_fld (pv 0) rfl) pa_nil)) (nomark _))
      (pss_one (ps_raise rfl (takes_of rfl rfl rfl rfl) (pmk_oex TE.ox TE.iC TE.tI GI hr bI .nil pass0 rfl (by exact TE.gC) (by exact (pa_cons (pe_callB call_len_seq (by rfl) (by exact TT.len) PySem.boot_len (pa_cons (pe_fld (pv 0) rfl) pa_nil)) pa_nil)))))
      pss_nil)
      (pss_cons (ps_set (i := 3) scRR.nd rfl (Or.inl rfl) (pe_slice sl_tupA (pe_fld (pv 0) rfl) (po_some (pe_fld (pv 0) rfl)) (po_some (pv 2))))
      (pss_cons (ps_expr (pe_meth (pv 0) T.cl MG GG (hr.mono (by decide)) bG .nil pass0 (pa_cons (pv 2) pa_nil)))
      (pss_one (ps_ret (pv 3)))))), ?_⟩
    have hrow : SqT K H q (row.map nI) := .inl (.inl R.tp)
    refine ⟨_, rfl, p, C, dx, _, _, rfl, hp, T.cl, T.nA, rfl, _, rfl, i, m, rfl, rfl, trivial, ?_⟩
    refine ⟨_, rfl, _, rfl, p, C, dx, _, _, rfl, hp, T.cl, T.nR, rfl, q, _, rfl, .inr hrow, _, _, rfl, rfl, _, rfl, ?_⟩
    refine ite2 (fun hc => ?_) (fun hc => ?_)
    · have h2 : ((row.length : Nat) : Int) < ((i + m : Nat) : Int) := by
        have := of_decide_eq_true hc
        rw [List.length_map] at this
        exact this
      have hc : row.length < i + m := by omega
      have e0 : rdRaw row i m = .err row.length := if_pos hc
      refine ⟨_, rfl, p, C, dx, _, _, rfl, hp, T.cl, T.nR, rfl, q, _, rfl, .inr hrow, (by show 1 ≤ 1000; decide), fun a ha => ⟨a, _, rfl, upd_same, fun d hd hda => ⟨rfl, d, _, upd_same, by rw [upd_ne hda, upd_same], by rw [upd_ne hda] at hd; exact hd, ?_⟩⟩⟩
      have e := Err.out (k2 _ e0) ha hd hda
      rw [← List.length_map (f := nI) (as := row)] at e
      exact e
    · have hc : ¬ row.length < i + m := by
        intro z
        refine hc (decide_eq_true ?_)
        rw [List.length_map]
        show ((row.length : Nat) : Int) < ((i + m : Nat) : Int)
        omega
      have e0 : rdRaw row i m = .bytes ((row.drop i).take m) (i + m) := if_neg hc
      refine ⟨_, rfl, p, C, dx, _, _, rfl, hp, T.cl, T.nR, rfl, ?_⟩
      refine ⟨_, rfl, p, C, dx, _, _, rfl, hp, T.cl, T.nA, rfl, _, rfl, _, rfl, _, rfl, ?_⟩
      refine slA_row R.tp (by omega) fun l H1 s1 hl => ?_
      have R1 := R.same s1
      refine ⟨_, rfl, p, dx, _, rfl, s1 _ _ hp, by rfl, _, rfl, p, q, row, i, i + m, rfl, R1, fun H' B R' => ?_⟩
      have nlp : l ≠ p := ne_of hl (s1 _ _ hp) (by intro z; cases z)
      exact ⟨_, rfl, k1 _ _ l H' e0 ((But.same s1).trans B) R' (B _ _ hl nlp)⟩
theorem flat_rep (m : Nat) (v : V) : (List.replicate m [v]).flatten = List.replicate m v := by
  induction m with
  | zero => rfl
  | succ n ih =>
    rw [List.replicate_succ, List.flatten_cons, ih]
    rfl
theorem cutN_snoc (U w m : Nat) : cutN U w (m + 1) = cutN U w m ++ [U / 2 ^ (w * m) % 2 ^ w] := by
  unfold cutN
  rw [List.range_succ, List.map_append]
  rfl
theorem cutN_len (U w m : Nat) : (cutN U w m).length = m := by simp [cutN]
theorem ok_RN {f : Addr} {fd fdI : FuncData} (F : Fun K "_numbers" "RowReader._numbers" sRN f fd) (T : TxtR K mg C) (TT : Txt K mg) (TE : TxtE K mg CE fI) (GI : FnOk P w K mg base CX0 1 fI fdI ["self", "place"] (spBI CE)) (bI : Binds K fdI ["self", "place"] []) :
    FnOk P w K mg base (L2.CX P w) 3 f fd ["self", "many", "width", "end"] (spRN C CE) := by
  refine F.okX scRN (fun vs H Q E h => ?_) (fun cdv A outer s H vs Q E hr h => ?_)
  · obtain ⟨p, q, row, i, m, w', rfl, _⟩ := h
    rfl
  · obtain ⟨p, q, row, i, m, w', rfl, R, hend, hlr, hb8, hm, hw, k1, k2⟩ := h
    obtain ⟨dx, hp⟩ := R.ob
    refine ⟨_, pss_cons (ps_if (pt_cmpR op_eq (pv 2) pe_int (nomark _))
(pss_one (ps_ret (pe_op op_rep (pe_lst (pa_cons pe_int pa_nil)) (pv 1))))
pss_nil)
(pss_cons (ps_set (i := 4) scRN.nd rfl (Or.inl rfl) (pe_lst pa_nil))
(pss_cons (ps_set (i := 5) scRN.nd rfl (Or.inl rfl) pe_int)
(pss_cons (ps_set (i := 6) scRN.nd rfl (Or.inl rfl) pe_int)
(pss_cons (ps_for (passes_of rfl) rfl (pi_range2 rfl (by exact TT.range) (pa_cons (pe_fld (pv 0) rfl) (pa_cons (pv 3) pa_nil))) (pg_name (i := 7) scRN.nd rfl (Or.inl rfl))
(pss_cons (ps_aug (i := 5) scRN.nd rfl (Or.inl rfl) (pe_op nn_shl (pe_ix ix_tup (pe_fld (pv 0) rfl) (pv 7) (fun _ _ => rfl)) (pv 6)) ni_or)
(pss_cons (ps_aug (i := 6) scRN.nd rfl (Or.inl rfl) pe_int ni_add)
(pss_one (ps_while (passes_of rfl) (PW.pt (pw_and (pt_cmpR op_ge (pv 6) (pv 2) (nomark _)) (pw_and1 (pt_cmpR op_lt (pe_callB call_len_seq (by rfl) (by exact TT.len) PySem.boot_len (pa_cons (pv 4) pa_nil)) (pv 1) (nomark _)))))
(pss_cons (ps_expr (pe_bm PySem.F.plainAttrs_list PySem.F.slot_list_append PySem.F.type_list_append mt_append (pv 4) (pa_cons (pe_op nn_and (pv 5) (pe_op op_sub (pe_op nn_shl pe_int (pv 2)) pe_int)) pa_nil)))
(pss_cons (ps_aug (i := 5) scRN.nd rfl (Or.inl rfl) (pv 2) ni_shr)
(pss_one (ps_aug (i := 6) scRN.nd rfl (Or.inl rfl) (pv 2) ni_sub)))))))))
(pss_cons (ps_if (pt_cmpR op_gt (pv 5) pe_int (nomark _))
(pss_one (ps_raise rfl (takes_of rfl rfl rfl rfl) (pmk_oex TE.ox TE.iC TE.tI GI hr bI .nil pass0 rfl (by exact TE.gC) (by exact (pa_cons (pe_op op_sub (pv 3) pe_int) pa_nil)))))
pss_nil)
(pss_one (ps_ret (pv 4)))))))), ?_⟩
    have hrow : SqT K H q (row.map nI) := .inl (.inl R.tp)
    have hbl : ∀ b ∈ (row.drop i).take (many m w'), b < 256 := fun b hb => hb8 b (List.mem_of_mem_drop (List.mem_of_mem_take hb))
    have hll : ((row.drop i).take (many m w')).length = many m w' := by rw [List.length_take, List.length_drop]; omega
    obtain ⟨U, eU⟩ : ∃ U, U = un ((row.drop i).take (many m w')) := ⟨_, rfl⟩
    have hUlt : U < 2 ^ (8 * many m w') := by
      have := Rb.un_lt hbl
      rw [hll, Rb.p256, ← eU] at this
      exact this
    have hbyte : ∀ k, k < many m w' → ∃ b, row[i + k]? = some b ∧ U / 2 ^ (8 * k) % 256 = b ∧ b < 256 := by
      intro k hk
      have hki : i + k < row.length := by omega
      refine ⟨row[i + k], List.getElem?_eq_getElem hki, ?_, hb8 _ (List.getElem_mem hki)⟩
      rw [eU]
      refine Rb.un_at hbl ?_
      rw [List.getElem?_take, if_pos hk, List.getElem?_drop, List.getElem?_eq_getElem hki]
    rw [← eU] at k1 k2
    refine ⟨_, rfl, rfl, _, rfl, ?_⟩
    refine ite2 (fun hc => ?_) (fun hc => ?_)
    · -- width 0
      have h0 : w' = 0 := Int.ofNat_inj.mp (V.int.inj (of_decide_eq_true hc))
      subst h0
      have hU0 : U = 0 := by
        have e : many m 0 = 0 := by unfold many; rw [Nat.mul_zero]
        rw [e, Nat.mul_zero, Nat.pow_zero] at hUlt
        omega
      refine ⟨by show 1 ≤ sizeLine; decide, fun l hl => ⟨_, rfl, l, _, _, rfl, rfl, upd_same, by omega, by omega, ?_, fun l' hl' => ?_⟩⟩
      · show 1 * (m : Int).toNat ≤ sizeLine
        rw [sizeLine_eq]
        omega
      · have s1 := Same.new (o := .lst [V.int 0]) hl
        refine k1 (by rw [hU0]; exact Nat.zero_div _) l' _ (s1.free hl') (s1.trans (Same.new hl')) ?_
        rw [upd_same, Int.toNat_natCast]
        refine congrArg (fun l => some (HO.lst l)) ?_
        apply List.ext_getElem?
        intro j
        unfold cutN
        rw [List.map_map]
        by_cases hj : j < m
        · have e1 : ((List.replicate m [V.int 0]).flatten)[j]? = some (V.int 0) := by
            rw [flat_rep, List.getElem?_replicate, if_pos hj]
          rw [e1, List.getElem?_map, List.getElem?_range hj]
          show _ = some (nI (U / 2 ^ (0 * j) % 2 ^ 0))
          rw [Nat.pow_zero, Nat.mod_one]
          rfl
        · rw [List.getElem?_eq_none (by simp; omega), List.getElem?_eq_none (by simp; omega)]
    have hw0 : 0 < w' := by
      rcases Nat.eq_zero_or_pos w' with h | h
      · exact absurd (decide_eq_true (by rw [h]; rfl)) hc
      · exact h
    refine ⟨Nat.zero_le _, fun l hl => ?_⟩
    have s0 := Same.new (o := .lst []) hl
    have hmw : w' * m ≤ 8 * many m w' := by
      unfold many
      rw [Nat.mul_comm]
      omega
    have hp0 := s0 _ _ hp
    have eti : (((i + many m w' : Nat) : Int) - (i : Int)).toNat = many m w' := by omega
    have hm10 : 8 * many m w' ≤ 100000 * 8 := by omega
    refine ⟨_, rfl, p, C, dx, _, _, rfl, hp0, T.cl, T.nA, rfl, _, rfl, _, _, rfl, ⟨by omega, by omega, by omega, by omega⟩, for_range (fun k σ G => ∃ (mm : Nat) (x7 : Option V), σ = [some (.ref p), some (nI m), some (nI w'), some (nI (i + many m w')), some (.ref l), some (nI (U % 2 ^ (8 * k) / 2 ^ (w' * mm))), some (nI (8 * k - w' * mm)), x7] ∧ Same H G ∧ G l = some (.lst ((cutN U w' mm).map nI)) ∧ mm ≤ m ∧ w' * mm ≤ 8 * k ∧ (8 * k - w' * mm < w' ∨ mm = m))
      ⟨0, none, ?_, s0, upd_same, Nat.zero_le _, by omega, .inl (by omega)⟩ ?_ ?_⟩
    · rw [Nat.mul_zero, Nat.mul_zero, Nat.pow_zero, Nat.mod_one]
      rfl
    · rintro k σ G hk ⟨mm, x7, rfl, sm, hl2, hmm, hwm, _⟩
      have hk : k < many m w' := by omega
      obtain ⟨b, hbk, hbU, hb256⟩ := hbyte k hk
      have hpG := sm _ _ hp
      have hrG : SqT K G q (row.map nI) := .inl (.inl (sm _ _ R.tp))
      have hat : atI (row.map nI) ((i : Int) + (k : Int)) = some (nI b) := by
        have e : (i : Int) + (k : Int) = ((i + k : Nat) : Int) := by omega
        rw [e]
        exact atI_nat (by rw [List.getElem?_map, hbk]; rfl)
      refine ⟨_, rfl, _, rfl, p, C, dx, _, _, rfl, hpG, T.cl, T.nR, rfl, _, rfl, q, _, _, nI b, rfl, rfl, hrG, hat, _, rfl, b, 8 * k - w' * mm, rfl, rfl, ⟨by omega, by omega⟩, _, _, rfl, rfl, trivial, ?_⟩
      refine ⟨_, rfl, 8 * k - w' * mm, 8, rfl, rfl, trivial, ?_⟩
      refine while_by (fun σ G => ∃ (mm : Nat), σ = [some (.ref p), some (nI m), some (nI w'), some (nI (i + many m w')), some (.ref l), some (nI (U % 2 ^ (8 * (k + 1)) / 2 ^ (w' * mm))), some (nI (8 * (k + 1) - w' * mm)), some (.int ((i : Int) + (k : Int)))] ∧ Same H G ∧ G l = some (.lst ((cutN U w' mm).map nI)) ∧ mm ≤ m ∧ w' * mm ≤ 8 * (k + 1))
        (fun σ G => match σ with | [_, _, _, _, _, _, some (.int y), _] => y.toNat | _ => 0)
        ⟨mm, ?_, sm, hl2, hmm, by omega⟩ ?_ ?_
      · have e1 := Rb.low_next (m := w' * mm) hwm hbU
        have e2 : 8 * k - w' * mm + 8 = 8 * (k + 1) - w' * mm := by omega
        rw [e1, ← e2]
        rfl
      · rintro σ G2 ⟨mm, rfl, sm2, hl3, hmm2, hwm2⟩
        refine ⟨_, rfl, _, rfl, _, _, rfl, rfl, _, rfl, ?_⟩
        refine ite2 (fun hc => ?_) (fun hc => ?_)
        · have hc : w' ≤ 8 * (k + 1) - w' * mm := by have := of_decide_eq_true hc; omega
          refine ⟨_, rfl, l, _, rfl, .inl (.inl (.inl hl3)), _, rfl, _, _, rfl, rfl, _, rfl, ?_⟩
          refine ite2 (fun hd => ?_) (fun hd => ?_)
          · have hd : mm < m := by
              have := of_decide_eq_true hd
              rw [List.length_map, cutN_len] at this
              omega
            have hms : w' * (mm + 1) ≤ 8 * (k + 1) := by rw [Nat.mul_succ]; omega
            have emask : V.int (((1 <<< w' : Nat) : Int) - 1) = nI (2 ^ w' - 1) := by
              have h1 : 1 <<< w' = 2 ^ w' := by rw [Nat.shiftLeft_eq, Nat.one_mul]
              have h2 : 0 < 2 ^ w' := Nat.pow_pos (by decide)
              rw [h1]
              exact congrArg V.int (by omega)
            refine ⟨_, rfl, .inl ⟨rfl, _, .inl (.inl hl3)⟩, _, rfl, _, rfl, 1, w', rfl, rfl, ⟨by decide, by omega⟩, _, _, rfl, rfl, _, 2 ^ w' - 1, rfl, emask, trivial, l, _, _, rfl, rfl, hl3, ?_, ?_⟩
            · rw [List.length_map, cutN_len]
              exact small1000 (by omega)
            refine ⟨_, rfl, _, rfl, _, w', rfl, rfl, trivial, _, rfl, _, rfl, 8 * (k + 1) - w' * mm, w', rfl, rfl, hc, ?_⟩
            refine ⟨⟨mm + 1, ?_, Same.put sm2 hl, ?_, hd, hms⟩, ?_⟩
            · have e1 : (U % 2 ^ (8 * (k + 1)) / 2 ^ (w' * mm)) >>> w' = U % 2 ^ (8 * (k + 1)) / 2 ^ (w' * (mm + 1)) := by
                rw [Nat.shiftRight_eq_div_pow, Nat.div_div_eq_div_mul, ← Nat.pow_add]
                rfl
              have h9 : w' * (mm + 1) = w' * mm + w' := Nat.mul_succ _ _
              have e2 : 8 * (k + 1) - w' * mm - w' = 8 * (k + 1) - w' * (mm + 1) := by omega
              rw [← e1, ← e2]
              rfl
            · have e3 : (U % 2 ^ (8 * (k + 1)) / 2 ^ (w' * mm)) &&& (2 ^ w' - 1) = U / 2 ^ (w' * mm) % 2 ^ w' := by
                rw [Nat.and_two_pow_sub_one_eq_mod, Rb.low_part (by omega)]
              rw [upd_same, cutN_snoc, List.map_append, ← e3]
              rfl
            · show ((8 * (k + 1) - w' * mm - w' : Nat) : Int).toNat < ((8 * (k + 1) - w' * mm : Nat) : Int).toNat
              omega
          · have hd : mm = m := by
              have : ¬ ((((cutN U w' mm).map nI).length : Nat) : Int) < (m : Int) := fun z => hd (decide_eq_true z)
              rw [List.length_map, cutN_len] at this
              omega
            exact ⟨mm, _, rfl, sm2, hl3, hmm2, hwm2, .inr hd⟩
        · have hc : 8 * (k + 1) - w' * mm < w' := by
            have : ¬ ((w' : Nat) : Int) ≤ ((8 * (k + 1) - w' * mm : Nat) : Int) := fun z => hc (decide_eq_true z)
            omega
          exact iteF ⟨mm, _, rfl, sm2, hl3, hmm2, hwm2, .inl hc⟩
      · intro σ H' Q' Q'' hq h
        obtain ⟨v, h1, u, h2, i, j, e1, e2, k', e3, h⟩ := h
        refine ⟨v, h1, u, h2, i, j, e1, e2, k', e3, ?_⟩
        by_cases hk' : k' = true
        · rw [if_pos hk'] at h ⊢
          obtain ⟨a1, a2, a3, a4, a5, a6, a7, a8, a9, b1, b2, b3, b4, b5, h⟩ := h
          exact ⟨a1, a2, a3, a4, a5, a6, a7, a8, a9, b1, b2, b3, b4, b5, hq _ _ h⟩
        · rw [if_neg hk'] at h ⊢
          exact hq _ _ h
    · rintro σ G ⟨mm, x7, rfl, sm, hl2, hmm, hwm, hdis⟩
      rw [eti] at hwm hdis
      have emm : mm = m := by
        rcases hdis with h | h
        · by_cases hlt : mm < m
          · have h3 : w' * (mm + 1) ≤ w' * m := Nat.mul_le_mul_left _ hlt
            rw [Nat.mul_succ] at h3
            omega
          · omega
        · exact h
      subst emm
      have eH : U % 2 ^ (8 * (((i + many mm w' : Nat) : Int) - (i : Int)).toNat) / 2 ^ (w' * mm) = U / 2 ^ (w' * mm) := by rw [eti, Nat.mod_eq_of_lt hUlt]
      rw [eH]
      refine ⟨_, rfl, _, _, rfl, rfl, _, rfl, ?_⟩
      refine ite2 (fun hc => ?_) (fun hc => ?_)
      · have hc : U / 2 ^ (w' * mm) > 0 := by
          have := of_decide_eq_true hc
          generalize U / 2 ^ (w' * mm) = Z at *
          omega
        have hpos : 0 < many mm w' := by
          rcases Nat.eq_zero_or_pos (many mm w') with h | h
          · rw [h, Nat.mul_zero, Nat.pow_zero] at hUlt
            have : U = 0 := by omega
            rw [this, Nat.zero_div] at hc
            omega
          · exact h
        have ev : V.int (((i + many mm w' : Nat) : Int) - 1) = nI (i + many mm w' - 1) := congrArg V.int (by omega)
        refine ⟨_, rfl, _, _, rfl, rfl, (by show 1 ≤ 1000; decide), fun a ha => ⟨a, _, rfl, upd_same, fun d hd hda => ⟨rfl, d, _, upd_same, by rw [upd_ne hda, upd_same], by rw [upd_ne hda] at hd; exact hd, ?_⟩⟩⟩
        have e := Err.out (fun d H' he => k2 hc d H' ⟨sm.trans he.1, sm.free he.2.1, he.2.2⟩) ha hd hda
        rw [← ev] at e
        exact e
      · have hc : U / 2 ^ (w' * mm) = 0 := by
          have : ¬ (0 : Int) < ((U / 2 ^ (w' * mm) : Nat) : Int) := fun z => hc (decide_eq_true z)
          generalize U / 2 ^ (w' * mm) = Z at *
          omega
        exact ⟨_, rfl, k1 hc l G hl sm hl2⟩
end
end Wq
set_option Elab.async false
set_option linter.all false
set_option maxRecDepth 100000
set_option maxHeartbeats 2000000
set_option exponentiation.threshold 5000
namespace Wq
open PySem PySem.Spec PyProof.Rows L2
open Rb (wh le un val Bp Wr rwa fb rdWhole rdSigns rdBits rdRaw rd Res many cutN)
section
variable {P : Program} {w : World} {K : PySem.W.Frag} {mg : Str → Option Value} {base : Heap} {C CE fI : Addr}
theorem ok_RT {f fN fG : Addr} {fd fdI fdN fdG : FuncData} (F : Fun K "bits" "RowReader.bits" sRT f fd) (T : TxtR K mg C) (TT : Txt K mg) (TE : TxtE K mg CE fI) (GI : FnOk P w K mg base CX0 1 fI fdI ["self", "place"] (spBI CE)) (bI : Binds K fdI ["self", "place"] [])
    (MN : Meth K C "_numbers" fN) (GN : FnOk P w K mg base (L2.CX P w) 3 fN fdN ["self", "many", "width", "end"] (spRN C CE)) (bN : Binds K fdN ["self", "many", "width", "end"] [])
    (MG : Meth K C "_go_to" fG) (GG : FnOk P w K mg base CX0 1 fG fdG ["self", "place"] (spRG C)) (bG : Binds K fdG ["self", "place"] []) :
    FnOk P w K mg base (L2.CX P w) 4 f fd ["self", "many", "width"] (spRT C CE) := by
  refine F.okX scRT (fun vs H Q E h => ?_) (fun cdv A outer s H vs Q E hr h => ?_)
  · obtain ⟨p, q, row, i, m, w', rfl, _⟩ := h
    rfl
  · obtain ⟨p, q, row, i, m, w', rfl, R, hi, hlr, hb8, hm, hw, k1, k2⟩ := h
    obtain ⟨dx, hp⟩ := R.ob
    refine ⟨_, pss_cons (ps_set (i := 3) scRT.nd rfl (Or.inl rfl) (pe_op op_add (pe_fld (pv 0) rfl) (pe_op op_fdiv (pe_op op_add (pe_op op_mul (pv 1) (pv 2)) pe_int) pe_int)))
(pss_cons (ps_if (pt_cmpR op_gt (pv 3) (pe_callB call_len_seq (by rfl) (by exact TT.len) PySem.boot_len (pa_cons (pe_fld (pv 0) rfl) pa_nil)) (nomark _))
(pss_one (ps_raise rfl (takes_of rfl rfl rfl rfl) (pmk_oex TE.ox TE.iC TE.tI GI (hr.mono (by decide)) bI .nil pass0 rfl (by exact TE.gC) (by exact (pa_cons (pe_callB call_len_seq (by rfl) (by exact TT.len) PySem.boot_len (pa_cons (pe_fld (pv 0) rfl) pa_nil)) pa_nil)))))
pss_nil)
(pss_cons (ps_set (i := 4) scRT.nd rfl (Or.inl rfl) (pe_meth (pv 0) T.cl MN GN hr bN .nil (passes_call (takes_of rfl rfl rfl rfl) (fun _ _ _ _ h => h)) (pa_cons (pv 1) (pa_cons (pv 2) (pa_cons (pv 3) pa_nil)))))
(pss_cons (ps_expr (pe_meth (pv 0) T.cl MG GG (hr.mono (by decide)) bG .nil pass0 (pa_cons (pv 3) pa_nil)))
(pss_one (ps_ret (pv 4)))))), ?_⟩
    have hrow : SqT K H q (row.map nI) := .inl (.inl R.tp)
    have hmw : m * w' ≤ 64000 := Nat.le_trans (Nat.mul_le_mul hm hw) (by decide)
    refine ⟨_, rfl, p, C, dx, _, _, rfl, hp, T.cl, T.nA, rfl, _, rfl, _, rfl, _, _, rfl, rfl, .inl ⟨by omega, by omega⟩, _, _, rfl, rfl, _, _, rfl, rfl, ⟨by decide, by decide⟩, _, _, rfl, rfl, ?_⟩
    have ee : V.int ((i : Int) + ((m : Int) * (w' : Int) + 7) / 8) = nI (i + many m w') := by
      have e1 : (m : Int) * (w' : Int) = ((m * w' : Nat) : Int) := (Int.natCast_mul m w').symm
      unfold many
      rw [e1]
      exact congrArg V.int (by omega)
    have go : ∀ (R : V → Prop), R (nI (i + many m w')) → R (V.int ((i : Int) + ((m : Int) * (w' : Int) + 7) / 8)) := fun R h => by rw [ee]; exact h
    refine go (fun v => gName 3 v _ _ _) ?_
    refine ⟨_, rfl, _, rfl, p, C, dx, _, _, rfl, hp, T.cl, T.nR, rfl, q, _, rfl, .inr hrow, _, _, rfl, rfl, _, rfl, ?_⟩
    refine ite2 (fun hc => ?_) (fun hc => ?_)
    · have h2 : ((row.length : Nat) : Int) < ((i + many m w' : Nat) : Int) := by
        have := of_decide_eq_true hc
        rw [List.length_map] at this
        exact this
      have hc : row.length < i + many m w' := by omega
      have e0 : rdBits row i m w' = .err row.length := if_pos hc
      refine ⟨_, rfl, p, C, dx, _, _, rfl, hp, T.cl, T.nR, rfl, q, _, rfl, .inr hrow, (by show 1 ≤ 1000; decide), fun a ha => ⟨a, _, rfl, upd_same, fun d hd hda => ⟨rfl, d, _, upd_same, by rw [upd_ne hda, upd_same], by rw [upd_ne hda] at hd; exact hd, ?_⟩⟩⟩
      have e := Err.out (k2 _ e0) ha hd hda
      rw [← List.length_map (f := nI) (as := row)] at e
      exact e
    · have hc : ¬ row.length < i + many m w' := by
        intro z
        refine hc (decide_eq_true ?_)
        rw [List.length_map]
        show ((row.length : Nat) : Int) < ((i + many m w' : Nat) : Int)
        omega
      have e0 : rdBits row i m w' = if un ((row.drop i).take (many m w')) / 2 ^ (w' * m) > 0 then .err (i + many m w' - 1) else .nums (cutN (un ((row.drop i).take (many m w'))) w' m) (i + many m w') := if_neg hc
      refine ⟨_, rfl, p, dx, _, rfl, hp, by rfl, _, rfl, _, rfl, _, rfl, p, q, row, i, m, w', rfl, R, by omega, hlr, hb8, hm, hw, fun hz l H1 hl s1 hl1 => ?_, fun hz d H' he => ?_⟩
      · rw [if_neg (by omega)] at e0
        have R1 := R.same s1
        refine ⟨_, rfl, p, dx, _, rfl, s1 _ _ hp, by rfl, _, rfl, p, q, row, i, i + many m w', rfl, R1, fun H' B R' => ?_⟩
        have nlp : l ≠ p := ne_of hl1 (s1 _ _ hp) (by intro z; cases z)
        exact ⟨_, rfl, k1 _ _ l H' e0 ((But.same s1).trans B) R' (B _ _ hl1 nlp)⟩
      · rw [if_pos hz] at e0
        exact k2 _ e0 d H' he
theorem SG_95 : SG.length = 95 := by decide +kernel
theorem ok_RS {f fF fG : Addr} {fd fdI fdF fdG : FuncData} (F : Fun K "signs" "RowReader.signs" sRS f fd) (T : TxtR K mg C) (TT : Txt K mg) (TE : TxtE K mg CE fI) (GI : FnOk P w K mg base CX0 1 fI fdI ["self", "place"] (spBI CE)) (bI : Binds K fdI ["self", "place"] [])
    (MF : Meth K C "_whole_from" fF) (GF : FnOk P w K mg base (L2.CX P w) 4 fF fdF ["self", "place"] (spRF C CE)) (bF : Binds K fdF ["self", "place"] [])
    (MG : Meth K C "_go_to" fG) (GG : FnOk P w K mg base CX0 1 fG fdG ["self", "place"] (spRG C)) (bG : Binds K fdG ["self", "place"] []) :
    FnOk P w K mg base (L2.CX P w) 5 f fd ["self"] (spRS C CE) := by
  refine F.okX scRS (fun vs H Q E h => ?_) (fun cdv A outer s H vs Q E hr h => ?_)
  · obtain ⟨p, q, row, i, rfl, _⟩ := h
    rfl
  · obtain ⟨p, q, row, i, rfl, R, hi, hlr, hb8, k1, k2⟩ := h
    obtain ⟨dx, hp⟩ := R.ob
    obtain ⟨tk, sg⟩ := T.sg
    refine ⟨_, pss_cons (ps_asg (pe_meth (pv 0) T.cl MF GF hr bF .nil (passes_call (takes_of rfl rfl rfl rfl) (fun _ _ _ _ h => h)) (pa_cons (pe_fld (pv 0) rfl) pa_nil)) (pg_tup (by rfl) (pgs_cons (pg_name (i := 1) scRS.nd rfl (Or.inl rfl)) (pgs_cons (pg_name (i := 2) scRS.nd rfl (Or.inl rfl)) pgs_nil))))
(pss_cons (ps_set (i := 3) scRS.nd rfl (Or.inl rfl) (pe_op nn_add (pv 2) (pv 1)))
(pss_cons (ps_for (passes_of rfl) rfl (pi_range2 rfl (by exact TT.range) (pa_cons (pv 2) (pa_cons (pe_callB (call_min2 rfl) (by rfl) (by exact TT.min) (by decide +kernel) (pa_cons (pv 3) (pa_cons (pe_callB call_len_seq (by rfl) (by exact TT.len) PySem.boot_len (pa_cons (pe_fld (pv 0) rfl) pa_nil)) pa_nil))) pa_nil))) (pg_name (i := 4) scRS.nd rfl (Or.inl rfl))
(pss_one (ps_if (pt_cmpR op_ge (pe_ix ix_tup (pe_fld (pv 0) rfl) (pv 4) (fun _ _ => rfl)) (pe_callB call_len_str (by rfl) (by exact TT.len) PySem.boot_len (pa_cons (pgs (by exact sg)) pa_nil)) (nomark _))
(pss_one (ps_raise rfl (takes_of rfl rfl rfl rfl) (pmk_oex TE.ox TE.iC TE.tI GI (hr.mono (by decide)) bI .nil pass0 rfl (by exact TE.gC) (by exact (pa_cons (pv 4) pa_nil)))))
pss_nil)))
(pss_cons (ps_if (pt_cmpR op_gt (pv 3) (pe_callB call_len_seq (by rfl) (by exact TT.len) PySem.boot_len (pa_cons (pe_fld (pv 0) rfl) pa_nil)) (nomark _))
(pss_one (ps_raise rfl (takes_of rfl rfl rfl rfl) (pmk_oex TE.ox TE.iC TE.tI GI (hr.mono (by decide)) bI .nil pass0 rfl (by exact TE.gC) (by exact (pa_cons (pe_callB call_len_seq (by rfl) (by exact TT.len) PySem.boot_len (pa_cons (pe_fld (pv 0) rfl) pa_nil)) pa_nil)))))
pss_nil)
(pss_cons (ps_expr (pe_meth (pv 0) T.cl MG GG (hr.mono (by decide)) bG .nil pass0 (pa_cons (pv 3) pa_nil)))
(pss_one (ps_ret (pe_join pe_str (pe_lc (own := [("index", 5)]) (g := gName 5) (tt := tYes) (by rfl) scRS.nd (pi_tup (pe_slice sl_tupA (pe_fld (pv 0) rfl) (po_some (pv 2)) (po_some (pv 3)))) (blkOk_by (own := [("index", 5)]) (N := NRS) (sc := defScope sRS) (by decide +kernel)) (fun _ _ _ _ _ => (pg_name (i := 5) scRS.nd rfl (Or.inl rfl))) (fun _ _ _ _ _ => pts_nil) (fun _ _ _ _ _ => (pe_ix ix_str (pgs (by exact sg)) (pv 5) (fun _ _ => rfl))))))))))), ?_⟩
    refine ⟨_, rfl, p, dx, _, rfl, hp, by rfl, _, rfl, p, C, dx, _, _, rfl, hp, T.cl, T.nA, rfl, p, q, row, i, i, rfl, R, hi, hlr, hb8, fun n c e t ht => ?_, fun e he d H' hd => ?_⟩
    · have hic : i + c ≤ row.length := by
        have := Rb.rwa_ok e
        rw [List.length_drop] at this
        omega
      have s1 := Same.new (o := .tup [nI n, nI (i + c)]) ht
      have R1 := R.same s1
      have hp1 := s1 _ _ hp
      obtain ⟨l, el⟩ : ∃ l, l = (row.drop (i + c)).take n := ⟨_, rfl⟩
      have hll : l.length = min n (row.length - (i + c)) := by rw [el, List.length_take, List.length_drop]
      have hlat : ∀ k, k < l.length → ∃ b, row[i + c + k]? = some b ∧ l[k]? = some b := by
        intro k hk
        have hk2 : i + c + k < row.length := by omega
        refine ⟨row[i + c + k], List.getElem?_eq_getElem hk2, ?_⟩
        rw [el, List.getElem?_take, if_pos (by omega), List.getElem?_drop, List.getElem?_eq_getElem hk2]
      have hrd : rdSigns row i = match fb l with | some k => .err (i + c + k) | none => if row.length < i + c + n then .err row.length else .text l (i + c + n) := by
        unfold rdSigns
        rw [e, el] <;> rfl
      have hrow1 : SqT K (upd H t (.tup [nI n, nI (i + c)])) q (row.map nI) := .inl (.inl R1.tp)
      refine ⟨t, _, rfl, .inl (.inl upd_same), rfl, _, _, rfl, _, _, rfl, rfl, ?_⟩
      refine ⟨_, rfl, _, rfl, i + c, n, rfl, rfl, trivial, ?_⟩
      have em : (if (((row.map nI).length : Nat) : Int) < ((i + c + n : Nat) : Int) then (((row.map nI).length : Nat) : Int) else ((i + c + n : Nat) : Int)) = ((i + c + l.length : Nat) : Int) := by
        rw [List.length_map]
        split <;> omega
      refine ⟨_, rfl, _, rfl, _, rfl, p, C, dx, _, _, rfl, hp1, T.cl, T.nR, rfl, q, _, rfl, .inr hrow1, _, _, rfl, _, _, rfl, ?_, ?_⟩
      · show -(2 ^ 62) ≤ ((i + c : Nat) : Int) ∧ ((i + c : Nat) : Int) < 2 ^ 62 ∧ -(2 ^ 62) ≤ (if (((row.map nI).length : Nat) : Int) < ((i + c + n : Nat) : Int) then (((row.map nI).length : Nat) : Int) else ((i + c + n : Nat) : Int)) ∧ (if (((row.map nI).length : Nat) : Int) < ((i + c + n : Nat) : Int) then (((row.map nI).length : Nat) : Int) else ((i + c + n : Nat) : Int)) < 2 ^ 62
        rw [em]
        omega
      refine for_range (fun k σ G => ∃ x4 : Option V, σ = [some (.ref p), some (nI n), some (nI (i + c)), some (nI (i + c + n)), x4, none] ∧ G = upd H t (.tup [nI n, nI (i + c)]) ∧ ∀ j b, j < k → l[j]? = some b → b ≤ 94)
        ⟨none, rfl, rfl, fun j b hj => absurd hj (Nat.not_lt_zero j)⟩ ?_ ?_
      · rintro k σ G hk ⟨x4, rfl, rfl, hall⟩
        have hk : k < l.length := by
          have hk : k < ((if (((row.map nI).length : Nat) : Int) < ((i + c + n : Nat) : Int) then (((row.map nI).length : Nat) : Int) else ((i + c + n : Nat) : Int)) - ((i + c : Nat) : Int)).toNat := hk
          rw [em] at hk
          omega
        obtain ⟨b, hb1, hb2⟩ := hlat k hk
        have hat : atI (row.map nI) (((i + c : Nat) : Int) + (k : Int)) = some (nI b) := by
          have e : ((i + c : Nat) : Int) + (k : Int) = ((i + c + k : Nat) : Int) := by omega
          rw [e]
          exact atI_nat (by rw [List.getElem?_map, hb1]; rfl)
        refine ⟨_, rfl, p, C, dx, _, _, rfl, hp1, T.cl, T.nR, rfl, _, rfl, q, _, _, nI b, rfl, rfl, hrow1, hat, SG, rfl, SG_small, _, _, rfl, rfl, _, rfl, ?_⟩
        refine ite2 (fun hc => ?_) (fun hc => ?_)
        · have hc : b > 94 := by
            have := of_decide_eq_true hc
            rw [SG_95] at this
            omega
          have e0 : rdSigns row i = .err (i + c + k) := by rw [hrd, Rb.fb_some hb2 hc fun j c' hj hc' => hall j c' hj hc']
          have ev : V.int (((i + c : Nat) : Int) + (k : Int)) = nI (i + c + k) := congrArg V.int (by omega)
          refine ⟨_, rfl, (by show 1 ≤ 1000; decide), fun a ha => ⟨a, _, rfl, upd_same, fun d hd hda => ⟨rfl, d, _, upd_same, by rw [upd_ne hda, upd_same], by rw [upd_ne hda] at hd; exact hd, ?_⟩⟩⟩
          have e := Err.out (fun d H' he => k2 _ e0 d H' ⟨s1.trans he.1, s1.free he.2.1, he.2.2⟩) ha hd hda
          rw [← ev] at e
          exact e
        · have hc : b ≤ 94 := by
            have : ¬ ((SG.length : Nat) : Int) ≤ (b : Int) := fun z => hc (decide_eq_true z)
            rw [SG_95] at this
            omega
          refine ⟨_, rfl, rfl, fun j b' hj hb' => ?_⟩
          by_cases hjk : j = k
          · subst hjk
            rw [hb2] at hb'
            obtain rfl := Option.some.inj hb'
            exact hc
          · exact hall j b' (by omega) hb'
      · rintro σ G ⟨x4, rfl, rfl, hall⟩
        have en : ((if (((row.map nI).length : Nat) : Int) < ((i + c + n : Nat) : Int) then (((row.map nI).length : Nat) : Int) else ((i + c + n : Nat) : Int)) - ((i + c : Nat) : Int)).toNat = l.length := by
          rw [em]
          omega
        have hall : ∀ j b : Nat, l[j]? = some b → b ≤ 94 := by
          intro j b hj
          refine hall j b ?_ hj
          show j < ((if (((row.map nI).length : Nat) : Int) < ((i + c + n : Nat) : Int) then (((row.map nI).length : Nat) : Int) else ((i + c + n : Nat) : Int)) - ((i + c : Nat) : Int)).toNat
          rw [en]
          exact (List.getElem?_eq_some_iff.mp hj).1
        rw [Rb.fb_none hall] at hrd
        refine ⟨_, rfl, _, rfl, p, C, dx, _, _, rfl, hp1, T.cl, T.nR, rfl, q, _, rfl, .inr hrow1, _, _, rfl, rfl, _, rfl, ?_⟩
        refine ite2 (fun hc => ?_) (fun hc => ?_)
        · have h2 : ((row.length : Nat) : Int) < ((i + c + n : Nat) : Int) := by
            have := of_decide_eq_true hc
            rw [List.length_map] at this
            exact this
          have hc : row.length < i + c + n := by omega
          have e0 : rdSigns row i = .err row.length := by rw [hrd]; exact if_pos hc
          refine ⟨_, rfl, p, C, dx, _, _, rfl, hp1, T.cl, T.nR, rfl, q, _, rfl, .inr hrow1, (by show 1 ≤ 1000; decide), fun a ha => ⟨a, _, rfl, upd_same, fun d hd hda => ⟨rfl, d, _, upd_same, by rw [upd_ne hda, upd_same], by rw [upd_ne hda] at hd; exact hd, ?_⟩⟩⟩
          have e := Err.out (fun d H' he => k2 _ e0 d H' ⟨s1.trans he.1, s1.free he.2.1, he.2.2⟩) ha hd hda
          rw [← List.length_map (f := nI) (as := row)] at e
          exact e
        · have hc : ¬ row.length < i + c + n := by
            intro z
            refine hc (decide_eq_true ?_)
            rw [List.length_map]
            show ((row.length : Nat) : Int) < ((i + c + n : Nat) : Int)
            omega
          have e0 : rdSigns row i = .text l (i + c + n) := by rw [hrd]; exact if_neg hc
          refine ⟨_, rfl, p, dx, _, rfl, hp1, by rfl, _, rfl, p, q, row, i, i + c + n, rfl, R1, fun H2 B R2 => ?_⟩
          obtain ⟨dx2, hp2⟩ := R2.ob
          refine ⟨⟨_, rfl⟩, ?_⟩
          refine ⟨_, rfl, p, C, dx2, _, _, rfl, hp2, T.cl, T.nR, rfl, _, rfl, _, rfl, _, rfl, _, rfl, ?_⟩
          refine slA_row R2.tp (by omega) fun lt H3 s3 hlt => ⟨lt, rfl, ⟨_, .inl (.inl hlt)⟩, fun D hD => ?_⟩
          rw [← el] at hlt
          have s4 := Same.new (o := .lst []) hD
          refine lc_tup (K := K) (a := lt) (xs := l.map nI) (fun j G => Same H3 G ∧ G D = some (.lst ((l.take j).map sg1))) ⟨s4, upd_same⟩ (fun j G _ ⟨sm, _⟩ => .inl (.inl (sm _ _ hlt))) ?_ ?_
          · rintro j x G hx ⟨sm, hD2⟩
            obtain ⟨b, hb, rfl⟩ := nats_at hx
            have hb94 := hall j b hb
            have hjl := (List.getElem?_eq_some_iff.mp hb).1
            refine ⟨rfl, ?_⟩
            refine ⟨_, rfl, SG, _, sgn b, rfl, rfl, SG_small, atI_nat (SG_at (by omega)), ?_⟩
            refine ⟨_, hD2, ?_, Same.put sm hD, ?_⟩
            · rw [List.length_map, List.length_take, sizeLine_eq]
              omega
            · rw [upd_same, List.take_add_one, hb, List.map_append]
              rfl
          · rintro G ⟨sm, hD2⟩
            rw [List.length_map, List.take_length] at hD2
            have eD : l.map sg1 = (l.map fun i => (⟨#[sgn i]⟩ : Str)).map V.str := by rw [List.map_map]; rfl
            refine ⟨("" : Str), D, l.map fun i => (⟨#[sgn i]⟩ : Str), rfl, rfl, .inl (.inl (.inl (by rw [hD2, eD]))), ?_, ?_⟩
            · rw [ones_sum]
              have e0 : ("" : Str).length = 0 := rfl
              rw [e0, Nat.mul_zero]
              omega
            rw [join_signs]
            exact k1 l (i + c + n) G e0 ((But.same s1).trans (B.trans (But.same (s3.trans sm)))) (R2.same (s3.trans sm))
    · have e0 : rdSigns row i = .err (i + e) := by unfold rdSigns; rw [he]
      exact k2 _ e0 d H' hd
end
end Wq
namespace Crc
def mx (l : Nat) : Nat := (2 * l) % 2 ^ 32 ^^^ (if l.testBit 31 then 141 else 0)
def it : Nat → Nat → Nat
  | 0, a => a
  | n + 1, a => mx (it n a)
theorem two_mul_xor (a b : Nat) : 2 * (a ^^^ b) = 2 * a ^^^ 2 * b := by
  have h := Nat.shiftLeft_xor_distrib (a := a) (b := b) (i := 1)
  simp only [Nat.shiftLeft_eq, Nat.pow_one] at h
  rw [Nat.mul_comm, h, Nat.mul_comm, Nat.mul_comm b]
theorem xor_mod (a b k : Nat) : (a ^^^ b) % 2 ^ k = a % 2 ^ k ^^^ b % 2 ^ k := Nat.xor_mod_two_pow
theorem x4 (a b c d : Nat) : a ^^^ b ^^^ (c ^^^ d) = a ^^^ c ^^^ (b ^^^ d) := by
  rw [Nat.xor_assoc, Nat.xor_assoc, ← Nat.xor_assoc b, Nat.xor_comm b c, Nat.xor_assoc c]
theorem sel_xor (p q : Bool) (k : Nat) : (if (p ^^ q) = true then k else 0) = (if p = true then k else 0) ^^^ (if q = true then k else 0) := by
  cases p <;> cases q <;> simp
theorem mx_xor (a b : Nat) : mx (a ^^^ b) = mx a ^^^ mx b := by
  unfold mx
  rw [two_mul_xor, xor_mod, Nat.testBit_xor, sel_xor, x4]
theorem mx_0 : mx 0 = 0 := by decide +kernel
theorem mx_lt (a : Nat) : mx a < 2 ^ 32 := by
  unfold mx
  refine Nat.xor_lt_two_pow (Nat.mod_lt _ (by decide)) ?_
  split <;> decide
theorem mx_small {a : Nat} (h : a < 2 ^ 31) : mx a = 2 * a := by
  unfold mx
  rw [Nat.testBit_lt_two_pow h, Nat.mod_eq_of_lt (by omega)]
  simp
theorem it_xor (n a b : Nat) : it n (a ^^^ b) = it n a ^^^ it n b := by
  induction n with
  | zero => rfl
  | succ n ih => rw [it, it, it, ih, mx_xor]
theorem it_0 (n : Nat) : it n 0 = 0 := by
  induction n with
  | zero => rfl
  | succ n ih => rw [it, ih, mx_0]
theorem it_mx (n a : Nat) : it n (mx a) = mx (it n a) := by
  induction n with
  | zero => rfl
  | succ n ih => rw [it, it, ih]
theorem it_add (n m a : Nat) : it (n + m) a = it n (it m a) := by
  induction n with
  | zero => rw [Nat.zero_add]; rfl
  | succ n ih => rw [Nat.succ_add, it, it, ih]
theorem it_lt {a : Nat} (n : Nat) (h : a < 2 ^ 32) : it n a < 2 ^ 32 := by
  cases n with
  | zero => exact h
  | succ n => exact mx_lt _
theorem mx_ne {a : Nat} (h : a < 2 ^ 32) (h0 : a ≠ 0) : mx a ≠ 0 := by
  intro e
  by_cases hb : a < 2 ^ 31
  · rw [mx_small hb] at e
    omega
  · have ht : a.testBit 31 = true := by
      rw [Nat.testBit_eq_decide_div_mod_eq]
      have : a / 2 ^ 31 = 1 := by omega
      rw [this]
      decide
    unfold mx at e
    rw [ht, if_pos rfl] at e
    have e1 : 2 * a % 2 ^ 32 = 141 := by
      have e2 : (2 * a % 2 ^ 32 ^^^ 141) ^^^ 141 = 0 ^^^ 141 := by rw [e]
      rw [Nat.xor_assoc, Nat.xor_self, Nat.xor_zero, Nat.zero_xor] at e2
      exact e2
    omega
theorem it_ne {a : Nat} (n : Nat) (h : a < 2 ^ 32) (h0 : a ≠ 0) : it n a ≠ 0 := by
  induction n with
  | zero => exact h0
  | succ n ih => exact mx_ne (it_lt n h) ih
theorem pow_add_xor {k b : Nat} (h : b < 2 ^ k) : 2 ^ k + b = 2 ^ k ^^^ b := by
  apply Nat.eq_of_testBit_eq
  intro i
  rw [Nat.testBit_xor, Nat.testBit_two_pow]
  by_cases hi : i = k
  · subst hi
    rw [Nat.testBit_two_pow_add_eq, Nat.testBit_lt_two_pow h]
    simp
  · by_cases hlt : i < k
    · rw [Nat.testBit_two_pow_add_gt hlt]
      have : decide (k = i) = false := by simp; omega
      rw [this]; simp
    · have h1 : 2 ^ k + b < 2 ^ i := by
        have : 2 ^ (k + 1) ≤ 2 ^ i := Nat.pow_le_pow_right (by decide) (by omega)
        rw [Nat.pow_succ] at this
        omega
      have h2 : b < 2 ^ i := by omega
      rw [Nat.testBit_lt_two_pow h1, Nat.testBit_lt_two_pow h2]
      have : decide (k = i) = false := by simp; omega
      rw [this]; rfl
theorem lin_ind {P : Nat → Prop} (h0 : P 0) (hx : ∀ a b, P a → P b → P (a ^^^ b)) : ∀ k, (∀ i, i < k → P (2 ^ i)) → ∀ a, a < 2 ^ k → P a := by
  intro k
  induction k with
  | zero =>
    intro _ a ha
    have : a = 0 := by omega
    rw [this]; exact h0
  | succ k ih =>
    intro hp a ha
    rw [Nat.pow_succ] at ha
    by_cases h : a < 2 ^ k
    · exact ih (fun i hi => hp i (by omega)) a h
    · have e : a = 2 ^ k ^^^ (a - 2 ^ k) := by
        rw [← pow_add_xor (by omega)]
        omega
      rw [e]
      exact hx _ _ (hp k (by omega)) (ih (fun i hi => hp i (by omega)) _ (by omega))
/-- the product -/
def pm : Nat → Nat → Nat → Nat
  | 0, _, _ => 0
  | k + 1, a, b => (if b % 2 = 1 then a else 0) ^^^ pm k (mx a) (b / 2)
theorem pm_xor (k a a' b : Nat) : pm k (a ^^^ a') b = pm k a b ^^^ pm k a' b := by
  induction k generalizing a a' b with
  | zero => simp [pm]
  | succ k ih =>
    rw [pm, pm, pm, mx_xor, ih]
    by_cases h : b % 2 = 1
    · rw [if_pos h, if_pos h, if_pos h, x4]
    · rw [if_neg h, if_neg h, if_neg h, x4]; rfl
theorem pm_0 (k a : Nat) : pm k a 0 = 0 := by
  induction k generalizing a with
  | zero => rfl
  | succ k ih => rw [pm, ih]; simp
theorem pm_0l (k b : Nat) : pm k 0 b = 0 := by
  induction k generalizing b with
  | zero => rfl
  | succ k ih => rw [pm, mx_0, ih]; split <;> rfl
theorem low_xor (b : Nat) : b % 2 ^^^ 2 * (b / 2) = b := by
  have h : b % 2 < 2 ^ 1 := Nat.mod_lt _ (by decide)
  apply Nat.eq_of_testBit_eq
  intro i
  rw [Nat.testBit_xor]
  cases i with
  | zero =>
    simp [Nat.testBit_zero]
  | succ i =>
    rw [Nat.testBit_succ, Nat.testBit_succ, Nat.testBit_succ]
    have : b % 2 / 2 = 0 := by omega
    rw [this, Nat.mul_div_cancel_left _ (by decide)]
    simp
theorem pm_it {k : Nat} (hk : k ≤ 32) (n b : Nat) (hb : b < 2 ^ k) : pm k (it n 1) b = it n b := by
  induction k generalizing n b with
  | zero =>
    have : b = 0 := by omega
    rw [this, it_0]; rfl
  | succ k ih =>
    have h2 : b / 2 < 2 ^ k := by rw [Nat.pow_succ] at hb; omega
    have h31 : b / 2 < 2 ^ 31 := Nat.lt_of_lt_of_le h2 (Nat.pow_le_pow_right (by decide) (by omega))
    rw [pm]
    have e : mx (it n 1) = it (n + 1) 1 := rfl
    rw [e, ih (by omega) _ _ h2]
    have e1 : (if b % 2 = 1 then it n 1 else 0) = it n (b % 2) := by
      by_cases h : b % 2 = 1
      · rw [if_pos h, h]
      · have : b % 2 = 0 := by omega
        rw [if_neg h, this, it_0]
    have e2 : it (n + 1) (b / 2) = it n (2 * (b / 2)) := by
      rw [it, ← it_mx, mx_small h31]
    rw [e1, e2, ← it_xor, low_xor]
theorem it_pow : ∀ i, i < 32 → it i 1 = 2 ^ i := by decide +kernel
theorem pm_pow {a : Nat} (n : Nat) (ha : a < 2 ^ 32) : pm 32 a (it n 1) = it n a := by
  have h1 : it n 1 < 2 ^ 32 := it_lt n (by decide)
  refine lin_ind (P := fun a => pm 32 a (it n 1) = it n a) (by rw [pm_0l, it_0]) (fun a b p q => by rw [pm_xor, p, q, it_xor]) 32 (fun i hi => ?_) a ha
  rw [← it_pow i hi, pm_it (Nat.le_refl _) _ _ h1, ← it_add, ← it_add, Nat.add_comm]
/-- the register -/
def rg (l : Nat) (f : Nat → Bool) : Nat → Nat
  | 0 => l
  | n + 1 => mx (rg l f n) ^^^ (if f n = true then 141 else 0)
theorem rg_xor (l l' : Nat) (f g : Nat → Bool) (n : Nat) : rg (l ^^^ l') (fun t => f t ^^ g t) n = rg l f n ^^^ rg l' g n := by
  induction n with
  | zero => rfl
  | succ n ih => rw [rg, rg, rg, ih, mx_xor, sel_xor, x4]
theorem rg_congr {l : Nat} {f g : Nat → Bool} {n : Nat} (h : ∀ t, t < n → f t = g t) : rg l f n = rg l g n := by
  induction n with
  | zero => rfl
  | succ n ih => rw [rg, rg, ih (fun t ht => h t (by omega)), h n (by omega)]
theorem rg_add (l : Nat) (f : Nat → Bool) (n m : Nat) : rg l f (n + m) = rg (rg l f n) (fun t => f (n + t)) m := by
  induction m with
  | zero => rfl
  | succ m ih => rw [Nat.add_succ, rg, rg, ih]
theorem rg_lt {l : Nat} (f : Nat → Bool) (n : Nat) (h : l < 2 ^ 32) : rg l f n < 2 ^ 32 := by
  cases n with
  | zero => exact h
  | succ n =>
    rw [rg]
    refine Nat.xor_lt_two_pow (mx_lt _) ?_
    split <;> decide
theorem rg_it (l : Nat) (f : Nat → Bool) (n : Nat) : rg l f n = it n l ^^^ rg 0 f n := by
  induction n with
  | zero => rw [rg, rg, it, Nat.xor_zero]
  | succ n ih => rw [rg, rg, it, ih, mx_xor, Nat.xor_assoc]
theorem it32 : it 32 1 = 141 := by decide +kernel
theorem rg_burst (e : Nat → Bool) (p : Nat) (h0 : ∀ t, t < p → e t = false) (hp : e p = true) (h1 : ∀ t, p + 32 ≤ t → e t = false) (n : Nat) (hn : p < n) : rg 0 e n ≠ 0 := by
  have a0 : ∀ n, n ≤ p → rg 0 e n = 0 := by
    intro n
    induction n with
    | zero => intro _; rfl
    | succ n ih =>
      intro h
      rw [rg, ih (by omega), h0 n (by omega), mx_0]
      rfl
  have a1 : ∀ k, k < 32 → ∃ E, rg 0 e (p + 1 + k) = it 32 E ∧ 0 < E ∧ E < 2 ^ (k + 1) := by
    intro k
    induction k with
    | zero =>
      intro _
      refine ⟨1, ?_, by decide, by decide⟩
      rw [Nat.add_zero, rg, a0 p (Nat.le_refl _), hp, mx_0, it32]
      rfl
    | succ k ih =>
      intro hk
      obtain ⟨E, e1, e2, e3⟩ := ih (by omega)
      have hE : E < 2 ^ 31 := Nat.lt_of_lt_of_le e3 (Nat.pow_le_pow_right (by decide) (by omega))
      refine ⟨2 * E + (if e (p + 1 + k) = true then 1 else 0), ?_, by omega, ?_⟩
      · rw [← Nat.add_assoc, rg, e1]
        have e4 : 2 * E + (if e (p + 1 + k) = true then 1 else 0) = mx E ^^^ (if e (p + 1 + k) = true then 1 else 0) := by
          rw [mx_small hE]
          have := low_xor (2 * E + (if e (p + 1 + k) = true then 1 else 0))
          have q1 : (2 * E + (if e (p + 1 + k) = true then 1 else 0)) % 2 = (if e (p + 1 + k) = true then 1 else 0) := by split <;> omega
          have q2 : (2 * E + (if e (p + 1 + k) = true then 1 else 0)) / 2 = E := by split <;> omega
          rw [q1, q2, Nat.xor_comm] at this
          exact this.symm
        rw [e4, it_xor, it_mx]
        congr 1
        split
        · exact it32.symm
        · exact (it_0 32).symm
      · rw [Nat.pow_succ]
        split <;> omega
  have a2 : ∀ k, rg 0 e (p + 32 + k) ≠ 0 := by
    intro k
    induction k with
    | zero =>
      obtain ⟨E, e1, e2, e3⟩ := a1 31 (by decide)
      have : p + 32 + 0 = p + 1 + 31 := by omega
      rw [this, e1]
      exact it_ne 32 e3 (by omega)
    | succ k ih =>
      rw [← Nat.add_assoc, rg, h1 (p + 32 + k) (by omega)]
      have : (if false = true then 141 else 0) = 0 := rfl
      rw [this, Nat.xor_zero]
      exact mx_ne (rg_lt e _ (by decide)) ih
  by_cases h : n < p + 32
  · obtain ⟨E, e1, e2, e3⟩ := a1 (n - (p + 1)) (by omega)
    have : p + 1 + (n - (p + 1)) = n := by omega
    rw [this] at e1
    rw [e1]
    exact it_ne 32 (Nat.lt_of_lt_of_le e3 (Nat.pow_le_pow_right (by decide) (by omega))) (by omega)
  · have := a2 (n - (p + 32))
    have e : p + 32 + (n - (p + 32)) = n := by omega
    rw [e] at this
    exact this
end Crc
namespace Crc
def bt (x t : Nat) : Bool := x.testBit (7 - t)
def top (l x : Nat) : Nat := l >>> 24 ^^^ x
def chk (l x : Nat) : Nat := ((((l % 2 ^ 24) <<< 8 ^^^ top l x) ^^^ top l x <<< 2) ^^^ top l x <<< 3) ^^^ top l x <<< 7
theorem top_xor (l l' x x' : Nat) : top (l ^^^ l') (x ^^^ x') = top l x ^^^ top l' x' := by
  unfold top
  rw [Nat.shiftRight_xor_distrib, x4]
theorem chk_xor (l l' x x' : Nat) : chk (l ^^^ l') (x ^^^ x') = chk l x ^^^ chk l' x' := by
  unfold chk
  rw [top_xor, xor_mod]
  simp only [Nat.shiftLeft_xor_distrib]
  rw [x4 (_ <<< 8), x4 _ _ (_ <<< 2), x4 _ _ (_ <<< 3), x4 _ _ (_ <<< 7)]
theorem bt_xor (x y t : Nat) : bt (x ^^^ y) t = (bt x t ^^ bt y t) := Nat.testBit_xor ..
theorem chk_l {l : Nat} (h : l < 2 ^ 32) : chk l 0 = rg l (bt 0) 8 := by
  refine lin_ind (P := fun l => chk l 0 = rg l (bt 0) 8) (by decide +kernel) (fun a b p q => ?_) 32 ?_ l h
  · have e := chk_xor a b 0 0
    rw [Nat.xor_self] at e
    rw [e, p, q, ← rg_xor]
    refine rg_congr fun t _ => ?_
    rw [bt]; simp
  · decide +kernel
theorem chk_x {x : Nat} (h : x < 2 ^ 8) : chk 0 x = rg 0 (bt x) 8 := by
  refine lin_ind (P := fun x => chk 0 x = rg 0 (bt x) 8) (by decide +kernel) (fun a b p q => ?_) 8 ?_ x h
  · have e := chk_xor 0 0 a b
    rw [Nat.xor_self] at e
    rw [e, p, q, ← rg_xor]
    refine rg_congr fun t _ => ?_
    rw [bt_xor]
  · decide +kernel
theorem chk_rg {l x : Nat} (hl : l < 2 ^ 32) (hx : x < 2 ^ 8) : chk l x = rg l (bt x) 8 := by
  have e := chk_xor l 0 0 x
  rw [Nat.xor_zero, Nat.zero_xor] at e
  have e2 := rg_xor l 0 (bt 0) (bt x) 8
  rw [Nat.xor_zero] at e2
  rw [e, chk_l hl, chk_x hx, ← e2]
  refine rg_congr fun t _ => ?_
  simp [bt]
def rowBit (row : List Nat) (t : Nat) : Bool := bt (row.getD (t / 8) 0) (t % 8)
theorem rowBit_at {row : List Nat} {i x t : Nat} (h : row[i]? = some x) (ht : t < 8) : rowBit row (8 * i + t) = bt x t := by
  unfold rowBit
  have e1 : (8 * i + t) / 8 = i := by omega
  have e2 : (8 * i + t) % 8 = t := by omega
  rw [e1, e2, List.getD_eq_getElem?_getD, h]
  rfl
theorem rowBit_out {row : List Nat} {t : Nat} (h : 8 * row.length ≤ t) : rowBit row t = false := by
  unfold rowBit
  rw [List.getD_eq_getElem?_getD, List.getElem?_eq_none (by omega)]
  simp [bt]
def ckTo (row : List Nat) (k : Nat) : Nat := rg 141 (rowBit row) (8 * k)
def ck (row : List Nat) : Nat := ckTo row row.length
theorem ckTo_lt (row : List Nat) (k : Nat) : ckTo row k < 2 ^ 32 := rg_lt _ _ (by decide)
theorem ckTo_step {row : List Nat} {i x : Nat} (h : row[i]? = some x) (hx : x < 256) : ckTo row (i + 1) = chk (ckTo row i) x := by
  rw [chk_rg (ckTo_lt _ _) hx]
  unfold ckTo
  rw [Nat.mul_succ, rg_add]
  exact rg_congr fun t ht => rowBit_at h ht
theorem rowBit_left {a b : List Nat} {t : Nat} (h : t < 8 * a.length) : rowBit (a ++ b) t = rowBit a t := by
  unfold rowBit
  rw [List.getD_eq_getElem?_getD, List.getD_eq_getElem?_getD, List.getElem?_append_left (by omega)]
theorem rowBit_right (a b : List Nat) (t : Nat) : rowBit (a ++ b) (8 * a.length + t) = rowBit b t := by
  unfold rowBit
  rw [List.getD_eq_getElem?_getD, List.getD_eq_getElem?_getD, List.getElem?_append_right (by omega)]
  have e1 : (8 * a.length + t) / 8 - a.length = t / 8 := by omega
  have e2 : (8 * a.length + t) % 8 = t % 8 := by omega
  rw [e1, e2]
theorem ck_joined (a b : List Nat) : ck (a ++ b) = pm 32 (ck a ^^^ 141) (it (8 * b.length) 1) ^^^ ck b := by
  have ha : ck a < 2 ^ 32 := ckTo_lt _ _
  rw [pm_pow _ (Nat.xor_lt_two_pow ha (by decide))]
  unfold ck ckTo
  rw [List.length_append, Nat.mul_add, rg_add, rg_congr (g := rowBit a) fun t ht => rowBit_left ht, rg_congr (g := rowBit b) fun t _ => rowBit_right a b t, rg_it, rg_it 141 (rowBit b), it_xor]
  rw [Nat.xor_assoc, ← Nat.xor_assoc (it _ 141), Nat.xor_self, Nat.zero_xor]
/-! the long division -/
def D (row : List Nat) : Nat → Bool
  | 0 => true
  | t + 1 => rowBit row t
def U (s : Nat) : Bool := (2 ^ 32 + 141).testBit (32 - s)
def st (row : List Nat) (i t : Nat) : Bool := decide (i ≤ t) && (D row t ^^ (decide (t < i + 32) && (rg 0 (D row) i).testBit (31 - (t - i))))
theorem D_rg (row : List Nat) (n : Nat) : rg 0 (D row) (1 + n) = rg 141 (rowBit row) n := by
  rw [rg_add]
  have e : rg 0 (D row) 1 = 141 := by
    show mx 0 ^^^ 141 = 141
    decide +kernel
  rw [e]
  exact rg_congr fun t _ => by rw [Nat.add_comm]; rfl
theorem st_0 (row : List Nat) (t : Nat) : st row 0 t = D row t := by
  unfold st
  simp [rg]
theorem mx_bit (l s : Nat) (hs : s < 32) : (mx l).testBit s = ((decide (0 < s) && l.testBit (s - 1)) ^^ (l.testBit 31 && (141 : Nat).testBit s)) := by
  unfold mx
  rw [Nat.testBit_xor, Nat.testBit_mod_two_pow]
  congr 1
  · cases s with
    | zero => simp
    | succ s =>
      rw [Nat.testBit_succ, Nat.mul_div_cancel_left _ (by decide)]
      simp; omega
  · cases l.testBit 31 <;> simp
theorem U_is : ∀ s, s < 32 → U (s + 1) = (141 : Nat).testBit (31 - s) := by decide +kernel
theorem st_next (row : List Nat) (i t : Nat) : st row (i + 1) t = if i ≤ t ∧ t < i + 33 then (st row i t ^^ (st row i i && U (t - i))) else st row i t := by
  have hc : st row i i = (D row i ^^ (rg 0 (D row) i).testBit 31) := by
    unfold st; simp
  have hr : ∀ s, s < 32 → (rg 0 (D row) (i + 1)).testBit s = ((decide (0 < s) && (rg 0 (D row) i).testBit (s - 1)) ^^ (st row i i && (141 : Nat).testBit s)) := by
    intro s hs
    rw [rg, Nat.testBit_xor, mx_bit _ _ hs, hc]
    generalize (rg 0 (D row) i).testBit 31 = u
    generalize D row i = v
    generalize (decide (0 < s) && (rg 0 (D row) i).testBit (s - 1)) = q
    cases u <;> cases v <;> simp
  by_cases h : i ≤ t ∧ t < i + 33
  · rw [if_pos h]
    by_cases h0 : t = i
    · subst h0
      have e1 : st row (t + 1) t = false := by unfold st; rw [decide_eq_false (by omega)]; rfl
      rw [e1, Nat.sub_self]
      have e2 : U 0 = true := by decide +kernel
      rw [e2]
      cases st row t t <;> rfl
    · obtain ⟨s, rfl⟩ : ∃ s, t = i + 1 + s := ⟨t - (i + 1), by omega⟩
      have hs : s < 32 := by omega
      have e1 : st row (i + 1) (i + 1 + s) = (D row (i + 1 + s) ^^ (rg 0 (D row) (i + 1)).testBit (31 - s)) := by
        unfold st
        have a1 : decide (i + 1 ≤ i + 1 + s) = true := by simp
        have a2 : decide (i + 1 + s < i + 1 + 32) = true := by simp; omega
        have a3 : i + 1 + s - (i + 1) = s := by omega
        rw [a1, a2, a3]; simp
      have e2 : st row i (i + 1 + s) = (D row (i + 1 + s) ^^ (decide (0 < 31 - s) && (rg 0 (D row) i).testBit (31 - s - 1))) := by
        unfold st
        have a1 : decide (i ≤ i + 1 + s) = true := by simp; omega
        have a2 : decide (i + 1 + s < i + 32) = decide (0 < 31 - s) := by
          by_cases q : s < 31
          · rw [decide_eq_true (by omega), decide_eq_true (by omega)]
          · rw [decide_eq_false (by omega), decide_eq_false (by omega)]
        have a3 : 31 - (i + 1 + s - i) = 31 - s - 1 := by omega
        rw [a1, a2, a3]; simp
      have e3 : i + 1 + s - i = s + 1 := by omega
      rw [e1, e2, e3, hr _ (by omega), U_is s hs, Bool.xor_assoc]
  · rw [if_neg h]
    unfold st
    by_cases h1 : i ≤ t
    · have a1 : decide (i ≤ t) = true := by simp; omega
      have a2 : decide (i + 1 ≤ t) = true := by simp; omega
      have a3 : decide (t < i + 32) = false := by simp; omega
      have a4 : decide (t < i + 1 + 32) = false := by simp; omega
      rw [a1, a2, a3, a4]; rfl
    · have a1 : decide (i ≤ t) = false := by simp; omega
      have a2 : decide (i + 1 ≤ t) = false := by simp; omega
      rw [a1, a2]; rfl
theorem st_same {row : List Nat} {i : Nat} (h : st row i i = false) (t : Nat) : st row (i + 1) t = st row i t := by
  rw [st_next, h]
  split
  · simp
  · rfl
theorem st_end {row : List Nat} {j : Nat} (hj : j < 32) : st row (1 + 8 * row.length) (1 + 8 * row.length + j) = (ck row).testBit (31 - j) := by
  have e : D row (1 + 8 * row.length + j) = false := by
    have : 1 + 8 * row.length + j = (8 * row.length + j) + 1 := by omega
    rw [this]
    exact rowBit_out (by omega)
  unfold st
  rw [D_rg, e]
  have a1 : decide (1 + 8 * row.length ≤ 1 + 8 * row.length + j) = true := by simp
  have a2 : decide (1 + 8 * row.length + j < 1 + 8 * row.length + 32) = true := by simp; omega
  have a3 : 1 + 8 * row.length + j - (1 + 8 * row.length) = j := by omega
  rw [a1, a2, a3]
  simp [ck, ckTo]
theorem fold_step {R j : Nat} (hj : j < 32) : R / 2 ^ (32 - (j + 1)) = R / 2 ^ (32 - j) * 2 + (if R.testBit (31 - j) = true then 1 else 0) := by
  have e : 32 - j = (31 - j) + 1 := by omega
  have e' : 32 - (j + 1) = 31 - j := by omega
  rw [e, e', Nat.pow_succ, ← Nat.div_div_eq_div_mul, Nat.testBit_eq_decide_div_mod_eq]
  simp only [decide_eq_true_eq]
  split <;> omega
/-! bits turned -/
def tog : List Nat → Nat → Bool
  | [], _ => false
  | p :: ps, t => decide (t = p) ^^ tog ps t
theorem tog_app (a b : List Nat) (t : Nat) : tog (a ++ b) t = (tog a t ^^ tog b t) := by
  induction a with
  | nil => simp [tog]
  | cons p a ih => rw [List.cons_append, tog, tog, ih, Bool.xor_assoc]
theorem tog_not {ps : List Nat} {t : Nat} (h : ∀ p ∈ ps, t ≠ p) : tog ps t = false := by
  induction ps with
  | nil => rfl
  | cons p ps ih =>
    rw [tog, ih fun q hq => h q (List.mem_cons_of_mem _ hq), decide_eq_false (h p (List.mem_cons_self ..))]
    rfl
theorem flip_ok : ∀ x, x < 256 → ∀ q, q < 8 → x + 2 ^ (7 - q) - 2 * 2 ^ (7 - q) * (x / 2 ^ (7 - q) % 2) = x ^^^ 2 ^ (7 - q) ∧ 2 * 2 ^ (7 - q) * (x / 2 ^ (7 - q) % 2) ≤ x + 2 ^ (7 - q) ∧ x ^^^ 2 ^ (7 - q) < 256 := by decide +kernel
theorem rowBit_set {row : List Nat} {p x : Nat} (hp : row[p / 8]? = some x) (t : Nat) : rowBit (row.set (p / 8) (x ^^^ 2 ^ (7 - p % 8))) t = (rowBit row t ^^ decide (t = p)) := by
  have hl : p / 8 < row.length := (List.getElem?_eq_some_iff.mp hp).1
  unfold rowBit
  rw [List.getD_eq_getElem?_getD, List.getD_eq_getElem?_getD, List.getElem?_set]
  by_cases h : p / 8 = t / 8
  · rw [if_pos h, if_pos hl, ← h, hp]
    show bt (x ^^^ 2 ^ (7 - p % 8)) (t % 8) = (bt x (t % 8) ^^ decide (t = p))
    unfold bt
    rw [Nat.testBit_xor, Nat.testBit_two_pow]
    congr 1
    by_cases e : t = p
    · rw [e]; simp
    · rw [decide_eq_false e, decide_eq_false (by omega)]
  · rw [if_neg h, decide_eq_false (by omega)]
    simp
theorem ck_ne {row row' : List Nat} {ps : List Nat} {p : Nat} (hl : row'.length = row.length) (hb : ∀ t, rowBit row' t = (rowBit row t ^^ tog (p :: ps) t)) (hp : p < 8 * row.length) (hq : ∀ q ∈ ps, p < q ∧ q < p + 32) : ck row' ≠ ck row := by
  intro e
  have h := rg_burst (fun t => tog (p :: ps) t) p (fun t ht => tog_not fun q hm => by
      rcases List.mem_cons.mp hm with rfl | hm
      · omega
      · have := hq q hm; omega)
    (by show (decide (p = p) ^^ tog ps p) = true
        rw [tog_not fun q hm => by have := hq q hm; omega]; simp)
    (fun t ht => tog_not fun q hm => by
      rcases List.mem_cons.mp hm with rfl | hm
      · omega
      · have := hq q hm; omega) (8 * row.length) hp
  apply h
  have e2 : rg 0 (fun t => tog (p :: ps) t) (8 * row.length) = ck row' ^^^ ck row := by
    unfold ck ckTo
    rw [hl, ← rg_xor, Nat.xor_self]
    refine rg_congr fun t _ => ?_
    rw [hb, Bool.xor_comm (rowBit row t), Bool.xor_assoc, Bool.xor_self, Bool.xor_false]
  rw [e2, e, Nat.xor_self]
end Crc
set_option Elab.async false
set_option linter.all false
set_option maxRecDepth 100000
set_option maxHeartbeats 2000000
namespace Wq
open PySem PySem.Spec PyProof.Rows L2
open Crc (rg chk rowBit ckTo ck)
abbrev sCheck : Stmt := top 16
structure TxtP (K : PySem.W.Frag) (mg : Str → Option Value) : Prop where
  dv : ∃ t, mg "DIVISOR" = some (.int 141 t)
  lb : ∃ t, mg "LOW_BITS" = some (.int 16777215 t)
def spCheckOf (K : PySem.W.Frag) : Sp := fun vs H Q _ => ∃ (a : Addr) (ns : List Nat), vs = [.ref a] ∧ SqT K H a (ns.map nI) ∧ (∀ n ∈ ns, n < 256) ∧ Q (nI (ck ns)) H
theorem scCheck : FnScope ["row", "left", "byte", "top"] ["row"] (defScope sCheck) := ⟨rfl, rfl, rfl, by decide +kernel, rfl, by decide +kernel, by decide +kernel⟩
section
variable {P : Program} {w : World} {K : PySem.W.Frag} {mg : Str → Option Value} {base : Heap}
theorem ok_check (Df : DefAt K mg "check_of" sCheck) (T : TxtP K mg) : Cl P w K mg base 1 "check_of" (spCheckOf K) := by
  refine cl_of Df scCheck (fun vs H Q E h => ?_) (fun _ _ _ _ _ _ us hl => match us, hl with | [_], _ => rfl) (fun f cdv A outer s H vs Q E hr h => ?_)
  · obtain ⟨a, ns, rfl, _⟩ := h
    rfl
  · obtain ⟨a, ns, rfl, hS, hb, k⟩ := h
    obtain ⟨t1, dv⟩ := T.dv
    obtain ⟨t2, lb⟩ := T.lb
    refine ⟨_, pss_cons (ps_set (i := 1) scCheck.nd rfl (Or.inl rfl) (pgi (by exact dv)))
      (pss_cons (ps_for PassesOwn.never rfl (pi_tup (pv 0)) (pg_name (i := 2) scCheck.nd rfl (Or.inl rfl))
        (pss_cons (ps_set (i := 3) scCheck.nd rfl (Or.inl rfl) (pe_op nn_xor (pe_op nn_shr (pv 1) pe_int) (pv 2)))
        (pss_one (ps_set (i := 1) scCheck.nd rfl (Or.inl rfl) (pe_op nn_xor (pe_op nn_xor (pe_op nn_xor (pe_op nn_xor (pe_op nn_shl (pe_op nn_and (pv 1) (pgi (by exact lb))) pe_int) (pv 3)) (pe_op nn_shl (pv 3) pe_int)) (pe_op nn_shl (pv 3) pe_int)) (pe_op nn_shl (pv 3) pe_int))))))
      (pss_one (ps_ret (pv 1)))), ?_⟩
    refine ⟨_, rfl, a, rfl, ⟨_, hS⟩, for_tup (K := K) (a := a) (xs := ns.map nI) (fun i σ H' => ∃ (v u : Option V), σ = [some (.ref a), some (nI (ckTo ns i)), v, u] ∧ H' = H)
      ⟨none, none, rfl, rfl⟩ (fun i σ H' _ ⟨_, _, _, e⟩ => by rw [e]; exact hS) ?_ ?_⟩
    · rintro i y σ H' hi ⟨v, u, rfl, rfl⟩
      obtain ⟨x, hx, rfl⟩ := nats_at hi
      have hx8 : x < 256 := hb x (List.mem_of_getElem? hx)
      have hl := Crc.ckTo_lt ns i
      have e := Crc.ckTo_step hx hx8
      generalize hL : ckTo ns i = l at *
      have htop : Crc.top l x < 256 := by
        unfold Crc.top
        refine Nat.xor_lt_two_pow (n := 8) ?_ hx8
        rw [Nat.shiftRight_eq_div_pow]
        omega
      refine ⟨_, rfl, l, 24, rfl, rfl, trivial, _, rfl, _, x, rfl, rfl, trivial, ?_⟩
      have et : Crc.top l x < 2 ^ 64 + 1 := by omega
      have ea : l &&& 16777215 < 2 ^ 64 + 1 := by
        have e : (16777215 : Nat) = 2 ^ 24 - 1 := rfl
        rw [e, Nat.and_two_pow_sub_one_eq_mod]
        omega
      refine ⟨_, rfl, l, 16777215, rfl, rfl, trivial, _, 8, rfl, rfl, ⟨ea, by decide⟩, _, rfl, _, Crc.top l x, rfl, rfl, trivial, _, rfl, Crc.top l x, 2, rfl, rfl, ⟨et, by decide⟩, _, _, rfl, rfl, trivial, _, rfl, Crc.top l x, 3, rfl, rfl, ⟨et, by decide⟩, _, _, rfl, rfl, trivial, _, rfl, Crc.top l x, 7, rfl, rfl, ⟨et, by decide⟩, _, _, rfl, rfl, trivial, ?_⟩
      refine ⟨some (nI x), some (nI (Crc.top l x)), ?_, rfl⟩
      have eA : l &&& 16777215 = l % 2 ^ 24 := by
        have e : (16777215 : Nat) = 2 ^ 24 - 1 := rfl
        rw [e, Nat.and_two_pow_sub_one_eq_mod]
      rw [e]
      unfold chk
      rw [← eA]
      rfl
    · rintro σ H' ⟨v, u, rfl, rfl⟩
      refine ⟨_, rfl, ?_⟩
      rw [List.length_map]
      exact k
end
end Wq
set_option Elab.async false
set_option linter.all false
set_option maxRecDepth 100000
set_option maxHeartbeats 4000000
set_option exponentiation.threshold 5000
namespace Wq
open PySem PySem.Spec PyProof.Rows L2
open Rb (wh le un val Bp Wr rwa fb rdWhole rdSigns rdBits rdRaw rd Res many cutN)
open Crc (ck)
/-! sealed rows -/
def sld (row : List Nat) : List Nat := wh row.length ++ row ++ le 4 (ck row)
theorem same_fresh {l : Addr} {H H1 H2 : Hp} (s : Same H H1) (hl : H l = none) (B : But l H1 H2) : Same H H2 := fun b o e => B b o (s b o e) (ne_of_none e hl)
theorem SqT.same {K : PySem.W.Frag} {H H' : Hp} {a : Addr} {xs : List V} (h : SqT K H a xs) (s : Same H H') : SqT K H' a xs := by
  rcases h with (h | ⟨o, h⟩) | h
  · exact .inl (.inl (s _ _ h))
  · exact .inl (.inr ⟨o, s _ _ h⟩)
  · exact .inr h
/-- the methods of Writer -/
structure WM (P : Program) (w : World) (K : PySem.W.Frag) (mg : Str → Option Value) (base : Heap) (C : Addr) : Prop where
  cl : Cls K C
  gC : mg "Writer" = some (.ref C)
  ini : ∃ f fd, Mk K C f ∧ FnOk P w K mg base CX0 1 f fd ["self"] (spWI C) ∧ L2.Binds K fd ["self"] []
  wh : ∃ f fd, Meth K C "whole" f ∧ FnOk P w K mg base CX0 1 f fd ["self", "number"] (spWW C) ∧ L2.Binds K fd ["self", "number"] []
  ra : ∃ f fd, Meth K C "raw" f ∧ FnOk P w K mg base CX0 1 f fd ["self", "row"] (spWR K C) ∧ L2.Binds K fd ["self", "row"] []
  bi : ∃ f fd, Meth K C "bits" f ∧ FnOk P w K mg base CX0 1 f fd ["self", "numbers", "width"] (spWB K C) ∧ L2.Binds K fd ["self", "numbers", "width"] []
  al : ∃ f fd, Meth K C "all_bytes" f ∧ FnOk P w K mg base CX0 1 f fd ["self"] (spWA C) ∧ L2.Binds K fd ["self"] []
abbrev sSe : Stmt := top 18
theorem scSe : FnScope ["row", "writer"] ["row"] (defScope sSe) := ⟨rfl, rfl, rfl, by decide +kernel, rfl, by decide +kernel, by decide +kernel⟩
def spSe (K : PySem.W.Frag) : Sp := fun vs H Q _ => ∃ (a : Addr) (row : List Nat), vs = [.ref a] ∧ SqT K H a (row.map nI) ∧ (∀ b ∈ row, b < 256) ∧ row.length ≤ 5000 ∧ ∀ t G, Same H G → G t = some (.tup ((sld row).map nI)) → Q (.ref t) G
section
variable {P : Program} {w : World} {K : PySem.W.Frag} {mg : Str → Option Value} {base : Heap} {C : Addr}
theorem ok_Se (D : DefAt K mg "sealed" sSe) (T : Txt K mg) (W : WM P w K mg base C) (CK : Cl P w K mg base 1 "check_of" (spCheckOf K)) : Cl P w K mg base 3 "sealed" (spSe K) := by
  obtain ⟨fI, fdI, MI, GI, bI⟩ := W.ini
  obtain ⟨fW, fdW, MW, GW, bW⟩ := W.wh
  obtain ⟨fR, fdR, MR, GR, bR⟩ := W.ra
  obtain ⟨fB, fdB, MB, GB, bB⟩ := W.bi
  obtain ⟨fA, fdA, MA, GA, bA⟩ := W.al
  refine cl_of D scSe (fun vs H Q E h => ?_) (fun _ _ _ _ _ _ us hl => match us, hl with | [_], _ => rfl) (fun f cdv A outer s H vs Q E hr h => ?_)
  · obtain ⟨a, row, rfl, _⟩ := h
    rfl
  · obtain ⟨a, row, rfl, hS, hb, hl, k⟩ := h
    refine ⟨_, pss_cons (ps_set (i := 1) scSe.nd rfl (Or.inl rfl) (pe_make0 MI GI hr rfl (by exact W.gC) bI .nil pass0))
(pss_cons (ps_expr (pe_meth (pv 1) W.cl MW GW (hr.mono (by decide)) bW .nil pass0 (pa_cons (pe_callB call_len_seq (by rfl) (by exact T.len) PySem.boot_len (pa_cons (pv 0) pa_nil)) pa_nil)))
(pss_cons (ps_expr (pe_meth (pv 1) W.cl MR GR (hr.mono (by decide)) bR .nil pass0 (pa_cons (pv 0) pa_nil)))
(pss_cons (ps_expr (pe_meth (pv 1) W.cl MB GB (hr.mono (by decide)) bB .nil pass0 (pa_cons (pe_lst (pa_cons (pe_cl CK hr (by decide) rfl (pa_cons (pv 0) pa_nil)) pa_nil)) (pa_cons pe_int pa_nil))))
(pss_one (ps_ret (pe_meth0 (pv 1) W.cl MA GA (hr.mono (by decide)) bA .nil pass0)))))), ?_⟩
    refine fun p dx hp hdx hne => ⟨p, dx, rfl, upd_same, fun l H1 hl0 W1 e1 => ⟨rfl, ?_⟩⟩
    have hlH : H l = none := by
      cases e : H l with
      | none => rfl
      | some o =>
        have n1 : l ≠ p := ne_of_none e hp
        have n2 : l ≠ dx := ne_of_none e hdx
        rw [upd_ne n1, upd_ne n2, e] at hl0
        cases hl0
    have s1 : Same H H1 := fun b o e => by
      have n1 : b ≠ p := ne_of_none e hp
      have n2 : b ≠ dx := ne_of_none e hdx
      exact e1 b o (by rw [upd_ne n1, upd_ne n2]; exact e) n1
    obtain ⟨d1, h1⟩ := W1.ob
    have hwl : (wh row.length).length ≤ 2 := wh_len _ 2 (by omega) (by decide)
    refine ⟨_, rfl, p, d1, _, rfl, h1, wf_no l (by decide +kernel), _, rfl, a, _, rfl, .inr (SqT.same hS s1), p, l, [], row.length, ?_, W1, ?_, by decide, fun H2 B2 W2 => ?_⟩
    · rw [List.length_map]
      rfl
    · exact Nat.lt_of_le_of_lt hl (by decide)
    have s2 : Same H H2 := same_fresh s1 hlH B2
    obtain ⟨d2, h2⟩ := W2.ob
    refine ⟨_, rfl, p, d2, _, rfl, h2, wf_no l (by decide +kernel), _, rfl, p, l, a, _, row, rfl, W2, SqT.same hS s2, ?_, fun H3 B3 W3 => ?_⟩
    · rw [List.nil_append]
      omega
    have s3 : Same H H3 := same_fresh s2 hlH B3
    obtain ⟨d3, h3⟩ := W3.ob
    have hc : ck row < 2 ^ 32 := Crc.ckTo_lt row _
    refine ⟨_, rfl, p, d3, _, rfl, h3, wf_no l (by decide +kernel), _, rfl, a, row, rfl, SqT.same hS s3, hb, by show 1 ≤ sizeLine; decide, fun q hq => ?_⟩
    have s4 : Same H3 (upd H3 q (.lst [nI (ck row)])) := Same.new hq
    have W4 : WAt C (upd H3 q (.lst [nI (ck row)])) p l _ := ⟨⟨d3, s4 _ _ h3⟩, s4 _ _ W3.ls⟩
    have nql : q ≠ l := fun e => by
      have := W3.ls
      rw [← e, hq] at this
      cases this
    refine ⟨p, l, q, _, [ck row], 32, rfl, W4, .inl (.inl upd_same), fun H' B' => .inl (.inl (B' _ _ upd_same nql)), ?_, by decide, by show 1 ≤ 1000; decide, ?_, fun H5 B5 W5 => ?_⟩
    · intro n hn
      rw [List.mem_singleton.mp hn]
      exact hc
    · simp only [List.nil_append, List.length_append]
      omega
    have s5 : Same H H5 := same_fresh (s3.trans s4) hlH B5
    obtain ⟨d5, h5⟩ := W5.ob
    refine ⟨_, rfl, p, d5, _, rfl, h5, wf_no l (by decide +kernel), p, l, _, rfl, W5, fun t ht => ?_⟩
    refine k t _ (s5.trans (Same.new ht)) ?_
    rw [upd_same]
    have e : ([] ++ wh row.length ++ row ++ le ((32 * [ck row].length + 7) / 8) (val 32 [ck row])) = sld row := by
      have ev : val 32 [ck row] = ck row := by simp [val]
      rw [ev, List.nil_append, show (32 * [ck row].length + 7) / 8 = 4 by simp]
      rfl
    rw [e]
end
end Wq
set_option Elab.async false
set_option linter.all false
set_option maxRecDepth 100000
set_option maxHeartbeats 2000000
set_option exponentiation.threshold 5000
namespace Wq
open PySem PySem.Spec PyProof.Rows L2
open Rb (wh le un val Bp Wr rwa fb rdWhole rdSigns rdBits rdRaw rd Res many cutN)
theorem pss_pre {X : Cx} {b : List Stmt} {t t' : TS} (h : PSs X b t) (i : ∀ D σ H, t' D σ H → t D σ H) : PSs X b t' := ⟨fun pins s σ H D I q => h.run pins s σ H D I (i D σ H q)⟩
section
variable {X : Cx} {CX : CXT} {k : Nat} {f C : Addr} {fd : FuncData} {ps : List Str} {sp : Sp} {E : L2.St → XK} {m : Str} {p pos apos : Pos} {e o : Expr} {es : List Expr} {ta : TE} {t : TA}
/-- a method called where what is let out knows the slots -/
def tMethV (C : Addr) (m : Str) (sp : Sp) (E : L2.St → XK) (ta : TE) (t : TA) : TE := fun σ H Q => ta σ H fun x H1 => ∃ a dx fs, x = .ref a ∧ H1 a = some (.ins C dx fs) ∧ fs.lookup m = none ∧
  t σ H1 fun vs H2 => sp (x :: vs) H2 Q (E σ)
theorem pe_methV {pl : Sem Bool} (he : PE X o ta) (c : Cls X.K C) (hm : Meth X.K C m f) (F : FnOk X.prog X.w X.K X.mg X.base CX k f fd ps sp) (hr : Room k X.A) (hb : Binds X.K fd ps []) (hx : ∀ σ, PassesAt CX X σ (E σ)) (ha : PA X (e :: es) t)
    (hst : starEach (e :: es) X.env = (false, eval e X.env) :: starEach es X.env := by rfl) (hpl : (backTo pos (starEach es X.env)).any (·.1) = false := by rfl)
    (ht : eval (.Call (.Attribute o m apos) (e :: es) [] pos) X.env = (do
      let ov ← eval o X.env
      standAt apos.atName
      let (f, first) ← holding [ov] (getMethod ov m pl)
      callWith pos f first (backTo pos (starEach (e :: es) X.env)) (backToKw pos (keywordEach [] X.env))) := by rfl) :
    PE X (.Call (.Attribute o m apos) (e :: es) [] pos) (tMethV C m sp E ta t) := by
  refine ⟨fun pins s σ H Q I h => ?_⟩
  refine PySem.W.methodCall_KW (pl := pl) (thn (he.run pins s σ H _ I h) fun u s1 z => ?_) ht
  obtain ⟨x, H1, I1, rx, a, dx, fs, ex, ea, l, q⟩ := z
  subst ex
  obtain rfl : u = Value.ref a := rx
  refine getmeth_ok I1 ea c hm l ?_
  refine PySem.W.callWith_K (first := [.ref a]) (h₀ := X.base) I.ok.mod.kin hm.kp (thn (ha.run pos pins s1 σ H1 _ I1 q) fun us s2 z2 => ?_) hst hpl
  obtain ⟨vs, H2, I2, r, q2⟩ := z2
  exact ⟨I2.kIn, run_fnS (us := .ref a :: us) (vs := .ref a :: vs) F hr hb (hx σ) I2 (.cons rfl r) q2⟩
theorem pe_meth0V {pl : Sem Bool} (he : PE X o ta) (c : Cls X.K C) (hm : Meth X.K C m f) (F : FnOk X.prog X.w X.K X.mg X.base CX k f fd ps sp) (hr : Room k X.A) (hb : Binds X.K fd ps []) (hx : ∀ σ, PassesAt CX X σ (E σ))
    (ht : eval (.Call (.Attribute o m apos) [] [] pos) X.env = (do
      let ov ← eval o X.env
      standAt apos.atName
      let (f, first) ← holding [ov] (getMethod ov m pl)
      callWith pos f first (backTo pos (starEach [] X.env)) (backToKw pos (keywordEach [] X.env))) := by rfl) :
    PE X (.Call (.Attribute o m apos) [] [] pos) (tMethV C m sp E ta tNil) := by
  refine ⟨fun pins s σ H Q I h => ?_⟩
  refine PySem.W.methodCall_KW (pl := pl) (thn (he.run pins s σ H _ I h) fun u s1 z => ?_) ht
  obtain ⟨x, H1, I1, rx, a, dx, fs, ex, ea, l, q⟩ := z
  subst ex
  obtain rfl : u = Value.ref a := rx
  refine getmeth_ok I1 ea c hm l ?_
  exact PySem.W.callWith_K0 (first := [.ref a]) I1.kIn hm.kp (run_fnS (us := [.ref a]) (vs := [.ref a]) F hr hb (hx σ) I1 (.cons rfl .nil) q)
end
end Wq
set_option Elab.async false
set_option linter.all false
set_option maxRecDepth 100000
set_option maxHeartbeats 4000000
set_option exponentiation.threshold 5000
namespace Wq
open PySem PySem.Spec PyProof.Rows L2
open Rb (wh le un val Bp Wr rwa fb rdWhole rdSigns rdBits rdRaw rd Res many cutN)
open Crc (ck)
/-! what is within a row -/
theorem hu64 {A : Around} {k : Nat} (hr : Room k A) : A.units + 64 < cLine := by
  have := hr.un
  omega
def MthX (P : Program) (w : World) (K : PySem.W.Frag) (mg : Str → Option Value) (base : Heap) (C : Addr) (m : Str) (k : Nat) (ps : List Str) (sp : Sp) : Prop :=
  ∃ f fd, Meth K C m f ∧ FnOk P w K mg base (L2.CX P w) k f fd ps sp ∧ L2.Binds K fd ps []
structure RM (P : Program) (w : World) (K : PySem.W.Frag) (mg : Str → Option Value) (base : Heap) (C CE : Addr) : Prop where
  tr : TxtR K mg C
  gC : mg "RowReader" = some (.ref C)
  gE : mg "BadBytes" = some (.ref CE)
  te : PySem.W.exmOne K (.ref CE) (.ref CE) = some true
  ini : ∃ f fd, Mk K C f ∧ FnOk P w K mg base CX0 1 f fd ["self", "row"] (spRI C) ∧ L2.Binds K fd ["self", "row"] []
  bi : MthX P w K mg base C "bits" 4 ["self", "many", "width"] (spRT C CE)
  ra : MthX P w K mg base C "raw" 3 ["self", "many"] (spRR C CE)
  wo : MthX P w K mg base C "whole" 5 ["self"] (spRW C CE)
  sg : MthX P w K mg base C "signs" 5 ["self"] (spRS C CE)
def Reads3 (row : List Nat) (v : List Nat) (ns : List Nat) (b : Nat) : Prop := ∃ n c a, rwa row 0 0 = .ok n c ∧ rdRaw row c n = .bytes v a ∧ rdBits row a 1 32 = .nums ns b
def Within (row v : List Nat) : Prop := Reads3 row v [ck v] row.length
abbrev sRo : Stmt := top 19
theorem scRo : FnScope ["row", "reader", "within", "told"] ["row"] (defScope sRo) := ⟨rfl, rfl, rfl, by decide +kernel, rfl, by decide +kernel, by decide +kernel⟩
def spRo : Sp := fun vs H Q _ => ∃ (q : Addr) (row : List Nat), vs = [.ref q] ∧ H q = some (.tup (row.map nI)) ∧ (∀ b ∈ row, b < 256) ∧ row.length ≤ 100000 ∧
  (∀ v, Within row v → ∀ t G, Same H G → G t = some (.tup (v.map nI)) → Q (.ref t) G) ∧ ((∀ v, ¬ Within row v) → ∀ G, Same H G → Q .non G)
def bRo (C CE p q : Addr) (row : List Nat) (W : WX) : TS := fun D σ H => σ = [some (.ref q), some (.ref p), none, none] ∧ RAt C H p q row 0 ∧
  (∀ v ns b, Reads3 row v ns b → ∀ l m H', But p H H' → RAt C H' p q row b → H' l = some (.tup (v.map nI)) → H' m = some (.lst (ns.map nI)) → D.nx [some (.ref q), some (.ref p), some (.ref l), some (.ref m)] H') ∧
  ((∀ v ns b, ¬ Reads3 row v ns b) → ∀ x d H', But p H H' → W (.ref CE) (some d) [some (.ref q), some (.ref p), x, none] H')
section
variable {P : Program} {w : World} {K : PySem.W.Frag} {mg : Str → Option Value} {base : Heap} {C CE : Addr}
theorem Reads3.one {row v v' ns ns' : List Nat} {b b' : Nat} (h : Reads3 row v ns b) (h' : Reads3 row v' ns' b') : v = v' ∧ ns = ns' ∧ b = b' := by
  obtain ⟨n, c, a, h1, h2, h3⟩ := h
  obtain ⟨n', c', a', h1', h2', h3'⟩ := h'
  rw [h1] at h1'
  cases h1'
  rw [h2] at h2'
  cases h2'
  rw [h3] at h3'
  cases h3'
  exact ⟨rfl, rfl, rfl⟩
theorem Reads3.facts {row v ns : List Nat} {b : Nat} (hb : ∀ x ∈ row, x < 256) (h : Reads3 row v ns b) : (∀ x ∈ v, x < 256) ∧ ∃ x, ns = [x] := by
  obtain ⟨n, c, a, h1, h2, h3⟩ := h
  constructor
  · unfold rdRaw at h2
    split at h2
    · cases h2
    · cases h2
      exact fun x hx => hb x (List.mem_of_mem_drop (List.mem_of_mem_take hx))
  · unfold rdBits at h3
    split at h3
    · cases h3
    · split at h3
      · cases h3
      · cases h3
        exact ⟨_, rfl⟩
theorem eqv1 (x y : Nat) : PyData.eqv (.list [.int (x : Int)]) (.list [.int (y : Int)]) = decide (x = y) := by
  rw [PyData.eqv, PyData.eqvAll, PyData.eqv, PyData.eqvAll, Bool.and_true]
  by_cases h : x = y
  · subst h
    simp
  · rw [decide_eq_false h]
    exact beq_eq_false_iff_ne.mpr (by omega)
theorem ok_Ro (D : DefAt K mg "row_within" sRo) (R : RM P w K mg base C CE) (CK : Cl P w K mg base 1 "check_of" (spCheckOf K)) : Cl P w K mg base 6 "row_within" spRo := by
  obtain ⟨fI, fdI, MI, GI, bI⟩ := R.ini
  obtain ⟨fT, fdT, MT, GT, bT⟩ := R.bi
  obtain ⟨fR, fdR, MR, GR, bR⟩ := R.ra
  obtain ⟨fW, fdW, MW, GW, bW⟩ := R.wo
  refine cl_of D scRo (fun vs H Q E h => ?_) (fun _ _ _ _ _ _ us hl => match us, hl with | [_], _ => rfl) (fun f cdv A outer s H vs Q E hr h => ?_)
  · obtain ⟨q, row, rfl, _⟩ := h
    rfl
  · obtain ⟨q, row, rfl, hq, hb, hl, k1, k2⟩ := h
    refine ⟨_, C8.pss_cut (ps_set (i := 1) scRo.nd rfl (Or.inl rfl) (pe_make MI GI (hr.mono (by decide)) rfl (by exact R.gC) bI .nil pass0 (pa_cons (pv 0) pa_nil)))
(C8.pss_cut (ps_try_only (c := .ref CE) (tb := fun W D σ H => ∃ p, bRo C CE p q row W D σ H) (ts := fun _ _ _ D σ H => D.rt .non H) (Wout := fun _ _ _ _ => False) rfl rfl ⟨rfl, by decide, .inl R.gE⟩ takes0
      (fun W pn xe tk _ => pss_pre (pss_cons (ps_set (i := 2) scRo.nd rfl (Or.inl rfl) (pe_methV (pv 1) R.tr.cl MR GR (hr.mono (by decide)) bR (fun σ => passAt tk σ) (pa_cons (pe_meth0V (pv 1) R.tr.cl MW GW (hr.mono (by decide)) bW (fun σ => passAt tk σ)) pa_nil)))
(pss_one (ps_set (i := 3) scRo.nd rfl (Or.inl rfl) (pe_methV (pv 1) R.tr.cl MT GT (hr.mono (by decide)) bT (fun σ => passAt tk σ) (pa_cons pe_int (pa_cons pe_int pa_nil)))))) (fun D σ H hb => ?_))
      (fun a oe cls d pn _ _ => pss_pre (pss_one (ps_ret pe_non)) (fun D σ H hb => hb)))
(pss_cons (ps_if (PW.pt (pw_or (pt_not (pt_val (pe_fld (pv 1) rfl))) (pw_or1 (pt_cmpR (op_neD (hu64 hr)) (pv 3) (pe_lst (pa_cons (pe_cl CK hr (by decide) rfl (pa_cons (pv 2) pa_nil)) pa_nil)) (nomark _)))))
(pss_one (ps_ret pe_non))
pss_nil)
(pss_one (ps_ret (pv 2))))), ?_⟩
    · obtain ⟨p, rfl, Ra, j1, j2⟩ := hb
      obtain ⟨dx, hp⟩ := Ra.ob
      refine ⟨_, rfl, p, dx, _, rfl, hp, by rfl, ?_⟩
      refine ⟨_, rfl, p, dx, _, rfl, hp, by rfl, p, q, row, 0, rfl, Ra, Nat.zero_le _, hl, hb, fun n c H1 e1 B1 R1 => ?_, fun e he d H1 hE => j2 (fun v ns b ⟨n', c', a', h1, _, _⟩ => ?_) none d H1 (But.same hE.1)⟩
      rotate_left
      · have he : rwa row 0 0 = .err e := he
        rw [he] at h1
        cases h1
      have e1 : rwa row 0 0 = .ok n c := e1
      rw [Nat.zero_add] at R1
      have hc := Rb.rwa_ok e1
      refine ⟨p, q, row, c, n, rfl, R1, by omega, hl, fun v a l H2 e2 B2 R2 hl2 => ?_, fun e he d H2 hE => j2 (fun v ns b ⟨n', c', a', h1, h2, _⟩ => ?_) none d H2 (B1.trans (But.same hE.1))⟩
      rotate_left
      · rw [e1] at h1
        cases h1
        rw [he] at h2
        cases h2
      have ha : a ≤ row.length := by
        unfold rdRaw at e2
        split at e2
        · cases e2
        · cases e2
          omega
      obtain ⟨d2, hp2⟩ := R2.ob
      refine ⟨_, rfl, p, d2, _, rfl, hp2, by rfl, p, q, row, a, 1, 32, rfl, R2, ha, hl, hb, by decide, by decide, fun ns b m H3 e3 B3 R3 hm => ?_, fun e he d H3 hE => j2 (fun v' ns b ⟨n', c', a', h1, h2, h3⟩ => ?_) _ d H3 (B1.trans (B2.trans (But.same hE.1)))⟩
      · exact j1 v ns b ⟨n, c, a, e1, e2, e3⟩ l m H3 (B1.trans (B2.trans B3)) R3 (B3 _ _ hl2 (ne_of hl2 hp2 (by intro z; cases z))) hm
      · rw [e1] at h1
        cases h1
        rw [e2] at h2
        cases h2
        rw [he] at h3
        cases h3
    · refine ⟨fun σ G => ∃ p, σ = [some (.ref q), some (.ref p), none, none] ∧ Same H G ∧ H p = none ∧ RAt C G p q row 0, ?_, ?_⟩
      · refine ⟨_, rfl, fun p dx hp hdx hne => ⟨p, dx, q, row, rfl, upd_same, ?_, fun H1 B1 R1 => ⟨rfl, p, rfl, ?_, hp, R1⟩⟩⟩
        · rw [upd_ne (ne_of_none hq hp), upd_ne (ne_of_none hq hdx)]
          exact hq
        · intro b o e
          have n1 : b ≠ p := ne_of_none e hp
          have n2 : b ≠ dx := ne_of_none e hdx
          exact B1 b o (by rw [upd_ne n1, upd_ne n2]; exact e) n1
      rintro σ G1 ⟨p, rfl, s1, hp0, R1⟩
      have sB : ∀ {G' : Hp}, But p G1 G' → Same H G' := fun B => same_fresh s1 hp0 B
      refine ⟨fun σ G => ∃ v ns b l m, Reads3 row v ns b ∧ σ = [some (.ref q), some (.ref p), some (.ref l), some (.ref m)] ∧ But p G1 G ∧ RAt C G p q row b ∧ G l = some (.tup (v.map nI)) ∧ G m = some (.lst (ns.map nI)), ?_, ?_⟩
      · refine ⟨p, rfl, R1, fun v ns b hr3 l m G' B' R' hl' hm' => ⟨v, ns, b, l, m, hr3, rfl, B', R', hl', hm'⟩, fun hno x d G' B' => ⟨true, R.te, fun _ a ha => ?_, fun z => by cases z⟩⟩
        exact k2 (fun v hw => hno _ _ _ hw) G' (sB B')
      rintro σ G2 ⟨v, ns, b, l, m, hr3, rfl, B2, R2, hl2, hm2⟩
      obtain ⟨d2, hp2⟩ := R2.ob
      refine ⟨_, rfl, p, C, d2, _, _, rfl, hp2, R.tr.cl, R.tr.nD, rfl, _, rfl, ?_⟩
      obtain ⟨hv, x, rfl⟩ := hr3.facts hb
      by_cases he : b = row.length
      · subst he
        refine (if_neg (by simp)).mpr ?_
        refine ⟨_, rfl, _, rfl, l, v, rfl, .inl (.inl hl2), hv, by show 1 ≤ sizeLine; decide, fun e he => ?_⟩
        have s3 := Same.new (o := .lst [nI (ck v)]) he
        refine ⟨.list [.int x], .list [.int (ck v)], .lst (.inl (.inl (s3 _ _ hm2))) (.cons (.int _) .nil), .lst (.inl (.inl upd_same)) (.cons (.int _) .nil), rfl, rfl, _, rfl, ?_⟩
        rw [eqv1]
        by_cases hx : x = ck v
        · rw [decide_eq_true hx]
          refine (if_neg (by decide)).mpr ?_
          subst hx
          exact ⟨_, rfl, k1 v hr3 l _ ((sB B2).trans s3) (s3 _ _ hl2)⟩
        · rw [decide_eq_false hx]
          refine (if_pos (by decide)).mpr ?_
          refine k2 (fun v' hw => ?_) _ ((sB B2).trans s3)
          obtain ⟨e1, e2, _⟩ := hr3.one hw
          subst e1
          exact hx (List.cons.inj e2).1
      · refine (if_pos (by simp [he])).mpr ?_
        exact k2 (fun v' hw => he (hr3.one hw).2.2) _ (sB B2)
end
end Wq
set_option Elab.async false
set_option linter.all false
set_option maxRecDepth 100000
set_option maxHeartbeats 4000000
set_option exponentiation.threshold 5000
namespace Wq
open PySem PySem.Spec PyProof.Rows L2
open Rb (wh le un val Bp Wr rwa fb rdWhole rdSigns rdBits rdRaw rd Res many cutN)
open Crc (ck)
/-! TornFile(name) -/
abbrev sTF : Stmt := inClass (top 3) 0
theorem scTF : FnScope ["self", "name"] ["self", "name"] (defScope sTF) := ⟨rfl, rfl, rfl, by decide +kernel, rfl, by decide +kernel, by decide +kernel⟩
structure TxtF (K : PySem.W.Frag) (mg : Str → Option Value) (CE fI : Addr) : Prop where
  ox : OexC K CE
  nN : PySem.W.findIn K (.ref CE) "name" = some none
  iC : PySem.W.findIn K (.ref CE) "__init__" = some (some (.ref fI))
  tI : PySem.W.typeIn K (.ref fI) = some (.type "function")
  gC : mg "TornFile" = some (.ref CE)
  xf : XfC K CE
  te : PySem.W.exmOne K (.ref CE) (.ref CE) = some true
def spTF (CE : Addr) : Sp := fun vs H Q _ => ∃ (a : Addr) (v : V), vs = [.ref a, v] ∧ H a = some (exo a CE none) ∧ ∀ d, H d = none → d ≠ a → Q .non (upd (upd H d (exd d [("name", v)])) a (exo a CE (some d)))
def ErrN (H H' : Hp) (d : Addr) (v : V) : Prop := Same H H' ∧ H d = none ∧ H' d = some (.xd [("name", v)])
theorem errN_heap {H : Hp} {a d CE : Addr} {v : V} (ha : H a = none) (hd : (upd H a (exo a CE none)) d = none) (hda : d ≠ a) : ErrN H (upd (del (upd (upd (upd H a (exo a CE none)) d (exd d [("name", v)])) a (exo a CE (some d))) a) d (.xd [("name", v)])) d v := by
  have hd' : H d = none := by rw [upd_ne hda] at hd; exact hd
  refine ⟨fun b o e => ?_, hd', upd_same⟩
  have hba : b ≠ a := ne_of_none e ha
  have hbd : b ≠ d := ne_of_none e hd'
  rw [upd_ne hbd, del_ne hba, upd_ne hba, upd_ne hbd, upd_ne hba]
  exact e
theorem ErrN.mono {H H1 H2 : Hp} {d : Addr} {v : V} (s : Same H H1) (h : ErrN H1 H2 d v) : ErrN H H2 d v := by
  refine ⟨s.trans h.1, ?_, h.2.2⟩
  cases e : H d with
  | none => rfl
  | some o =>
    have := s _ _ e
    rw [h.2.1] at this
    cases this
structure Cle (P : Program) (w : World) (K : PySem.W.Frag) (mg : Str → Option Value) (base : Heap) (k : Nat) (x : Str) (sp : Sp) : Prop where
  ex : ∃ (f : Addr) (fd : FuncData) (ps : List Str), FnOk P w K mg base (L2.CX P w) k f fd ps sp ∧ mg x = some (.ref f) ∧ PySem.W.keepIn K (.ref f) = true ∧ L2.Binds K fd ps []
abbrev sWh : Stmt := top 20
theorem scWh : FnScope ["row"] ["row"] (defScope sWh) := ⟨rfl, rfl, rfl, by decide +kernel, rfl, by decide +kernel, by decide +kernel⟩
abbrev sUn : Stmt := top 21
theorem scUn : FnScope ["name", "row", "within"] ["name", "row"] (defScope sUn) := ⟨rfl, rfl, rfl, by decide +kernel, rfl, by decide +kernel, by decide +kernel⟩
def spWh : Sp := fun vs H Q _ => ∃ (q : Addr) (row : List Nat), vs = [.ref q] ∧ H q = some (.tup (row.map nI)) ∧ (∀ b ∈ row, b < 256) ∧ row.length ≤ 100000 ∧
  ((∃ v, Within row v) → ∀ G, Same H G → Q (.bl true) G) ∧ ((∀ v, ¬ Within row v) → ∀ G, Same H G → Q (.bl false) G)
def spUn (CE : Addr) : Sp := fun vs H Q E => ∃ (x : V) (q : Addr) (row : List Nat), vs = [x, .ref q] ∧ H q = some (.tup (row.map nI)) ∧ (∀ b ∈ row, b < 256) ∧ row.length ≤ 100000 ∧
  (∀ v, Within row v → ∀ t G, Same H G → G t = some (.tup (v.map nI)) → Q (.ref t) G) ∧ ((∀ v, ¬ Within row v) → ∀ d G, ErrN H G d x → E (.ref CE) (some d) G)
section
variable {P : Program} {w : World} {K : PySem.W.Frag} {mg : Str → Option Value} {base : Heap} {CE fI : Addr}
theorem ok_TF {fd : FuncData} (F : Fun K "__init__" "TornFile.__init__" sTF fI fd) (T : TxtF K mg CE fI) : FnOk P w K mg base CX0 1 fI fd ["self", "name"] (spTF CE) := by
  refine F.ok scTF (fun vs H Q E h => ?_) (fun cdv A outer s H vs Q E hr h => ?_)
  · obtain ⟨a, v, rfl, _⟩ := h
    rfl
  · obtain ⟨a, v, rfl, ha, k⟩ := h
    exact ⟨_, pss_one (ps_ost (pv 0) (pv 1)), _, rfl, _, rfl, a, CE, rfl, T.ox, T.nN, .inl ⟨ha, fun dx n ne => k dx n ne⟩⟩
theorem ok_Wh (D : DefAt K mg "is_whole" sWh) (CR : Cl P w K mg base 6 "row_within" spRo) : Cl P w K mg base 7 "is_whole" spWh := by
  refine cl_of D scWh (fun vs H Q E h => ?_) (fun _ _ _ _ _ _ us hl => match us, hl with | [_], _ => rfl) (fun f cdv A outer s H vs Q E hr h => ?_)
  · obtain ⟨q, row, rfl, _⟩ := h
    rfl
  · obtain ⟨q, row, rfl, hq, hb, hl, k1, k2⟩ := h
    refine ⟨_, pss_one (ps_ret (pe_cmpR op_notN (pe_cl CR hr (by decide) rfl (pa_cons (pv 0) pa_nil)) pe_non (nomark _))), ?_⟩
    refine ⟨_, rfl, q, row, rfl, hq, hb, hl, fun v hv t G s ht => ⟨rfl, ?_⟩, fun hno G s => ⟨rfl, k2 hno G s⟩⟩
    exact k1 ⟨v, hv⟩ G s
theorem ok_Un {fdI : FuncData} (D : DefAt K mg "unsealed" sUn) (TF : TxtF K mg CE fI) (GI : FnOk P w K mg base CX0 1 fI fdI ["self", "name"] (spTF CE)) (bI : L2.Binds K fdI ["self", "name"] []) (CR : Cl P w K mg base 6 "row_within" spRo) : Cle P w K mg base 7 "unsealed" (spUn CE) := by
  obtain ⟨f, fd, FF, hm⟩ := D.ex
  refine ⟨f, fd, ["name", "row"], FF.okX scUn (fun vs H Q E h => ?_) (fun cdv A outer s H vs Q E hr h => ?_), hm, FF.kp, FF.binds fun _ _ _ _ _ _ us hl => match us, hl with | [_, _], _ => rfl⟩
  · obtain ⟨x, q, row, rfl, _⟩ := h
    rfl
  · obtain ⟨x, q, row, rfl, hq, hb, hl, k1, k2⟩ := h
    refine ⟨_, pss_cons (ps_set (i := 2) scUn.nd rfl (Or.inl rfl) (pe_cl CR hr (by decide) rfl (pa_cons (pv 1) pa_nil)))
(pss_cons (ps_if (pt_cmpR op_isN (pv 2) pe_non (nomark _))
(pss_one (ps_raise rfl (takes_of rfl rfl rfl rfl) (pmk_oex TF.ox TF.iC TF.tI GI (hr.mono (by decide)) bI .nil pass0 rfl (by exact TF.gC) (by exact (pa_cons (pv 0) pa_nil)))))
pss_nil)
(pss_one (ps_ret (pv 2)))), ?_⟩
    refine ⟨_, rfl, q, row, rfl, hq, hb, hl, fun v hv t G s ht => ?_, fun hno G s => ?_⟩
    · refine ⟨_, rfl, rfl, _, rfl, (if_neg (by simp)).mpr ?_⟩
      exact ⟨_, rfl, k1 v hv t G s ht⟩
    · refine ⟨_, rfl, rfl, _, rfl, (if_pos (by simp)).mpr ?_⟩
      refine ⟨_, rfl, (by show 1 ≤ 1000; decide), fun a ha => ⟨a, _, rfl, upd_same, fun d hd hda => ⟨rfl, d, _, upd_same, by rw [upd_ne hda, upd_same], by rw [upd_ne hda] at hd; exact hd, ?_⟩⟩⟩
      exact k2 hno d _ (ErrN.mono s (errN_heap ha hd hda))
end
end Wq
set_option Elab.async false
set_option linter.all false
set_option maxRecDepth 100000
set_option maxHeartbeats 4000000
set_option exponentiation.threshold 5000
namespace Wq
open PySem PySem.Spec PyProof.Rows L2
open Rb (wh le un val Bp Wr rwa fb rdWhole rdSigns rdBits rdRaw rd Res many cutN)
open Crc (ck)
/-! rows of marks -/
def mkF (m : Nat) (ns : List Nat) : List Nat := (List.range m).map fun j => if j ∈ ns then 1 else 0
def mkR (m : Nat) (ns : List Nat) : List Nat := wh m ++ le ((m + 7) / 8) (val 1 (mkF m ns))
theorem mkF_len (m : Nat) (ns : List Nat) : (mkF m ns).length = m := by simp [mkF]
theorem mkF_nil (m : Nat) : mkF m [] = List.replicate m 0 := by
  unfold mkF
  apply List.ext_getElem
  · simp
  · intro i h1 h2
    simp
theorem mkF_set {m n : Nat} (ns : List Nat) (h : n < m) : (mkF m ns).set n 1 = mkF m (ns ++ [n]) := by
  unfold mkF
  apply List.ext_getElem
  · simp
  · intro i h1 h2
    rw [List.getElem_set]
    by_cases e : n = i
    · subst e
      simp
    · rw [if_neg e]
      have e' : ¬ i = n := fun z => e z.symm
      simp [e']
theorem mkF_01 {m : Nat} {ns : List Nat} : ∀ n ∈ mkF m ns, n < 2 ^ 1 := by
  intro n hn
  unfold mkF at hn
  obtain ⟨j, _, rfl⟩ := List.mem_map.mp hn
  split <;> decide
theorem mkR_lt (m : Nat) (ns : List Nat) : ∀ b ∈ mkR m ns, b < 256 := by
  intro b hb
  rcases List.mem_append.mp hb with h | h
  · exact Rb.wh_lt _ b h
  · exact Rb.le_lt _ _ b h
abbrev sMR : Stmt := top 22
abbrev NMR : List Str := ["many", "numbers", "marks", "number", "writer"]
theorem scMR : FnScope NMR ["many", "numbers"] (defScope sMR) := ⟨rfl, rfl, rfl, by decide +kernel, rfl, by decide +kernel, by decide +kernel⟩
def spMR (K : PySem.W.Frag) : Sp := fun vs H Q _ => ∃ (m : Nat) (a : Addr) (ns : List Nat), vs = [nI m, .ref a] ∧ SqL K H a (ns.map nI) ∧ (∀ n ∈ ns, n < m) ∧ m ≤ 1000 ∧ ∀ t G, Same H G → G t = some (.tup ((sld (mkR m ns)).map nI)) → Q (.ref t) G
theorem SqL_same {K : PySem.W.Frag} {H H' : Hp} {a : Addr} {xs : List V} (h : SqL K H a xs) (s : Same H H') : SqL K H' a xs := by
  rcases h with (h | ⟨o, h⟩) | h
  · exact .inl (.inl (s _ _ h))
  · exact .inl (.inr ⟨o, s _ _ h⟩)
  · exact .inr h
section
variable {P : Program} {w : World} {K : PySem.W.Frag} {mg : Str → Option Value} {base : Heap} {C : Addr}
theorem ok_MR (D : DefAt K mg "marked_row" sMR) (T : Txt K mg) (W : WM P w K mg base C) (CS : Cl P w K mg base 3 "sealed" (spSe K)) : Cl P w K mg base 4 "marked_row" (spMR K) := by
  obtain ⟨fI, fdI, MI, GI, bI⟩ := W.ini
  obtain ⟨fW, fdW, MW, GW, bW⟩ := W.wh
  obtain ⟨fB, fdB, MB, GB, bB⟩ := W.bi
  obtain ⟨fA, fdA, MA, GA, bA⟩ := W.al
  refine cl_of D scMR (fun vs H Q E h => ?_) (fun _ _ _ _ _ _ us hl => match us, hl with | [_, _], _ => rfl) (fun f cdv A outer s H vs Q E hr h => ?_)
  · obtain ⟨m, a, ns, rfl, _⟩ := h
    rfl
  · obtain ⟨m, a, ns, rfl, hS, hn, hm, k⟩ := h
    refine ⟨_, C8.pss_cut (ps_set (i := 2) scMR.nd rfl (Or.inl rfl) (pe_op op_rep (pe_lst (pa_cons pe_int pa_nil)) (pv 0)))
(C8.pss_cut (ps_for PassesOwn.never rfl (pi_list (pv 1)) (pg_name (i := 3) scMR.nd rfl (Or.inl rfl))
(pss_one (ps_asg pe_int (pg_sub (pv 2) (pv 3) set_list))))
(pss_cons (ps_set (i := 4) scMR.nd rfl (Or.inl rfl) (pe_make0 MI GI (hr.mono (by decide)) rfl (by exact W.gC) bI .nil pass0))
(pss_cons (ps_expr (pe_meth (pv 4) W.cl MW GW (hr.mono (by decide)) bW .nil pass0 (pa_cons (pv 0) pa_nil)))
(pss_cons (ps_expr (pe_meth (pv 4) W.cl MB GB (hr.mono (by decide)) bB .nil pass0 (pa_cons (pv 2) (pa_cons pe_int pa_nil))))
(pss_one (ps_ret (pe_cl CS hr (by decide) rfl (pa_cons (pe_meth0 (pv 4) W.cl MA GA (hr.mono (by decide)) bA .nil pass0) pa_nil)))))))), ?_⟩
    refine ⟨fun σ G => ∃ l, σ = [some (nI m), some (.ref a), some (.ref l), none, none] ∧ Same H G ∧ H l = none ∧ G l = some (.lst ((mkF m []).map nI)), ?_, ?_⟩
    · refine ⟨by show 1 ≤ sizeLine; decide, fun q hq => ?_⟩
      refine ⟨_, rfl, q, m, [.int 0], rfl, rfl, upd_same, by omega, by omega, by rw [sizeLine_eq]; show 1 * (m : Int).toNat ≤ _; omega, fun l hl => ?_⟩
      have s1 := Same.new (o := .lst [.int 0]) hq
      refine ⟨l, rfl, s1.trans (Same.new hl), ?_, ?_⟩
      · cases e : H l with
        | none => rfl
        | some o =>
          have := s1 _ _ e
          rw [hl] at this
          cases this
      · rw [upd_same, mkF_nil, Int.toNat_natCast, flat_rep, List.map_replicate]
        rfl
    rintro σ G1 ⟨l, rfl, s1, hl0, hl1⟩
    refine ⟨fun σ G => ∃ x, σ = [some (nI m), some (.ref a), some (.ref l), x, none] ∧ Same H G ∧ G l = some (.lst ((mkF m ns).map nI)), ?_, ?_⟩
    · have hal : SqL K G1 a (ns.map nI) := SqL_same hS s1
      refine ⟨_, rfl, a, rfl, ⟨_, hal⟩, for_list (K := K) (a := a) (xs := ns.map nI) (fun i σ G => ∃ x, σ = [some (nI m), some (.ref a), some (.ref l), x, none] ∧ Same H G ∧ G l = some (.lst ((mkF m (ns.take i)).map nI)))
        ⟨none, rfl, s1, hl1⟩ (fun i σ G _ ⟨_, _, s, _⟩ => SqL_same hS s) ?_ ?_⟩
      · rintro i v σ G hv ⟨x, rfl, s2, hl2⟩
        obtain ⟨n, hni, rfl⟩ := nats_at hv
        have hnm := hn n (List.mem_of_getElem? hni)
        refine ⟨_, rfl, _, rfl, l, _, n, n, rfl, rfl, hl2, ?_, ?_⟩
        · unfold ixN
          rw [if_pos (by omega), if_pos (by rw [List.length_map, mkF_len]; omega), Int.toNat_natCast]
        · refine ⟨_, rfl, fun b o e => ?_, ?_⟩
          · rw [upd_ne (ne_of_none e hl0)]
            exact s2 b o e
          · rw [upd_same]
            have e1 : ns.take (i + 1) = ns.take i ++ [n] := by rw [List.take_add_one, hni]; rfl
            rw [e1, ← mkF_set _ hnm, List.map_set]
            rfl
      · rintro σ G ⟨x, rfl, s2, hl2⟩
        rw [List.length_map, List.take_length] at hl2
        exact ⟨x, rfl, s2, hl2⟩
    rintro σ G2 ⟨x, rfl, s2, hl2⟩
    refine fun p dx hp hdx hne => ⟨p, dx, rfl, upd_same, fun wl G3 hw0 W3 e3 => ⟨rfl, ?_⟩⟩
    have hwl : G2 wl = none := by
      cases e : G2 wl with
      | none => rfl
      | some o =>
        have n1 : wl ≠ p := ne_of_none e hp
        have n2 : wl ≠ dx := ne_of_none e hdx
        rw [upd_ne n1, upd_ne n2, e] at hw0
        cases hw0
    have s3 : Same G2 G3 := fun b o e => by
      have n1 : b ≠ p := ne_of_none e hp
      have n2 : b ≠ dx := ne_of_none e hdx
      exact e3 b o (by rw [upd_ne n1, upd_ne n2]; exact e) n1
    obtain ⟨d3, h3⟩ := W3.ob
    have hw2 : (wh m).length ≤ 2 := wh_len _ 2 (by omega) (by decide)
    refine ⟨_, rfl, p, d3, _, rfl, h3, wf_no wl (by decide +kernel), _, rfl, p, wl, [], m, rfl, W3, ?_, by decide, fun G4 B4 W4 => ?_⟩
    · exact Nat.lt_of_le_of_lt hm (by decide)
    have s4 : Same G2 G4 := same_fresh s3 hwl B4
    obtain ⟨d4, h4⟩ := W4.ob
    have hl4 := s4 _ _ hl2
    have nlw : l ≠ wl := ne_of_none hl2 hwl
    refine ⟨_, rfl, p, d4, _, rfl, h4, wf_no wl (by decide +kernel), _, rfl, p, wl, l, _, mkF m ns, 1, rfl, W4, .inl (.inl hl4), fun H' B' => .inl (.inl (B' _ _ hl4 nlw)), mkF_01, by decide, by rw [mkF_len]; exact hm, by rw [List.nil_append]; omega, fun G5 B5 W5 => ?_⟩
    have s5 : Same G2 G5 := same_fresh s4 hwl B5
    obtain ⟨d5, h5⟩ := W5.ob
    refine ⟨_, rfl, p, d5, _, rfl, h5, wf_no wl (by decide +kernel), p, wl, _, rfl, W5, fun t ht => ?_⟩
    have e : ([] ++ wh m ++ le ((1 * (mkF m ns).length + 7) / 8) (val 1 (mkF m ns))) = mkR m ns := by
      rw [mkF_len, List.nil_append, Nat.one_mul]
      rfl
    have hR : (mkR m ns).length ≤ 5000 := by
      unfold mkR
      rw [List.length_append, Rb.le_len]
      omega
    refine ⟨t, mkR m ns, rfl, .inl (.inl ?_), mkR_lt m ns, hR, fun t2 G6 s6 h6 => k t2 G6 (s2.trans (s5.trans ((Same.new ht).trans s6))) h6⟩
    rw [upd_same, e]
end
end Wq
set_option Elab.async false
set_option linter.all false
set_option maxRecDepth 100000
set_option maxHeartbeats 4000000
set_option exponentiation.threshold 5000
namespace Wq
open PySem PySem.Spec PyProof.Rows L2
open Rb (wh le un val Bp Wr rwa fb rdWhole rdSigns rdBits rdRaw rd Res many cutN)
open Crc (ck)
/-! rows of marks read -/
def MRead (v : List Nat) (m : Nat) (bits : List Nat) (b : Nat) : Prop := ∃ c, rwa v 0 0 = .ok m c ∧ rdBits v c m 1 = .nums bits b
def mkd (bits : List Nat) : Nat → List Nat
  | 0 => []
  | n + 1 => mkd bits n ++ (if bits[n]? = some 1 then [n] else [])
abbrev sMF : Stmt := top 23
abbrev NMF : List Str := ["name", "row", "reader", "marks", "many", "number"]
theorem scMF : FnScope NMF ["name", "row"] (defScope sMF) := ⟨rfl, rfl, rfl, by decide +kernel, rfl, by decide +kernel, by decide +kernel⟩
def spMF (CE : Addr) : Sp := fun vs H Q E => ∃ (x : V) (q : Addr) (row : List Nat), vs = [x, .ref q] ∧ H q = some (.tup (row.map nI)) ∧ (∀ b ∈ row, b < 256) ∧ row.length ≤ 100000 ∧
  (∀ v m c, Within row v → rwa v 0 0 = .ok m c → m ≤ 1000) ∧
  (∀ v m bits, Within row v → MRead v m bits v.length → ∀ t u G, Same H G → G t = some (.tup [nI m, .ref u]) → G u = some (.tup ((mkd bits m).map nI)) → Q (.ref t) G) ∧
  ((∀ v m bits b, Within row v → MRead v m bits b → b ≠ v.length) → ∀ d G, ErrN H G d x → E (.ref CE) (some d) G)
def bMF (C CB p q : Addr) (x : V) (v : List Nat) (q0 : Addr) (W : WX) : TS := fun D σ H => σ = [some x, some (.ref q0), some (.ref p), some .non, none, none] ∧ RAt C H p q v 0 ∧
  (∀ m bits b, MRead v m bits b → ∀ l H', But p H H' → RAt C H' p q v b → H' l = some (.lst (bits.map nI)) → D.nx [some x, some (.ref q0), some (.ref p), some (.ref l), some (nI m), none] H') ∧
  ((∀ m bits b, ¬ MRead v m bits b) → ∀ y d H', But p H H' → W (.ref CB) (some d) [some x, some (.ref q0), some (.ref p), some .non, y, none] H')
section
variable {P : Program} {w : World} {K : PySem.W.Frag} {mg : Str → Option Value} {base : Heap} {C CB CE fI : Addr}
theorem MRead.one {v bits bits' : List Nat} {m m' b b' : Nat} (h : MRead v m bits b) (h' : MRead v m' bits' b') : m = m' ∧ bits = bits' ∧ b = b' := by
  obtain ⟨c, h1, h2⟩ := h
  obtain ⟨c', h1', h2'⟩ := h'
  rw [h1] at h1'
  cases h1'
  rw [h2] at h2'
  cases h2'
  exact ⟨rfl, rfl, rfl⟩
theorem MRead.len {v bits : List Nat} {m b : Nat} (h : MRead v m bits b) : bits.length = m := by
  obtain ⟨c, h1, h2⟩ := h
  unfold rdBits at h2
  split at h2
  · cases h2
  · split at h2
    · cases h2
    · cases h2
      simp [cutN]
theorem mkd_len (bits : List Nat) : ∀ n, (mkd bits n).length ≤ n
  | 0 => Nat.le_refl _
  | n + 1 => by
    have := mkd_len bits n
    unfold mkd
    rw [List.length_append]
    split
    · show _ + 1 ≤ n + 1
      omega
    · show _ + 0 ≤ n + 1
      omega
theorem Within.one {row v v' : List Nat} (h : Within row v) (h' : Within row v') : v = v' := (Reads3.one h h').1
theorem ok_MF {fdI : FuncData} (D : DefAt K mg "marked_from" sMF) (T : Txt K mg) (R : RM P w K mg base C CB) (TF : TxtF K mg CE fI) (GI : FnOk P w K mg base CX0 1 fI fdI ["self", "name"] (spTF CE)) (bI : L2.Binds K fdI ["self", "name"] []) (CU : Cle P w K mg base 7 "unsealed" (spUn CE)) : Cle P w K mg base 8 "marked_from" (spMF CE) := by
  obtain ⟨fR, fdR, MI, GR, bR⟩ := R.ini
  obtain ⟨fT, fdT, MT, GT, bT⟩ := R.bi
  obtain ⟨fW, fdW, MW, GW, bW⟩ := R.wo
  obtain ⟨fu, fdu, psu, GU, hmu, kpu, bU⟩ := CU.ex
  obtain ⟨f, fd, FF, hm⟩ := D.ex
  refine ⟨f, fd, ["name", "row"], FF.okX scMF (fun vs H Q E h => ?_) (fun cdv A outer s H vs Q E hr h => ?_), hm, FF.kp, FF.binds fun _ _ _ _ _ _ us hl => match us, hl with | [_, _], _ => rfl⟩
  · obtain ⟨x, q, row, rfl, _⟩ := h
    rfl
  · obtain ⟨x, q, row, rfl, hq, hb, hl, hm1, k1, k2⟩ := h
    refine ⟨_, pss_cons (ps_set (i := 2) scMF.nd rfl (Or.inl rfl) (pe_make MI GR (hr.mono (by decide)) rfl (by exact R.gC) bR .nil pass0 (pa_cons (pe_call GU hr rfl hmu kpu bU .nil (passes_call (takes_of rfl rfl rfl rfl) (fun _ _ _ _ h => h)) (pa_cons (pv 0) (pa_cons (pv 1) pa_nil))) pa_nil)))
(pss_cons (ps_set (i := 3) scMF.nd rfl (Or.inr rfl) pe_non)
(C8.pss_cut (ps_try_only (c := .ref CB) (tb := fun W D σ H => ∃ (p q' : Addr) (v : List Nat), (∀ b ∈ v, b < 256) ∧ v.length ≤ 100000 ∧ (∀ m c, rwa v 0 0 = .ok m c → m ≤ 1000) ∧ bMF C CB p q' x v q W D σ H) (ts := fun _ _ _ D σ H => ∃ y p, σ = [some x, some (.ref q), some (.ref p), some .non, y, none] ∧ D.nx [some x, some (.ref q), some (.ref p), some .non, some (.int 0), none] H) (Wout := fun _ _ _ _ => False) rfl rfl ⟨rfl, by decide, .inl R.gE⟩ takes0
      (fun W pn xe tk _ => pss_pre (pss_cons (ps_set (i := 4) scMF.nd rfl (Or.inl rfl) (pe_meth0V (pv 2) R.tr.cl MW GW (hr.mono (by decide)) bW (fun σ => passAt tk σ)))
(pss_one (ps_set (i := 3) scMF.nd rfl (Or.inr rfl) (pe_methV (pv 2) R.tr.cl MT GT (hr.mono (by decide)) bT (fun σ => passAt tk σ) (pa_cons (pv 4) (pa_cons pe_int pa_nil)))))) (fun D σ H hb => ?_))
      (fun a oe cls d pn _ _ => pss_pre (pss_one (ps_set (i := 4) scMF.nd rfl (Or.inl rfl) pe_int)) (fun D σ H hb => ?_)))
(pss_cons (ps_if (PW.pt (pw_or (pt_cmpR op_isN (pv 3) pe_non (nomark _)) (pw_or1 (pt_not (pt_val (pe_fld (pv 2) rfl))))))
(pss_one (ps_raise rfl (takes_of rfl rfl rfl rfl) (pmk_oex TF.ox TF.iC TF.tI GI (hr.mono (by decide)) bI .nil pass0 rfl (by exact TF.gC) (by exact (pa_cons (pv 0) pa_nil)))))
pss_nil)
(pss_one (ps_ret (pe_tup (pa_cons (pv 4) (pa_cons (pe_callTy call_tuple_of (by rfl) (by exact T.tuple) (by decide +kernel) (pa_cons (pe_lc (own := [("number", 5)]) (g := gName 5) (tt := tTest (tOp rEq (tOp (rIxL K) (tVar 3) (tVar 5)) (tC (.int 1)))) (by rfl) scMF.nd (pi_range1 rfl (by exact T.range) (pa_cons (pv 4) pa_nil)) (blkOk_by (own := [("number", 5)]) (N := NMF) (sc := defScope sMF) (by decide +kernel)) (fun _ _ _ _ _ => (pg_name (i := 5) scMF.nd rfl (Or.inl rfl))) (fun _ _ _ _ _ => (pts_one (pt_cmpR op_eq (pe_ix ix_list (pv 3) (pv 5) (fun _ _ => rfl)) pe_int (nomark _)))) (fun _ _ _ _ _ => (pv 5))) pa_nil)) pa_nil)))))))), ?_⟩
    · obtain ⟨p, q', v, hvb, hvl, hm, rfl, Ra, j1, j2⟩ := hb
      obtain ⟨dx, hp⟩ := Ra.ob
      refine ⟨_, rfl, p, dx, _, rfl, hp, by rfl, p, q', v, 0, rfl, Ra, Nat.zero_le _, hvl, hvb, fun n c H1 e1 B1 R1 => ?_, fun e he d H1 hE => j2 (fun m bits b ⟨c', h1, _⟩ => ?_) none d H1 (But.same hE.1)⟩
      rotate_left
      · have he : rwa v 0 0 = .err e := he
        rw [he] at h1
        cases h1
      have e1 : rwa v 0 0 = .ok n c := e1
      rw [Nat.zero_add] at R1
      have hc := Rb.rwa_ok e1
      obtain ⟨d1, hp1⟩ := R1.ob
      refine ⟨_, rfl, p, d1, _, rfl, hp1, by rfl, _, rfl, p, q', v, c, n, 1, rfl, R1, by omega, hvl, hvb, hm n c e1, by decide, fun ns b l H2 e2 B2 R2 hl2 => ?_, fun e he d H2 hE => j2 (fun m bits b ⟨c', h1, h2⟩ => ?_) _ d H2 (B1.trans (But.same hE.1))⟩
      · exact j1 n ns b ⟨c, e1, e2⟩ l H2 (B1.trans B2) R2 hl2
      · rw [e1] at h1
        cases h1
        rw [he] at h2
        cases h2
    · obtain ⟨y, p, rfl, hn⟩ := hb
      exact hn
    · refine ⟨_, rfl, _, rfl, x, q, row, rfl, hq, hb, hl, fun v hv t G s1 ht => ?_, fun hno d G hE => k2 (fun v _ _ _ hw => (hno v hw).elim) d G hE⟩
      have hvf : (∀ b ∈ v, b < 256) ∧ v.length ≤ 100000 := by
        obtain ⟨n, c, a, h1, h2, h3⟩ := hv
        unfold rdRaw at h2
        split at h2
        · cases h2
        · cases h2
          exact ⟨fun y hy => hb y (List.mem_of_mem_drop (List.mem_of_mem_take hy)), by rw [List.length_take, List.length_drop]; omega⟩
      refine fun p dx hp hdx hne => ⟨p, dx, t, v, rfl, upd_same, ?_, fun G1 B1 R1 => ⟨rfl, ?_⟩⟩
      · rw [upd_ne (ne_of_none ht hp), upd_ne (ne_of_none ht hdx)]
        exact ht
      have s2 : Same G G1 := fun b o e => by
        have n1 : b ≠ p := ne_of_none e hp
        have n2 : b ≠ dx := ne_of_none e hdx
        exact B1 b o (by rw [upd_ne n1, upd_ne n2]; exact e) n1
      have hpH : H p = none := by
        cases e : H p with
        | none => rfl
        | some o =>
          have := s1 _ _ e
          rw [hp] at this
          cases this
      have s12 : Same H G1 := s1.trans s2
      refine ⟨fun σ G' => (∃ m bits b l, MRead v m bits b ∧ σ = [some x, some (.ref q), some (.ref p), some (.ref l), some (nI m), none] ∧ But p G1 G' ∧ RAt C G' p t v b ∧ G' l = some (.lst (bits.map nI))) ∨ ((∀ m bits b, ¬ MRead v m bits b) ∧ σ = [some x, some (.ref q), some (.ref p), some .non, some (.int 0), none] ∧ But p G1 G'), ?_, ?_⟩
      · refine ⟨p, t, v, hvf.1, hvf.2, fun m c hr => hm1 v m c hv hr, rfl, R1, fun m bits b hr l G' B' R' hl' => .inl ⟨m, bits, b, l, hr, rfl, B', R', hl'⟩, fun hno y d G' B' => ⟨true, R.te, fun _ a ha => ⟨y, p, rfl, .inr ⟨hno, rfl, B'⟩⟩, fun z => by cases z⟩⟩
      rintro σ G2 (⟨m, bits, b, l, hr, rfl, B2, R2, hl2⟩ | ⟨hno, rfl, B2⟩)
      · have s3 : Same H G2 := same_fresh s12 hpH B2
        obtain ⟨d2, hp2⟩ := R2.ob
        refine ⟨_, rfl, rfl, _, rfl, (if_neg (by simp)).mpr ?_⟩
        refine ⟨_, rfl, p, C, d2, _, _, rfl, hp2, R.tr.cl, R.tr.nD, rfl, _, rfl, ?_⟩
        by_cases he : b = v.length
        · subst he
          refine (if_neg (by simp)).mpr ?_
          have hm0 : m ≤ 1000 := by
            obtain ⟨c, h1, _⟩ := hr
            exact hm1 v m c hv h1
          have hbl := hr.len
          refine ⟨_, rfl, _, rfl, m, rfl, by omega, by omega, fun Dd hD => ?_⟩
          refine lc_range (lo := 0) (n := m) (fun i G' => Same G2 G' ∧ G' Dd = some (.lst ((mkd bits i).map nI))) ⟨Same.new hD, upd_same⟩ ?_ ?_
          · rintro i G' hi ⟨sm, hD2⟩
            refine ⟨rfl, ?_⟩
            have hb1 : bits[i]? = some bits[i] := List.getElem?_eq_getElem (by omega)
            refine ⟨_, rfl, _, rfl, l, _, _, nI bits[i], rfl, rfl, .inl (.inl (sm _ _ hl2)), ?_, rfl, _, rfl, ?_⟩
            · rw [Int.zero_add]
              exact atI_nat (by rw [List.getElem?_map, hb1]; rfl)
            refine ite2 (fun h => ?_) (fun h => ?_)
            · have h : bits[i] = 1 := by
                have := V.int.inj (of_decide_eq_true h)
                omega
              refine ⟨_, rfl, _, hD2, ?_, Same.put sm hD, ?_⟩
              · rw [List.length_map, sizeLine_eq]
                have := mkd_len bits i
                omega
              · rw [upd_same]
                show _ = some (HO.lst ((mkd bits i ++ (if bits[i]? = some 1 then [i] else [])).map nI))
                rw [hb1, h, if_pos rfl, List.map_append]
                show some (HO.lst ((mkd bits i).map nI ++ [V.int (0 + (i : Int))])) = _
                rw [Int.zero_add]
                rfl
            · refine ⟨sm, ?_⟩
              have h : ¬ bits[i] = 1 := fun z => h (decide_eq_true (by rw [z]; rfl))
              show _ = some (HO.lst ((mkd bits i ++ (if bits[i]? = some 1 then [i] else [])).map nI))
              rw [hb1, if_neg (fun z => h (Option.some.inj z)), List.append_nil]
              exact hD2
          rintro G' ⟨sm, hD2⟩
          refine ⟨Dd, _, rfl, .inl ⟨.inl (.inl hD2), fun u hu => ⟨by show 2 ≤ sizeLine; decide, fun t' ht' => ?_⟩⟩⟩
          have su := Same.new (o := .tup ((mkd bits m).map nI)) hu
          have st := Same.new (o := .tup [nI m, .ref u]) ht'
          exact k1 v m bits hv hr t' u _ (s3.trans (sm.trans (su.trans st))) upd_same (st _ _ upd_same)
        · refine (if_pos (by simp [he])).mpr ?_
          refine ⟨_, rfl, (by show 1 ≤ 1000; decide), fun a ha => ⟨a, _, rfl, upd_same, fun d hd hda => ⟨rfl, d, _, upd_same, by rw [upd_ne hda, upd_same], by rw [upd_ne hda] at hd; exact hd, ?_⟩⟩⟩
          refine k2 (fun v' m' bits' b' hw hr' hb' => ?_) d _ (ErrN.mono s3 (errN_heap ha hd hda))
          have e := hv.one hw
          subst e
          exact he ((hr.one hr').2.2.trans hb')
      · have s3 : Same H G2 := same_fresh s12 hpH B2
        refine ⟨_, rfl, rfl, _, rfl, (if_pos (by simp)).mpr ?_⟩
        refine ⟨_, rfl, (by show 1 ≤ 1000; decide), fun a ha => ⟨a, _, rfl, upd_same, fun d hd hda => ⟨rfl, d, _, upd_same, by rw [upd_ne hda, upd_same], by rw [upd_ne hda] at hd; exact hd, ?_⟩⟩⟩
        refine k2 (fun v' m' bits' b' hw hr' hb' => ?_) d _ (ErrN.mono s3 (errN_heap ha hd hda))
        have e := hv.one hw
        subst e
        exact hno _ _ _ hr'
end
end Wq
set_option Elab.async false
set_option linter.all false
set_option maxRecDepth 100000
set_option maxHeartbeats 4000000
set_option exponentiation.threshold 5000
namespace Wq
open PySem PySem.Spec PyProof.Rows L2
open Rb (wh le un val Bp Wr rwa fb rdWhole rdSigns rdBits rdRaw rd Res many cutN)
open Crc (ck)
/-! the law's own bytes -/
theorem catA_of {K : PySem.W.Frag} {H : Hp} {a b : Addr} {xs ys : List V} {Q : VK} (ha : SqT K H a xs) (hb : SqT K H b ys) (hl : xs.length + ys.length ≤ 100000) (k : ∀ c G, Same H G → SqT K G c (xs ++ ys) → Q (.ref c) G) : rCatA K (.ref a) (.ref b) H Q := by
  refine ⟨a, b, xs, ys, rfl, rfl, ha, hb, by rw [sizeLine_eq]; omega, fun e => ?_, fun _ e => ?_, fun _ _ p hp => k p _ (Same.new hp) (.inl (.inl upd_same))⟩
  · exact k b H (fun _ _ h => h) (by rw [e]; exact hb)
  · exact k a H (fun _ _ h => h) (by rw [e, List.append_nil]; exact ha)
abbrev sWo : Stmt := top 42
theorem scWo : FnScope ["_law_number", "_law_writer"] ["_law_number"] (defScope sWo) := ⟨rfl, rfl, rfl, by decide +kernel, rfl, by decide +kernel, by decide +kernel⟩
def spWo : Sp := fun vs H Q _ => ∃ n : Nat, vs = [nI n] ∧ n < 2 ^ 4000 ∧ ∀ t G, Same H G → G t = some (.tup ((wh n).map nI)) → Q (.ref t) G
abbrev sLS : Stmt := top 43
theorem scLS : FnScope ["_law_row", "_law_check", "_law_found", "_law_k"] ["_law_row"] (defScope sLS) := ⟨rfl, rfl, rfl, by decide +kernel, rfl, by decide +kernel, by decide +kernel⟩
def spLS (K : PySem.W.Frag) : Sp := fun vs H Q _ => ∃ (a : Addr) (row : List Nat), vs = [.ref a] ∧ SqT K H a (row.map nI) ∧ (∀ b ∈ row, b < 256) ∧ row.length ≤ 5000 ∧ ∀ t G, Same H G → SqT K G t ((sld row).map nI) → Q (.ref t) G
theorem le_snoc : ∀ (k v : Nat), le (k + 1) v = le k v ++ [v / 256 ^ k % 256]
  | 0, v => by simp [le]
  | k + 1, v => by
    show v % 256 :: le (k + 1) (v / 256) = v % 256 :: le k (v / 256) ++ [v / 256 ^ (k + 1) % 256]
    rw [le_snoc k (v / 256), Nat.div_div_eq_div_mul, ← Nat.pow_succ']
    rfl
section
variable {P : Program} {w : World} {K : PySem.W.Frag} {mg : Str → Option Value} {base : Heap} {C : Addr}
theorem ok_Wo (D : DefAt K mg "_law_whole" sWo) (T : Txt K mg) (W : WM P w K mg base C) : Cl P w K mg base 3 "_law_whole" spWo := by
  obtain ⟨fI, fdI, MI, GI, bI⟩ := W.ini
  obtain ⟨fW, fdW, MW, GW, bW⟩ := W.wh
  obtain ⟨fA, fdA, MA, GA, bA⟩ := W.al
  refine cl_of D scWo (fun vs H Q E h => ?_) (fun _ _ _ _ _ _ us hl => match us, hl with | [_], _ => rfl) (fun f cdv A outer s H vs Q E hr h => ?_)
  · obtain ⟨n, rfl, _⟩ := h
    rfl
  · obtain ⟨n, rfl, hn, k⟩ := h
    refine ⟨_, pss_cons (ps_set (i := 1) scWo.nd rfl (Or.inl rfl) (pe_make0 MI GI (hr.mono (by decide)) rfl (by exact W.gC) bI .nil pass0))
(pss_cons (ps_expr (pe_meth (pv 1) W.cl MW GW (hr.mono (by decide)) bW .nil pass0 (pa_cons (pv 0) pa_nil)))
(pss_one (ps_ret (pe_callTy call_tuple_of (by rfl) (by exact T.tuple) (by decide +kernel) (pa_cons (pe_meth0 (pv 1) W.cl MA GA (hr.mono (by decide)) bA .nil pass0) pa_nil))))), ?_⟩
    refine fun p dx hp hdx hne => ⟨p, dx, rfl, upd_same, fun l H1 hl0 W1 e1 => ⟨rfl, ?_⟩⟩
    have hlH : H l = none := by
      cases e : H l with
      | none => rfl
      | some o =>
        have n1 : l ≠ p := ne_of_none e hp
        have n2 : l ≠ dx := ne_of_none e hdx
        rw [upd_ne n1, upd_ne n2, e] at hl0
        cases hl0
    have s1 : Same H H1 := fun b o e => by
      have n1 : b ≠ p := ne_of_none e hp
      have n2 : b ≠ dx := ne_of_none e hdx
      exact e1 b o (by rw [upd_ne n1, upd_ne n2]; exact e) n1
    obtain ⟨d1, h1⟩ := W1.ob
    refine ⟨_, rfl, p, d1, _, rfl, h1, wf_no l (by decide +kernel), _, rfl, p, l, [], n, rfl, W1, hn, by decide, fun H2 B2 W2 => ?_⟩
    have s2 : Same H H2 := same_fresh s1 hlH B2
    obtain ⟨d2, h2⟩ := W2.ob
    refine ⟨_, rfl, p, d2, _, rfl, h2, wf_no l (by decide +kernel), p, l, _, rfl, W2, fun t ht => ⟨t, _, rfl, .inr ⟨.inl (.inl upd_same), ?_⟩⟩⟩
    exact k t _ (s2.trans (Same.new ht)) (by rw [upd_same, List.nil_append])
theorem ok_LS (D : DefAt K mg "_law_sealed" sLS) (T : Txt K mg) (CK : Cl P w K mg base 1 "check_of" (spCheckOf K)) (CW : Cl P w K mg base 3 "_law_whole" spWo) : Cl P w K mg base 4 "_law_sealed" (spLS K) := by
  refine cl_of D scLS (fun vs H Q E h => ?_) (fun _ _ _ _ _ _ us hl => match us, hl with | [_], _ => rfl) (fun f cdv A outer s H vs Q E hr h => ?_)
  · obtain ⟨a, row, rfl, _⟩ := h
    rfl
  · obtain ⟨a, row, rfl, hS, hb, hl, k⟩ := h
    refine ⟨_, C8.pss_cut (ps_par (i := 1) (j := 2) (by rfl) scLS.nd rfl rfl (by decide) rfl rfl  (pa_cons (pe_cl CK hr (by decide) rfl (pa_cons (pv 0) pa_nil)) (pa_cons (pe_lst pa_nil) pa_nil)) (by rfl))
(C8.pss_cut (ps_for PassesOwn.never rfl (pi_range1 rfl (by exact T.range) (pa_cons pe_int pa_nil)) (pg_name (i := 3) scLS.nd rfl (Or.inl rfl))
(pss_cons (ps_expr (pe_bm PySem.F.plainAttrs_list PySem.F.slot_list_append PySem.F.type_list_append mt_append (pv 2) (pa_cons (pe_op op_mod (pe_callTy call_int1 (by rfl) (by exact T.int) PyProof.Rows.boot_int (pa_cons (pv 1) pa_nil)) pe_int) pa_nil)))
(pss_one (ps_set (i := 1) scLS.nd rfl (Or.inl rfl) (pe_op op_fdiv (pv 1) pe_int)))))
(pss_one (ps_ret (pe_op op_catA (pe_op op_catA (pe_cl CW hr (by decide) rfl (pa_cons (pe_callB call_len_seq (by rfl) (by exact T.len) PySem.boot_len (pa_cons (pv 0) pa_nil)) pa_nil)) (pe_callTy call_tuple_of (by rfl) (by exact T.tuple) (by decide +kernel) (pa_cons (pv 0) pa_nil))) (pe_callTy call_tuple_of (by rfl) (by exact T.tuple) (by decide +kernel) (pa_cons (pv 2) pa_nil)))))), ?_⟩
    refine ⟨fun σ G => ∃ l x, σ = [some (.ref a), some (nI (ck row)), some (.ref l), x] ∧ Same H G ∧ H l = none ∧ G l = some (.lst []), ?_, ?_⟩
    · refine ⟨_, rfl, a, row, rfl, hS, hb, by show 0 ≤ sizeLine; decide, fun l hl' => ?_⟩
      exact ⟨_, _, rfl, l, none, rfl, Same.new hl', hl', upd_same⟩
    rintro σ G1 ⟨l, x, rfl, s1, hl0, hl1⟩
    refine ⟨fun σ G => ∃ x y, σ = [some (.ref a), y, some (.ref l), x] ∧ Same H G ∧ G l = some (.lst ((le 4 (ck row)).map nI)), ?_, ?_⟩
    · refine ⟨_, rfl, by decide, by decide, ?_⟩
      refine for_range (lo := 0) (n := 4) (fun i σ G => ∃ x, σ = [some (.ref a), some (nI (ck row / 256 ^ i)), some (.ref l), x] ∧ Same H G ∧ G l = some (.lst ((le i (ck row)).map nI))) ⟨x, by rw [Nat.pow_zero, Nat.div_one], s1, hl1⟩ ?_ ?_
      · rintro i σ G hi ⟨x, rfl, s2, hl2⟩
        refine ⟨_, rfl, .inl ⟨rfl, _, .inl (.inl hl2)⟩, _, rfl, .inl ⟨_, rfl, _, _, rfl, rfl, (by show (0 : Int) < 256; decide), l, _, _, rfl, rfl, hl2, ?_, ?_⟩⟩
        · rw [List.length_map, Rb.le_len, sizeLine_eq]
          omega
        refine ⟨_, rfl, _, _, rfl, rfl, ⟨by decide, by decide⟩, some (.int (0 + (i : Int))), ?_, fun b o e => ?_, ?_⟩
        · have e : ((ck row / 256 ^ i : Nat) : Int) / 256 = ((ck row / 256 ^ (i + 1) : Nat) : Int) := by
            rw [Nat.pow_succ, ← Nat.div_div_eq_div_mul]
            rfl
          show [some (.ref a), some (V.int (((ck row / 256 ^ i : Nat) : Int) / 256)), some (.ref l), some (V.int (0 + (i : Int)))] = _
          rw [e]
        · rw [upd_ne (ne_of_none e hl0)]
          exact s2 b o e
        · rw [upd_same, le_snoc, List.map_append]
          rfl
      · rintro σ G ⟨x, rfl, s2, hl2⟩
        exact ⟨x, _, rfl, s2, hl2⟩
    rintro σ G2 ⟨x, y, rfl, s2, hl2⟩
    have hwl : (wh row.length).length ≤ 2 := wh_len _ 2 (by omega) (by decide)
    refine ⟨_, rfl, a, _, rfl, .inr (SqT.same hS s2), row.length, ?_, Nat.lt_of_le_of_lt hl (by decide), fun t G3 s3 ht => ?_⟩
    · rw [List.length_map]
      rfl
    refine ⟨_, rfl, a, _, rfl, .inr ⟨SqT.same hS (s2.trans s3), catA_of (.inl (.inl ht)) (SqT.same hS (s2.trans s3)) (by rw [List.length_map, List.length_map]; omega) fun c G4 s4 hc => ?_⟩⟩
    refine ⟨_, rfl, l, _, rfl, .inl ⟨.inl (.inl (s4 _ _ (s3 _ _ hl2))), fun u hu => ?_⟩⟩
    have su := Same.new (o := .tup ((le 4 (ck row)).map nI)) hu
    refine catA_of (SqT.same hc su) (.inl (.inl upd_same)) (by rw [List.length_append, List.length_map, List.length_map, List.length_map, Rb.le_len]; omega) fun d G5 s5 hd => ?_
    refine k d G5 (s2.trans (s3.trans (s4.trans (su.trans s5)))) ?_
    have e : (sld row).map nI = (wh row.length).map nI ++ row.map nI ++ (le 4 (ck row)).map nI := by
      unfold sld
      rw [List.map_append, List.map_append]
    rw [e]
    exact hd
end
end Wq
set_option Elab.async false
set_option linter.all false
set_option maxRecDepth 100000
set_option maxHeartbeats 4000000
set_option exponentiation.threshold 5000
namespace Wq
open PySem PySem.Spec PyProof.Rows L2
open Rb (wh le un val Bp Wr rwa fb rdWhole rdSigns rdBits rdRaw rd Res many cutN)
open Crc (ck)
/-! a row with another byte -/
theorem log_ok {n : Int} (h0 : 0 < n) (h : n < 536870912) : n.natAbs.log2 < 9000 := by
  have h2 : n.natAbs.log2 < 30 := PySem.Flt.log2_lt_of (by decide) (by omega)
  omega
structure Pn (p c : Addr) (m : Nat) (H G : Hp) : Prop where
  sp : But p H G
  pen : PenAt G p c m
  old : ∃ m0, PenAt H p c m0
section
variable {p c q : Addr} {m m' : Nat} {H G G' : Hp} {o : HO} {xs : List V}
theorem Pn.refl (h : PenAt H p c m) : Pn p c m H H := ⟨But.refl _ _, h, _, h⟩
theorem Pn.draw (h : Pn p c m H G) (hp : PenAt (upd G p o) p c m') : Pn p c m' H (upd G p o) := ⟨h.sp.trans (But.up _ _ _), hp, h.old⟩
theorem Pn.same (h : Pn p c m H G) (s : Same G G') : Pn p c m H G' := ⟨h.sp.trans (But.same s), h.pen.same s, h.old⟩
theorem Pn.mono (h : Pn p c m H G) (hm : m ≤ m') : Pn p c m' H G := ⟨h.sp, h.pen.mono hm, h.old⟩
theorem Pn.trans (h : Pn p c m H G) (h' : Pn p c m' G G') : Pn p c m' H G' := ⟨h.sp.trans h'.sp, h'.pen, h.old⟩
theorem Pn.tup (h : Pn p c m H G) (hq : H q = some (.tup xs)) : G q = some (.tup xs) := by
  obtain ⟨m0, h0⟩ := h.old
  obtain ⟨kvs, hk⟩ := h0.dict
  exact h.sp q _ hq (ne_of hq hk (by intro z; cases z))
theorem Pn.lst (h : Pn p c m H G) (hq : H q = some (.lst xs)) : G q = some (.lst xs) := by
  obtain ⟨m0, h0⟩ := h.old
  obtain ⟨kvs, hk⟩ := h0.dict
  exact h.sp q _ hq (ne_of hq hk (by intro z; cases z))
end
theorem cut_from {xs : List V} {k : Nat} : cutV xs (some (k : Int)) none = xs.drop k := by
  unfold cutV
  rw [HT.sIx_nat, HT.sIx_none]
  by_cases h : k ≤ xs.length
  · rw [Nat.min_eq_left h, List.take_of_length_le (by rw [List.length_drop]; omega)]
  · rw [Nat.min_eq_right (by omega), List.drop_eq_nil_of_le (by omega), List.drop_eq_nil_of_le (by omega), List.take_nil]
theorem cut_to {xs : List V} {k : Nat} : cutV xs none (some (k : Int)) = xs.take k := by
  unfold cutV
  rw [HT.sIx_nat, HT.sIx_none, List.drop_zero, Nat.sub_zero]
  by_cases h : k ≤ xs.length
  · rw [Nat.min_eq_left h]
  · rw [Nat.min_eq_right (by omega), List.take_of_length_le (Nat.le_refl _), List.take_of_length_le (by omega)]
theorem slA_to {K : PySem.W.Frag} {H : Hp} {q : Addr} {row : List Nat} {i : Nat} {Q : VK} (hq : H q = some (.tup (row.map nI))) (h : i ≤ row.length)
    (k : ∀ l H', Same H H' → H' l = some (.tup ((row.take i).map nI)) → Q (.ref l) H') : rSlA K (.ref q) none (some ((i : Nat) : Int)) H Q := by
  refine ⟨q, _, rfl, .inl (.inl hq), fun hw => ?_, fun _ l hl => ?_⟩
  · rw [HT.sIx_nat, List.length_map, Nat.min_eq_left (by omega)] at hw
    refine k q H (Same.refl H) ?_
    rw [hq, hw.2, List.take_length]
  · refine k l _ (Same.new hl) ?_
    rw [upd_same, List.map_take]
    exact congrArg (fun z => some (HO.tup z)) (cut_to (xs := row.map nI) (k := i))
theorem slA_from {K : PySem.W.Frag} {H : Hp} {q : Addr} {row : List Nat} {i : Nat} {Q : VK} (hq : H q = some (.tup (row.map nI))) (h : i ≤ row.length)
    (k : ∀ l H', Same H H' → H' l = some (.tup ((row.drop i).map nI)) → Q (.ref l) H') : rSlA K (.ref q) (some ((i : Nat) : Int)) none H Q := by
  refine ⟨q, _, rfl, .inl (.inl hq), fun hw => ?_, fun _ l hl => ?_⟩
  · rw [HT.sIx_nat, List.length_map, Nat.min_eq_left (by omega)] at hw
    refine k q H (Same.refl H) ?_
    rw [hq, hw.1, List.drop_zero]
  · refine k l _ (Same.new hl) ?_
    rw [upd_same, List.map_drop]
    exact congrArg (fun z => some (HO.tup z)) (cut_from (xs := row.map nI) (k := i))
theorem slA_fromZ {K : PySem.W.Frag} {H : Hp} {q : Addr} {row : List Nat} {i : Nat} {z : Int} {Q : VK} (hz : z = ((i : Nat) : Int)) (hq : H q = some (.tup (row.map nI))) (h : i ≤ row.length)
    (k : ∀ l H', Same H H' → H' l = some (.tup ((row.drop i).map nI)) → Q (.ref l) H') : rSlA K (.ref q) (some z) none H Q := by
  subst hz
  exact slA_from hq h k
theorem catL {K : PySem.W.Frag} {H : Hp} {a b : Addr} {xs ys : List V} {Q : VK} (ha : SqT K H a xs) (hb : H b = some (.tup ys)) (hy : ys ≠ []) (hl : xs.length + ys.length ≤ 100000) (k : ∀ c G, Same H G → G c = some (.tup (xs ++ ys)) → Q (.ref c) G) : rCatA K (.ref a) (.ref b) H Q := by
  refine ⟨a, b, xs, ys, rfl, rfl, ha, .inl (.inl hb), by rw [sizeLine_eq]; omega, fun e => ?_, fun _ e => absurd e hy, fun _ _ p hp => k p _ (Same.new hp) upd_same⟩
  exact k b H (fun _ _ h => h) (by rw [e]; exact hb)
theorem catR {K : PySem.W.Frag} {H : Hp} {a b : Addr} {xs ys : List V} {Q : VK} (ha : H a = some (.tup xs)) (hb : SqT K H b ys) (hx : xs ≠ []) (hl : xs.length + ys.length ≤ 100000) (k : ∀ c G, Same H G → G c = some (.tup (xs ++ ys)) → Q (.ref c) G) : rCatA K (.ref a) (.ref b) H Q := by
  refine ⟨a, b, xs, ys, rfl, rfl, .inl (.inl ha), hb, by rw [sizeLine_eq]; omega, fun e => absurd e hx, fun _ e => ?_, fun _ _ p hp => k p _ (Same.new hp) upd_same⟩
  exact k a H (fun _ _ h => h) (by rw [e, List.append_nil]; exact ha)
/-- another byte at one place, or one more -/
def Chg (row row' : List Nat) : Prop := (∃ x, x < 256 ∧ row' = row ++ [x]) ∨ ∃ i b d, row[i]? = some b ∧ d < 255 ∧ row' = row.take i ++ [(b + 1 + d) % 256] ++ row.drop (i + 1)
abbrev sCh : Stmt := top 45
theorem scCh : FnScope ["_law_pen_here", "_law_row", "_law_at"] ["_law_pen_here", "_law_row"] (defScope sCh) := ⟨rfl, rfl, rfl, by decide +kernel, rfl, by decide +kernel, by decide +kernel⟩
def spCh : Sp := fun vs H Q _ => ∃ (p c a : Addr) (m : Nat) (row : List Nat), vs = [.ref p, .ref a] ∧ PenAt H p c m ∧ m < 1000000 ∧ H a = some (.tup (row.map nI)) ∧ row ≠ [] ∧ row.length ≤ 5000 ∧
  ∀ row' t G, Pn p c (m + 3) H G → Chg row row' → G t = some (.tup (row'.map nI)) → Q (.ref t) G
section
variable {P : Program} {w : World} {K : PySem.W.Frag} {mg : Str → Option Value} {base : Heap} {C : Addr}
theorem ok_Ch (D : DefAt K mg "_law_changed" sCh) (T : Txt K mg) (CD : Cl P w K mg base 1 "_law_draw" (spDraw K)) : Cl P w K mg base 2 "_law_changed" spCh := by
  refine cl_of D scCh (fun vs H Q E h => ?_) (fun _ _ _ _ _ _ us hl => match us, hl with | [_, _], _ => rfl) (fun f cdv A outer s H vs Q E hr h => ?_)
  · obtain ⟨p, c, a, m, row, rfl, _⟩ := h
    rfl
  · obtain ⟨p, c, a, m, row, rfl, hP, hm, ha, hne, hl, k⟩ := h
    refine ⟨_, pss_cons (ps_set (i := 2) scCh.nd rfl (Or.inl rfl) (pe_cl CD hr (by decide) rfl (pa_cons (pv 0) (pa_cons (pe_callB call_len_seq (by rfl) (by exact T.len) PySem.boot_len (pa_cons (pv 1) pa_nil)) pa_nil))))
(pss_cons (ps_if (pt_cmpR op_eq (pe_cl CD hr (by decide) rfl (pa_cons (pv 0) (pa_cons pe_int pa_nil))) pe_int (nomark _))
(pss_one (ps_ret (pe_op op_catA (pv 1) (pe_tup (pa_cons (pe_cl CD hr (by decide) rfl (pa_cons (pv 0) (pa_cons pe_int pa_nil))) pa_nil)))))
pss_nil)
(pss_one (ps_ret (pe_op op_catA (pe_op op_catA (pe_slice sl_tupA (pv 1) po_none (po_some (pv 2))) (pe_tup (pa_cons (pe_op op_mod (pe_op op_add (pe_op op_add (pe_ix ix_tup (pv 1) (pv 2) (fun _ _ => rfl)) pe_int) (pe_cl CD hr (by decide) rfl (pa_cons (pv 0) (pa_cons pe_int pa_nil)))) pe_int) pa_nil))) (pe_slice sl_tupA (pv 1) (po_some (pe_op op_add (pv 2) pe_int)) po_none))))), ?_⟩
    have hlen : 0 < row.length := List.length_pos_iff.mpr hne
    refine ⟨_, rfl, _, rfl, a, _, rfl, .inr (.inl (.inl ha)), p, c, m, _, rfl, hP, by omega, by rw [List.length_map]; omega, log_ok (by rw [List.length_map]; omega) (by rw [List.length_map]; omega), fun v0 o0 a0 b0 hP1 => ?_⟩
    rw [List.length_map] at b0
    have n1 := (Pn.refl hP).draw hP1
    refine ⟨_, rfl, p, c, m + 1, 4, rfl, n1.pen, by omega, by decide, log_ok (by decide) (by decide), fun v1 o1 a1 b1 hP2 => ⟨rfl, _, rfl, ?_⟩⟩
    have n2 := n1.draw hP2
    refine ite2 (fun _ => ?_) (fun _ => ?_)
    · refine ⟨_, rfl, _, rfl, p, c, m + 2, 256, rfl, n2.pen, by omega, by decide, log_ok (by decide) (by decide), fun v2 o2 a2 b2 hP3 => ⟨by show 1 ≤ sizeLine; decide, fun t ht => ?_⟩⟩
      have n3 := n2.draw hP3
      have n4 := n3.same (Same.new (o := .tup [.int v2]) ht)
      refine catL (.inl (.inl (n4.tup ha))) upd_same (by intro z; cases z) (by rw [List.length_map]; show _ + 1 ≤ _; omega) fun c' G s hc => ?_
      refine k (row ++ [v2.toNat]) c' G (n4.same s) (.inl ⟨_, by omega, rfl⟩) ?_
      rw [hc, List.map_append]
      have e : nI v2.toNat = V.int v2 := congrArg V.int (by omega)
      show _ = some (HO.tup (row.map nI ++ [nI v2.toNat]))
      rw [e]
    · have e0 : v0 = ((v0.toNat : Nat) : Int) := by omega
      have hi : v0.toNat < row.length := by omega
      generalize v0.toNat = i at *
      subst e0
      refine ⟨_, rfl, _, rfl, _, rfl, slA_to (i := i) (n2.tup ha) (by omega) fun l G1 s1 hl1 => ?_⟩
      have n3 := n2.same s1
      have hb1 : row[i]? = some row[i] := List.getElem?_eq_getElem hi
      refine ⟨_, rfl, _, rfl, a, _, _, nI row[i], rfl, rfl, .inl (.inl (n3.tup ha)), atI_nat (by rw [List.getElem?_map, hb1]; rfl), _, _, rfl, rfl, _, rfl, p, c, m + 2, 255, rfl, n3.pen, by omega, by decide, log_ok (by decide) (by decide), fun v2 o2 a2 b2 hP3 => ⟨_, _, rfl, rfl, _, _, rfl, rfl, (by show (0 : Int) < 256; decide), by show 1 ≤ sizeLine; decide, fun t ht => ?_⟩⟩
      have n4 := n3.draw hP3
      have e2 : ((row[i] : Nat) : Int) + 1 + v2 = ((row[i] + 1 + v2.toNat : Nat) : Int) := by omega
      have n5 := n4.same (Same.new (o := .tup [.int ((((row[i] : Nat) : Int) + 1 + v2) % 256)]) ht)
      have hl5 : upd (upd G1 p o2) t (.tup [.int ((((row[i] : Nat) : Int) + 1 + v2) % 256)]) l = some (.tup ((row.take i).map nI)) := by
        have q1 := ((Pn.refl n3.pen).draw hP3).tup hl1
        exact (Same.new ht) _ _ q1
      refine catL (.inl (.inl hl5)) upd_same (by intro z; cases z) (by rw [List.length_map, List.length_take]; show _ + 1 ≤ _; omega) fun c1 G2 s2 hc1 => ?_
      have n6 := n5.same s2
      refine ⟨_, rfl, _, rfl, _, _, rfl, rfl, _, rfl, ?_⟩
      unfold tNoPart
      refine slA_fromZ (i := i + 1) (by omega) (n6.tup ha) (by omega) fun l2 G3 s3 hl3 => ?_
      refine catR (s3 _ _ hc1) (.inl (.inl hl3)) (by simp) (by rw [List.length_append, List.length_map, List.length_map, List.length_take, List.length_drop]; show _ + 1 + _ ≤ _; omega) fun c2 G4 s4 hc2 => ?_
      refine k (row.take i ++ [(row[i] + 1 + v2.toNat) % 256] ++ row.drop (i + 1)) c2 G4 ((n6.same s3).same s4) (.inr ⟨i, row[i], v2.toNat, hb1, by omega, rfl⟩) ?_
      rw [hc2, List.map_append, List.map_append]
      have e3 : (((row[i] : Nat) : Int) + 1 + v2) % 256 = (((row[i] + 1 + v2.toNat) % 256 : Nat) : Int) := by rw [e2]; rfl
      show some (HO.tup ((row.take i).map nI ++ [V.int ((((row[i] : Nat) : Int) + 1 + v2) % 256)] ++ (row.drop (i + 1)).map nI)) = _
      rw [e3]
      rfl
end
end Wq
set_option Elab.async false
set_option linter.all false
set_option maxRecDepth 100000
set_option maxHeartbeats 4000000
set_option exponentiation.threshold 5000
namespace Wq
open PySem PySem.Spec PyProof.Rows L2
open Rb (wh le un val Bp Wr rwa fb rdWhole rdSigns rdBits rdRaw rd Res many cutN)
open Crc (ck)
/-! the def that calls what it got, and tells the name of what is torn -/
abbrev sTo : Stmt := top 41
abbrev NTo : List Str := ["_law_call", "_law_fault"]
theorem scTo : FnScope NTo ["_law_call"] (defScope sTo) := ⟨rfl, rfl, rfl, by decide +kernel, rfl, by decide +kernel, by decide +kernel⟩
/-- what is let out is a torn file's name, always -/
def TTorn (CT : Addr) : (XK → Hp → VK → Prop) → Hp → VK → Prop := fun tl H Q =>
  ∀ R, tl (fun cls d H' => ∃ dd v, cls = .ref CT ∧ d = some dd ∧ H' dd = some (.xd [("name", v)]) ∧ Q v H') H R
theorem takes_len {X : Cx} {W : WX} (t : Takes X W) : Takes X (fun c d σ H => σ.length = X.N.length → W c d σ H) := fun u s' ⟨a, B, sI, pins, σ, H, cls, d, e, I, nb, up, sky, na, os, ag, w⟩ =>
  t u s' ⟨a, B, sI, pins, σ, H, cls, d, e, I, nb, up, sky, na, os, ag, w I.len⟩
theorem torn_gives {X : Cx} {q : Str} {g CT : Addr} {cdg : Value} (hme : X.mg "TornFile" = some (.ref CT)) (xf : XfC X.K CT) (nN : PySem.W.findIn X.K (.ref CT) "name" = some none) (te : PySem.W.exmOne X.K (.ref CT) (.ref CT) = some true) :
    LamX.GivesTo X NTo "_law_torn" (defScope sTo) g cdg (defBody sTo) "_law_call" q (TTorn CT) := by
  intro f c' s H Q tl act hc h
  refine ⟨_, pss_cons (ps_try_as (X := (cxOf C8.CX0 X.prog X.w X.K X.mg X.base NTo "_law_torn" (defScope sTo) g cdg X.A X.stack s H C8.E0).nox) (i := 1)
      (tb := fun W D σ H => ∃ Ech : XK, (∀ cls d (σ' : L2.St) H', Ech cls d H' → σ'.length = 2 → W cls d σ' H') ∧ σ = [some (.ref f), none] ∧ H c' = some (LamX.CodeO c' q) ∧ ∀ R, tl Ech H R)
      (ts := fun a cls d D σ H => ∃ dd v x0, cls = .ref CT ∧ d = some dd ∧ σ = [x0, some (.ref a)] ∧ H dd = some (.xd [("name", v)]) ∧ D.rt v H) (Wout := fun _ _ _ _ => False) rfl rfl scTo.nd rfl rfl ⟨rfl, by decide, .inl hme⟩ takes0
      (fun W pn xe tk _ => ?_) (fun a oe cls d pn hz hf => pss_pre (pss_one (ps_ret (pe_xf xf nN hz hf (pv 1)))) (fun D σ H hb => ?_))) (pss_one (ps_ret pe_non)), ?_⟩
  · refine ⟨fun pins s' σ H' D I h' => ?_⟩
    obtain ⟨Ech, hW, rfl, h2, h3⟩ := h'
    exact (pss_one (ps_expr (act _ pn xe Ech _ _ (takes_len tk) (fun cls d σ' H' hE hl => hW cls d σ' H' hE hl)))).run pins s' _ H' D I ⟨rfl, h2, h3 _⟩
  · obtain ⟨dd, v, x0, rfl, rfl, rfl, hd, hq⟩ := hb
    exact ⟨_, rfl, rfl, rfl, dd, _, _, rfl, hd, (by rfl), hq⟩
  · refine ⟨_, fun cls d σ' H' hE hl => ?_, rfl, hc, h⟩
    obtain ⟨dd, v, rfl, rfl, hd, hq⟩ := hE
    match σ', hl with
    | [y0, y1], _ => exact ⟨true, te, fun _ a ha => ⟨dd, v, _, rfl, rfl, rfl, hd, hq⟩, fun z => by cases z⟩
end Wq
set_option Elab.async false
set_option linter.all false
set_option maxRecDepth 100000
set_option maxHeartbeats 4000000
set_option exponentiation.threshold 5000
namespace Wq
open Rb (wh le un rwa rdRaw rdBits many cutN)
open Crc (ck rowBit)
theorem un_le : ∀ k v, un (le k v) = v % 256 ^ k
  | 0, v => by simp [le, un, Nat.mod_one]
  | k + 1, v => by
    show v % 256 + 256 * un (le k (v / 256)) = v % 256 ^ (k + 1)
    rw [un_le k, Nat.pow_succ', Nat.mod_mul]
/-- a number is read back, whatever follows -/
theorem rwa_wh (n : Nat) : ∀ (i acc : Nat) (rest : List Nat), (0 < n ∨ i = 0) → rwa (wh n ++ rest) i acc = .ok (acc + 2 ^ (7 * i) * n) (i + (wh n).length) := by
  induction n using Nat.strongRecOn with
  | ind n ih =>
    intro i acc rest hn
    by_cases h : n > 127
    · rw [Rb.wh_big h]
      show rwa ((128 + n % 128) :: (wh (n / 128) ++ rest)) i acc = _
      unfold rwa
      rw [if_pos (by omega), ih (n / 128) (by omega) (i + 1) _ rest (.inl (by omega))]
      have e1 : (128 + n % 128) % 128 = n % 128 := by omega
      have e2 : 2 ^ (7 * (i + 1)) = 2 ^ (7 * i) * 128 := by rw [show 7 * (i + 1) = 7 * i + 7 by omega, Nat.pow_add]
      rw [e1, e2]
      have e3 : n = n % 128 + 128 * (n / 128) := by omega
      have e4 : 2 ^ (7 * i) * n = 2 ^ (7 * i) * (n % 128) + 2 ^ (7 * i) * 128 * (n / 128) := by
        rw [Nat.mul_assoc, ← Nat.mul_add, ← e3]
      rw [e4, List.length_cons]
      congr 1
      · omega
      · omega
    · rw [Rb.wh_small h]
      show rwa (n :: rest) i acc = _
      unfold rwa
      rw [if_neg h, if_neg (by omega)]
      rfl
theorem rwa_cut (n : Nat) : ∀ (k i acc : Nat), k < (wh n).length → ∃ e, rwa ((wh n).take k) i acc = .err e := by
  induction n using Nat.strongRecOn with
  | ind n ih =>
    intro k i acc hk
    cases k with
    | zero => exact ⟨i, rfl⟩
    | succ k =>
      by_cases h : n > 127
      · rw [Rb.wh_big h, List.length_cons] at hk
        rw [Rb.wh_big h]
        show ∃ e, rwa ((128 + n % 128) :: (wh (n / 128)).take k) i acc = .err e
        unfold rwa
        rw [if_pos (by omega)]
        exact ih (n / 128) (by omega) k _ _ (by omega)
      · rw [Rb.wh_small h] at hk
        have : ([n] : List Nat).length = 1 := rfl
        omega
/-- a number of some groups is not small -/
theorem rwa_low : ∀ (l : List Nat) (i acc n c : Nat), 0 < i → rwa l i acc = .ok n c → acc + 2 ^ (7 * i) ≤ n ∧ i + 1 ≤ c
  | [], _, _, _, _, _, h => by cases h
  | b :: r, i, acc, n, c, hi, h => by
    unfold rwa at h
    by_cases h1 : b > 127
    · rw [if_pos h1] at h
      obtain ⟨a1, a2⟩ := rwa_low r (i + 1) _ n c (by omega) h
      have : 2 ^ (7 * i) ≤ 2 ^ (7 * (i + 1)) := Nat.pow_le_pow_right (by decide) (by omega)
      refine ⟨?_, by omega⟩
      have := Nat.zero_le (2 ^ (7 * i) * (b % 128))
      omega
    · rw [if_neg h1] at h
      by_cases h2 : b = 0 ∧ 0 < i
      · rw [if_pos h2] at h
        cases h
      · rw [if_neg h2] at h
        cases h
        have hb : 1 ≤ b := by omega
        have := Nat.mul_le_mul_left (2 ^ (7 * i)) hb
        rw [Nat.mul_one] at this
        exact ⟨by omega, by omega⟩
/-- what a sealed row must be -/
theorem Within.parts {R v : List Nat} (h : Within R v) : ∃ n c, rwa R 0 0 = .ok n c ∧ R.length = c + n + 4 ∧ v = (R.drop c).take n ∧ un ((R.drop (c + n)).take 4) % 2 ^ 32 = ck v := by
  obtain ⟨n, c, a, h1, h2, h3⟩ := h
  unfold rdRaw at h2
  split at h2
  · cases h2
  · cases h2
    unfold rdBits at h3
    rw [show many 1 32 = 4 from rfl] at h3
    split at h3
    · cases h3
    · split at h3
      · cases h3
      · have e1 : cutN (un ((R.drop (c + n)).take 4)) 32 1 = [ck ((R.drop c).take n)] := by injection h3
        have e2 : c + n + 4 = R.length := by injection h3
        have e3 : cutN (un ((R.drop (c + n)).take 4)) 32 1 = [un ((R.drop (c + n)).take 4) % 2 ^ 32] := by
          show [un ((R.drop (c + n)).take 4) / 2 ^ (32 * 0) % 2 ^ 32] = _
          rw [Nat.mul_zero, Nat.pow_zero, Nat.div_one]
        rw [e3] at e1
        exact ⟨n, c, h1, e2.symm, rfl, (List.cons.inj e1).1⟩
theorem Within.of {R v : List Nat} {n c : Nat} (hb : ∀ b ∈ R, b < 256) (h1 : rwa R 0 0 = .ok n c) (h2 : R.length = c + n + 4) (h3 : v = (R.drop c).take n) (h4 : un ((R.drop (c + n)).take 4) % 2 ^ 32 = ck v) : Within R v := by
  subst h3
  refine ⟨n, c, c + n, h1, ?_, ?_⟩
  · unfold rdRaw
    rw [if_neg (by omega)]
  · have hl : ((R.drop (c + n)).take 4).length = 4 := by rw [List.length_take, List.length_drop]; omega
    have hu := Rb.un_lt (l := (R.drop (c + n)).take 4) (fun b hm => hb b (List.mem_of_mem_drop (List.mem_of_mem_take hm)))
    rw [hl] at hu
    unfold rdBits
    rw [show many 1 32 = 4 from rfl, if_neg (by omega), if_neg ?_]
    · show Rb.Res.nums [un ((R.drop (c + n)).take 4) / 2 ^ (32 * 0) % 2 ^ 32] (c + n + 4) = _
      rw [Nat.mul_zero, Nat.pow_zero, Nat.div_one, h4, ← h2]
    · rw [Nat.div_eq_of_lt (by exact Nat.lt_of_lt_of_le hu (by decide))]
      decide
theorem sld_len (row : List Nat) : (sld row).length = (wh row.length).length + row.length + 4 := by
  unfold sld
  rw [List.length_append, List.length_append, Rb.le_len]
theorem sld_lt {row : List Nat} (h : ∀ b ∈ row, b < 256) : ∀ b ∈ sld row, b < 256 := by
  intro b hb
  unfold sld at hb
  rcases List.mem_append.mp hb with hb | hb
  · rcases List.mem_append.mp hb with hb | hb
    · exact Rb.wh_lt _ b hb
    · exact h b hb
  · exact Rb.le_lt _ _ b hb
theorem sld_rwa (row rest : List Nat) : rwa (sld row ++ rest) 0 0 = .ok row.length (wh row.length).length := by
  unfold sld
  rw [List.append_assoc, List.append_assoc, rwa_wh _ 0 0 _ (.inr rfl)]
  simp
theorem sld_within {row : List Nat} (h : ∀ b ∈ row, b < 256) : Within (sld row) row := by
  have e := sld_rwa row []
  rw [List.append_nil] at e
  have e1 : (sld row).drop (wh row.length).length = row ++ le 4 (ck row) := by
    unfold sld
    rw [List.append_assoc, List.drop_left]
  have e2 : (sld row).drop ((wh row.length).length + row.length) = le 4 (ck row) := by
    rw [← List.drop_drop, e1, List.drop_left]
  refine Within.of (sld_lt h) e (sld_len row) ?_ ?_
  · rw [e1, List.take_left]
  · rw [e2, List.take_of_length_le (by rw [Rb.le_len]; exact Nat.le_refl _), un_le]
    have hc : ck row < 2 ^ 32 := Crc.ckTo_lt row _
    rw [Nat.mod_eq_of_lt (a := ck row) (by exact Nat.lt_of_lt_of_le hc (by decide)), Nat.mod_eq_of_lt hc]
theorem cut_no {row : List Nat} {k : Nat} (hk : k < (sld row).length) (v : List Nat) : ¬ Within ((sld row).take k) v := by
  intro hw
  obtain ⟨n, c, h1, h2, _⟩ := hw.parts
  rw [List.length_take, Nat.min_eq_left (by omega)] at h2
  by_cases hL : k < (wh row.length).length
  · have e : (sld row).take k = (wh row.length).take k := by
      unfold sld
      rw [List.append_assoc, List.take_append_of_le_length (by omega)]
    rw [e] at h1
    obtain ⟨x, hx⟩ := rwa_cut row.length k 0 0 hL
    rw [hx] at h1
    cases h1
  · have e : (sld row).take k = wh row.length ++ (row ++ le 4 (ck row)).take (k - (wh row.length).length) := by
      unfold sld
      rw [List.append_assoc, List.take_append, List.take_of_length_le (by omega)]
    rw [e, rwa_wh _ 0 0 _ (.inr rfl)] at h1
    simp at h1
    obtain ⟨rfl, rfl⟩ := h1
    rw [sld_len] at hk
    omega
theorem more_no (row : List Nat) (x : Nat) (v : List Nat) : ¬ Within (sld row ++ [x]) v := by
  intro hw
  obtain ⟨n, c, h1, h2, _⟩ := hw.parts
  rw [sld_rwa] at h1
  cases h1
  rw [List.length_append, sld_len] at h2
  have : ([x] : List Nat).length = 1 := rfl
  omega
end Wq
set_option Elab.async false
set_option linter.all false
set_option maxRecDepth 100000
set_option maxHeartbeats 4000000
set_option exponentiation.threshold 5000
namespace Wq
open Rb (wh le un rwa rdRaw rdBits many cutN)
open Crc (ck rowBit bt rg)
theorem bt_ne {a b : Nat} (ha : a < 256) (hb : b < 256) (h : a ≠ b) : ∃ q, q < 8 ∧ bt a q ≠ bt b q := by
  refine Classical.byContradiction fun hn => h ?_
  apply Nat.eq_of_testBit_eq
  intro i
  by_cases hi : i < 8
  · have : bt a (7 - i) = bt b (7 - i) := Classical.byContradiction fun z => hn ⟨7 - i, by omega, z⟩
    unfold bt at this
    rw [show 7 - (7 - i) = i by omega] at this
    exact this
  · have e8 : 2 ^ 8 ≤ 2 ^ i := Nat.pow_le_pow_right (by decide) (by omega)
    rw [Nat.testBit_lt_two_pow (Nat.lt_of_lt_of_le (show a < 2 ^ 8 from ha) e8), Nat.testBit_lt_two_pow (Nat.lt_of_lt_of_le (show b < 2 ^ 8 from hb) e8)]
theorem first_of {P : Nat → Prop} : ∀ n, P n → ∃ m, m ≤ n ∧ P m ∧ ∀ k, k < m → ¬ P k := by
  intro n
  induction n using Nat.strongRecOn with
  | ind n ih =>
    intro h
    by_cases hx : ∃ k, k < n ∧ P k
    · obtain ⟨k, hk, pk⟩ := hx
      obtain ⟨m, h1, h2, h3⟩ := ih k hk pk
      exact ⟨m, by omega, h2, h3⟩
    · exact ⟨n, Nat.le_refl _, h, fun k hk pk => hx ⟨k, hk, pk⟩⟩
theorem ck_set {row : List Nat} {j b b' : Nat} (hj : row[j]? = some b) (hb : b < 256) (hb' : b' < 256) (h : b' ≠ b) : ck (row.set j b') ≠ ck row := by
  intro e
  have hjl := (List.getElem?_eq_some_iff.mp hj).1
  obtain ⟨q, hq, hne⟩ := bt_ne hb' hb h
  obtain ⟨m, hm, pm, hmin⟩ := first_of (P := fun q => bt b' q ≠ bt b q) q hne
  have hE : ∀ t, (rowBit (row.set j b') t ^^ rowBit row t) = if t / 8 = j then (bt b' (t % 8) ^^ bt b (t % 8)) else false := by
    intro t
    unfold rowBit
    by_cases ht : t / 8 = j
    · rw [if_pos ht, ht]
      have e1 : (row.set j b').getD j 0 = b' := by
        rw [List.getD_eq_getElem?_getD, List.getElem?_set_self hjl]
        rfl
      have e2 : row.getD j 0 = b := by rw [List.getD_eq_getElem?_getD, hj]; rfl
      rw [e1, e2]
    · rw [if_neg ht, List.getD_eq_getElem?_getD, List.getD_eq_getElem?_getD, List.getElem?_set_ne (fun z => ht z.symm), Bool.xor_self]
  have hlow : ∀ t, t < 8 * j + m → (rowBit (row.set j b') t ^^ rowBit row t) = false := by
    intro t ht
    rw [hE]
    by_cases htj : t / 8 = j
    · rw [if_pos htj]
      have hn := hmin (t % 8) (by omega)
      have : bt b' (t % 8) = bt b (t % 8) := Classical.byContradiction hn
      rw [this, Bool.xor_self]
    · rw [if_neg htj]
  have hat : (rowBit (row.set j b') (8 * j + m) ^^ rowBit row (8 * j + m)) = true := by
    rw [hE, if_pos (by omega), show (8 * j + m) % 8 = m by omega]
    cases h1 : bt b' m <;> cases h2 : bt b m <;> first | rfl | (rw [h1, h2] at pm; exact absurd rfl pm)
  have hup : ∀ t, 8 * j + m + 32 ≤ t → (rowBit (row.set j b') t ^^ rowBit row t) = false := by
    intro t ht
    rw [hE, if_neg (by omega)]
  have hbst := Crc.rg_burst (fun t => rowBit (row.set j b') t ^^ rowBit row t) (8 * j + m) hlow hat hup (8 * row.length) (by omega)
  apply hbst
  have e2 : rg 0 (fun t => rowBit (row.set j b') t ^^ rowBit row t) (8 * row.length) = ck (row.set j b') ^^^ ck row := by
    unfold ck Crc.ckTo
    rw [List.length_set, ← Crc.rg_xor, Nat.xor_self]
  rw [e2, e, Nat.xor_self]
theorem un_inj {a b : List Nat} (ha : ∀ x ∈ a, x < 256) (hb : ∀ x ∈ b, x < 256) (hl : a.length = b.length) (h : un a = un b) : a = b := by
  rw [← Rb.le_un ha, ← Rb.le_un hb, hl, h]
theorem set_lt {l : List Nat} {i b : Nat} (h : ∀ x ∈ l, x < 256) (hb : b < 256) : ∀ x ∈ l.set i b, x < 256 := by
  intro x hx
  rcases List.mem_or_eq_of_mem_set hx with h1 | h1
  · exact h x h1
  · rw [h1]; exact hb
theorem one_no {row : List Nat} (hr : ∀ b ∈ row, b < 256) (hl : row.length ≤ 5000) {i b b' : Nat} (hi : (sld row)[i]? = some b) (hb' : b' < 256) (h : b' ≠ b) (v : List Nat) : ¬ Within ((sld row).set i b') v := by
  intro hw
  obtain ⟨n, c, h1, h2, h3, h4⟩ := hw.parts
  rw [List.length_set, sld_len] at h2
  have hil := (List.getElem?_eq_some_iff.mp hi).1
  rw [sld_len] at hil
  have hc : ck row < 2 ^ 32 := Crc.ckTo_lt row _
  by_cases hL : i < (wh row.length).length
  · -- the length is another one
    by_cases h127 : row.length > 127
    · have e0 : wh row.length = [128 + row.length % 128, row.length / 128] := by
        rw [Rb.wh_big h127, Rb.wh_small (by omega)]
      have e : sld row = (128 + row.length % 128) :: (row.length / 128) :: (row ++ le 4 (ck row)) := by
        unfold sld
        rw [e0]
        rfl
      rw [e0] at hL h2
      rw [e] at h1 hi
      have hL : i < 2 := hL
      have h2 : 2 + row.length + 4 = c + n + 4 := h2
      match i, hL with
      | 0, _ =>
        have hi : 128 + row.length % 128 = b := Option.some.inj hi
        change rwa (b' :: (row.length / 128) :: (row ++ le 4 (ck row))) 0 0 = .ok n c at h1
        unfold rwa at h1
        by_cases hb : b' > 127
        · rw [if_pos hb] at h1
          unfold rwa at h1
          rw [if_neg (by omega), if_neg (by omega)] at h1
          injection h1 with a1 a2
          simp at a1
          omega
        · rw [if_neg hb, if_neg (by omega)] at h1
          injection h1 with a1 a2
          simp at a1
          omega
      | 1, _ =>
        have hi : row.length / 128 = b := Option.some.inj hi
        change rwa ((128 + row.length % 128) :: b' :: (row ++ le 4 (ck row))) 0 0 = .ok n c at h1
        unfold rwa at h1
        rw [if_pos (by omega)] at h1
        unfold rwa at h1
        by_cases hb : b' > 127
        · rw [if_pos hb] at h1
          obtain ⟨a1, a2⟩ := rwa_low _ _ _ _ _ (by omega) h1
          simp at a1
          omega
        · rw [if_neg hb] at h1
          by_cases hz : b' = 0 ∧ 0 < 0 + 1
          · rw [if_pos hz] at h1
            cases h1
          · rw [if_neg hz] at h1
            injection h1 with a1 a2
            simp at a1
            omega
    · have e0 : wh row.length = [row.length] := Rb.wh_small h127
      have e : sld row = row.length :: (row ++ le 4 (ck row)) := by
        unfold sld
        rw [e0]
        rfl
      rw [e0] at hL h2
      rw [e] at h1 hi
      have hL : i < 1 := hL
      have h2 : 1 + row.length + 4 = c + n + 4 := h2
      match i, hL with
      | 0, _ =>
        have hi : row.length = b := Option.some.inj hi
        change rwa (b' :: (row ++ le 4 (ck row))) 0 0 = .ok n c at h1
        unfold rwa at h1
        by_cases hb : b' > 127
        · rw [if_pos hb] at h1
          obtain ⟨a1, a2⟩ := rwa_low _ _ _ _ _ (by omega) h1
          simp at a1
          omega
        · rw [if_neg hb, if_neg (by omega)] at h1
          injection h1 with a1 a2
          simp at a1
          omega
  · -- what is within, or its sum
    obtain ⟨j, rfl⟩ : ∃ j, i = (wh row.length).length + j := ⟨i - (wh row.length).length, by omega⟩
    have e : sld row = wh row.length ++ (row ++ le 4 (ck row)) := by
      unfold sld
      rw [List.append_assoc]
    have es : (sld row).set ((wh row.length).length + j) b' = wh row.length ++ (row ++ le 4 (ck row)).set j b' := by
      rw [e, List.set_append_right _ _ (by omega), Nat.add_sub_cancel_left]
    rw [es, rwa_wh _ 0 0 _ (.inr rfl)] at h1
    simp at h1
    obtain ⟨rfl, rfl⟩ := h1
    rw [es, List.drop_left] at h3
    rw [es, ← List.drop_drop, List.drop_left] at h4
    have hij : (row ++ le 4 (ck row))[j]? = some b := by
      rw [e, List.getElem?_append_right (by omega), Nat.add_sub_cancel_left] at hi
      exact hi
    have hb : b < 256 := by
      rcases List.mem_append.mp (List.mem_of_getElem? hij) with hm | hm
      · exact hr b hm
      · exact Rb.le_lt _ _ b hm
    by_cases hj : j < row.length
    · rw [List.set_append_left _ _ hj] at h3 h4
      have hs : (row.set j b').length = row.length := List.length_set
      rw [← hs, List.take_left] at h3
      rw [← hs, List.drop_left, List.take_of_length_le (by rw [Rb.le_len]; exact Nat.le_refl _), un_le] at h4
      rw [Nat.mod_eq_of_lt (a := ck row) (by exact Nat.lt_of_lt_of_le hc (by decide)), Nat.mod_eq_of_lt hc] at h4
      rw [List.getElem?_append_left hj] at hij
      rw [h3] at h4
      exact ck_set hij hb hb' h h4.symm
    · rw [List.set_append_right _ _ (by omega)] at h3 h4
      rw [List.take_left] at h3
      rw [List.drop_left] at h4
      rw [List.getElem?_append_right (by omega)] at hij
      have hl4 : ((le 4 (ck row)).set (j - row.length) b').length = 4 := by rw [List.length_set, Rb.le_len]
      have hlt := set_lt (i := j - row.length) (Rb.le_lt 4 (ck row)) hb'
      rw [List.take_of_length_le (by omega)] at h4
      have hu := Rb.un_lt hlt
      rw [hl4] at hu
      rw [Nat.mod_eq_of_lt (by exact Nat.lt_of_lt_of_le hu (by decide)), h3] at h4
      have h5 : un (le 4 (ck row)) = ck row := by
        rw [un_le, Nat.mod_eq_of_lt (by exact Nat.lt_of_lt_of_le hc (by decide))]
      have h6 := un_inj hlt (Rb.le_lt 4 (ck row)) (by rw [hl4, Rb.le_len]) (h4.trans h5.symm)
      have h7 : ((le 4 (ck row)).set (j - row.length) b')[j - row.length]? = (le 4 (ck row))[j - row.length]? := by rw [h6]
      rw [List.getElem?_set_self (List.getElem?_eq_some_iff.mp hij).1, hij] at h7
      exact h (Option.some.inj h7)
theorem chg_no {row row' : List Nat} (hr : ∀ b ∈ row, b < 256) (hl : row.length ≤ 5000) (h : Chg (sld row) row') (v : List Nat) : ¬ Within row' v := by
  rcases h with ⟨x, _, rfl⟩ | ⟨i, b, d, hi, hd, rfl⟩
  · exact more_no row x v
  · have hil := (List.getElem?_eq_some_iff.mp hi).1
    have hb : b < 256 := sld_lt hr b (List.mem_of_getElem? hi)
    have e : (sld row).take i ++ [(b + 1 + d) % 256] ++ (sld row).drop (i + 1) = (sld row).set i ((b + 1 + d) % 256) := by
      rw [List.set_eq_take_append_cons_drop, if_pos hil, List.append_assoc]
      rfl
    rw [e]
    exact one_no hr hl hi (by omega) (by omega) v
theorem chg_lt {row row' : List Nat} (hr : ∀ b ∈ row, b < 256) (h : Chg row row') : (∀ b ∈ row', b < 256) ∧ row'.length ≤ row.length + 1 := by
  rcases h with ⟨x, hx, rfl⟩ | ⟨i, b, d, hi, hd, rfl⟩
  · refine ⟨fun b hb => ?_, by rw [List.length_append]; exact Nat.le_refl _⟩
    rcases List.mem_append.mp hb with h1 | h1
    · exact hr b h1
    · rw [List.mem_singleton.mp h1]; exact hx
  · have hil := (List.getElem?_eq_some_iff.mp hi).1
    have e : row.take i ++ [(b + 1 + d) % 256] ++ row.drop (i + 1) = row.set i ((b + 1 + d) % 256) := by
      rw [List.set_eq_take_append_cons_drop, if_pos hil, List.append_assoc]
      rfl
    rw [e]
    exact ⟨set_lt hr (by omega), by rw [List.length_set]; omega⟩
end Wq
set_option Elab.async false
set_option linter.all false
set_option maxRecDepth 100000
set_option maxHeartbeats 4000000
set_option exponentiation.threshold 5000
namespace Wq
open PySem PySem.Spec PyProof.Rows L2
open Rb (wh le un val Bp Wr rwa fb rdWhole rdSigns rdBits rdRaw rd Res many cutN)
open Crc (ck)
/-! the law's own row of marks -/
def sm8 (ns : List Nat) (k : Nat) : Nat → List Nat
  | 0 => []
  | j + 1 => sm8 ns k j ++ (if k + j ∈ ns then [2 ^ j] else [])
theorem sm8_len (ns : List Nat) (k : Nat) : ∀ j, (sm8 ns k j).length ≤ j
  | 0 => Nat.le_refl _
  | j + 1 => by
    have := sm8_len ns k j
    unfold sm8
    rw [List.length_append]
    split
    · show _ + 1 ≤ j + 1
      omega
    · show _ + 0 ≤ j + 1
      omega
theorem mk_bit {m : Nat} {ns : List Nat} (hn : ∀ n ∈ ns, n < m) (t : Nat) : (val 1 (mkF m ns)).testBit t = decide (t ∈ ns) := by
  by_cases ht : t < m
  · have h1 : (mkF m ns)[t]? = some (if t ∈ ns then 1 else 0) := by
      unfold mkF
      rw [List.getElem?_map, List.getElem?_range ht]
      rfl
    have := Rb.val_bit (w := 1) (k := 0) mkF_01 h1 (by decide)
    rw [Nat.one_mul, Nat.add_zero] at this
    rw [this]
    by_cases h : t ∈ ns
    · rw [if_pos h, decide_eq_true h]
      rfl
    · rw [if_neg h, decide_eq_false h]
      rfl
  · have hv := Rb.val_lt (w := 1) (l := mkF m ns) mkF_01
    rw [mkF_len, Nat.one_mul] at hv
    rw [Nat.testBit_lt_two_pow (Nat.lt_of_lt_of_le hv (Nat.pow_le_pow_right (by decide) (by omega))), decide_eq_false (fun z => ht (hn t z))]
theorem V_bit (V e t : Nat) : (V / 2 ^ e) % 2 ^ (t + 1) = (V / 2 ^ e) % 2 ^ t + (if V.testBit (e + t) = true then 1 else 0) * 2 ^ t := by
  have h1 : V.testBit (e + t) = (V / 2 ^ e).testBit t := by rw [Nat.testBit_div_two_pow, Nat.add_comm]
  rw [h1, Nat.testBit_eq_decide_div_mod_eq]
  generalize V / 2 ^ e = x
  rw [Nat.pow_succ, Nat.mod_mul]
  simp only [decide_eq_true_eq]
  have h2 : x / 2 ^ t % 2 < 2 := Nat.mod_lt _ (by decide)
  by_cases h : x / 2 ^ t % 2 = 1
  · rw [if_pos h, h, Nat.one_mul, Nat.mul_one]
  · have h0 : x / 2 ^ t % 2 = 0 := by omega
    rw [if_neg h, h0, Nat.zero_mul, Nat.mul_zero]
theorem sm8_sum {m : Nat} {ns : List Nat} (hn : ∀ n ∈ ns, n < m) (k : Nat) : ∀ j, (sm8 ns k j).sum = val 1 (mkF m ns) / 2 ^ k % 2 ^ j
  | 0 => by simp [sm8, Nat.mod_one]
  | j + 1 => by
    rw [V_bit, mk_bit hn, ← sm8_sum hn k j]
    show (sm8 ns k j ++ (if k + j ∈ ns then [2 ^ j] else [])).sum = _
    rw [List.sum_append]
    by_cases h : k + j ∈ ns
    · rw [if_pos h, if_pos (decide_eq_true h)]
      simp
    · rw [if_neg h, if_neg (fun z => h (of_decide_eq_true z))]
      simp
theorem sum_cast : ∀ l : List Nat, (l.map fun n : Nat => (n : Int)).sum = ((l.sum : Nat) : Int)
  | [] => rfl
  | a :: l => by
    rw [List.map_cons, List.sum_cons, List.sum_cons, sum_cast l]
    omega
theorem rgc8 (M : Nat) (h : M ≤ 1000000) : RgC 0 (M : Int) 8 ((M + 7) / 8) := by
  have e : Builtin.Range.rangeSize 0 (M : Int) 8 = (((M + 7) / 8 : Nat) : Int) := by
    unfold Builtin.Range.rangeSize
    split <;> split <;> omega
  refine ⟨by decide, by decide, ?_, e⟩
  unfold Builtin.Range.small
  rw [e]
  unfold Builtin.Range.rangeFitsLong
  simp only [Bool.and_eq_true, Bool.or_eq_true, decide_eq_true_eq, beq_iff_eq]
  refine ⟨⟨⟨⟨?_, ?_⟩, ?_⟩, ?_⟩, .inr ?_⟩
  all_goals first | omega | (rw [if_pos (by decide)]; simp; omega) | skip
theorem inV_nat (z : Nat) : ∀ ns : List Nat, inV (nI z) (ns.map nI) = decide (z ∈ ns)
  | [] => rfl
  | n :: ns => by
    have ih := inV_nat z ns
    unfold inV at ih ⊢
    rw [List.map_cons, List.any_cons, ih]
    have e : eqV (nI n) (nI z) = decide (z = n) := by
      show ((n : Int) == (z : Int)) = decide (z = n)
      by_cases h : z = n
      · subst h
        simp
      · rw [decide_eq_false h]
        exact beq_eq_false_iff_ne.mpr (by omega)
    rw [e]
    by_cases h : z = n
    · simp [h]
    · simp [h]
theorem flat_nat (ns : List Nat) : (ns.map nI).all flatV = true := by
  rw [List.all_eq_true]
  intro v hv
  obtain ⟨n, _, rfl⟩ := List.mem_map.mp hv
  rfl
theorem wt_at : ∀ j, j < 8 → ([V.int 1, V.int 2, V.int 4, V.int 8, V.int 16, V.int 32, V.int 64, V.int 128] : List V)[j]? = some (nI (2 ^ j))
  | 0, _ => rfl
  | 1, _ => rfl
  | 2, _ => rfl
  | 3, _ => rfl
  | 4, _ => rfl
  | 5, _ => rfl
  | 6, _ => rfl
  | 7, _ => rfl
  | n + 8, h => by omega
abbrev sLM : Stmt := top 44
abbrev NLM : List Str := ["_law_many", "_law_numbers", "_law_found", "_law_weights", "_law_k", "_law_j"]
theorem scLM : FnScope NLM ["_law_many", "_law_numbers"] (defScope sLM) := ⟨rfl, rfl, rfl, by decide +kernel, rfl, by decide +kernel, by decide +kernel⟩
def spLM (K : PySem.W.Frag) : Sp := fun vs H Q _ => ∃ (m : Nat) (a : Addr) (ns : List Nat), vs = [nI m, .ref a] ∧ SqL K H a (ns.map nI) ∧ (∀ n ∈ ns, n < m) ∧ m ≤ 1000 ∧ ∀ t G, Same H G → SqT K G t ((sld (mkR m ns)).map nI) → Q (.ref t) G
section
variable {P : Program} {w : World} {K : PySem.W.Frag} {mg : Str → Option Value} {base : Heap} {C : Addr}
theorem ok_LM (D : DefAt K mg "_law_marked" sLM) (T : Txt K mg) (hsum : mg "sum" = none) (CW : Cl P w K mg base 3 "_law_whole" spWo) (CS : Cl P w K mg base 4 "_law_sealed" (spLS K)) : Cl P w K mg base 5 "_law_marked" (spLM K) := by
  refine cl_of D scLM (fun vs H Q E h => ?_) (fun _ _ _ _ _ _ us hl => match us, hl with | [_, _], _ => rfl) (fun f cdv A outer s H vs Q E hr h => ?_)
  · obtain ⟨m, a, ns, rfl, _⟩ := h
    rfl
  · obtain ⟨m, a, ns, rfl, hS, hn, hm, k⟩ := h
    refine ⟨_, C8.pss_cut (ps_asg (pe_tup (pa_cons (pe_lst pa_nil) (pa_cons (pe_lst (pa_cons pe_int (pa_cons pe_int (pa_cons pe_int (pa_cons pe_int (pa_cons pe_int (pa_cons pe_int (pa_cons pe_int (pa_cons pe_int pa_nil))))))))) pa_nil))) (pg_tup (by rfl) (pgs_cons (pg_name (i := 2) scLM.nd rfl (Or.inl rfl)) (pgs_cons (pg_name (i := 3) scLM.nd rfl (Or.inr rfl)) pgs_nil))))
(C8.pss_cut (ps_for PassesOwn.never rfl (pi_range3 rfl (by exact T.range) (pa_cons pe_int (pa_cons (pv 0) (pa_cons pe_int pa_nil)))) (pg_name (i := 4) scLM.nd rfl (Or.inr rfl))
(pss_one (ps_expr (pe_bm PySem.F.plainAttrs_list PySem.F.slot_list_append PySem.F.type_list_append mt_append (pv 2) (pa_cons (pe_callB (cr_sum rfl) (by rfl) (by exact hsum) (by decide +kernel) (pa_cons (pe_lc (own := [("_law_j", 5)]) (g := gName 5) (tt := tTest (tOp (rIn K false) (tOp (rI0 fun i j => .int (i + j)) (tVar 4) (tVar 5)) (tVar 1))) (te := tOp (rIxL K) (tVar 3) (tVar 5)) (by rfl) scLM.nd (pi_range1 rfl (by exact T.range) (pa_cons pe_int pa_nil)) (blkOk_by (own := [("_law_j", 5)]) (N := NLM) (sc := defScope sLM) (by decide +kernel)) (fun _ _ _ _ _ => (pg_name (i := 5) scLM.nd rfl (Or.inl rfl))) (fun _ _ _ _ _ => (pts_one (pt_cmpR op_in_seq (pe_op op_add (pv 4) (pv 5)) (pv 1) rfl))) (fun _ _ _ _ _ => (pe_ix ix_list (pv 3) (pv 5) (fun _ _ => rfl)))) pa_nil)) pa_nil)))))
(pss_one (ps_ret (pe_cl CS hr (by decide) rfl (pa_cons (pe_op op_catA (pe_cl CW hr (by decide) rfl (pa_cons (pv 0) pa_nil)) (pe_callTy call_tuple_of (by rfl) (by exact T.tuple) (by decide +kernel) (pa_cons (pv 2) pa_nil))) pa_nil))))), ?_⟩
    have hz9 : ∀ n, n ≤ 9 → n ≤ sizeLine := fun n h => by rw [sizeLine_eq]; omega
    refine ⟨fun σ G => ∃ l wl, σ = [some (nI m), some (.ref a), some (.ref l), some (.ref wl), none, none] ∧ Same H G ∧ H l = none ∧ l ≠ wl ∧ G l = some (.lst []) ∧ G wl = some (.lst [.int 1, .int 2, .int 4, .int 8, .int 16, .int 32, .int 64, .int 128]), ?_, ?_⟩
    · refine ⟨hz9 0 (by decide), fun l hl => ⟨hz9 8 (by decide), fun wl hwl => ⟨hz9 2 (by decide), fun t ht => ?_⟩⟩⟩
      have s1 := Same.new (o := .lst []) hl
      have s2 := Same.new (o := .lst [.int 1, .int 2, .int 4, .int 8, .int 16, .int 32, .int 64, .int 128]) hwl
      have s3 := Same.new (o := .tup [.ref l, .ref wl]) ht
      refine ⟨t, _, rfl, .inl (.inl upd_same), rfl, _, _, rfl, _, _, rfl, rfl, l, wl, rfl, s1.trans (s2.trans s3), hl, ?_, s3 _ _ (s2 _ _ upd_same), s3 _ _ upd_same⟩
      exact ne_of_none upd_same hwl
    rintro σ G1 ⟨l, wl, rfl, s1, hl0, nlw, hl1, hw1⟩
    refine ⟨fun σ G => ∃ x y, σ = [some (nI m), some (.ref a), some (.ref l), some (.ref wl), x, y] ∧ Same H G ∧ G l = some (.lst ((le ((m + 7) / 8) (val 1 (mkF m ns))).map nI)), ?_, ?_⟩
    · refine ⟨_, rfl, 0, _, 8, (m + 7) / 8, rfl, rgc8 m (by omega), for_rangeC (lo := 0) (c := 8) (n := (m + 7) / 8) (fun i σ G => ∃ x y, σ = [some (nI m), some (.ref a), some (.ref l), some (.ref wl), x, y] ∧ Same H G ∧ G l = some (.lst ((le i (val 1 (mkF m ns))).map nI)) ∧ G wl = some (.lst [.int 1, .int 2, .int 4, .int 8, .int 16, .int 32, .int 64, .int 128])) ⟨_, _, rfl, s1, hl1, hw1⟩ ?_ ?_⟩
      · rintro i σ G hi ⟨x, y, rfl, s2, hl2, hw2⟩
        refine ⟨_, rfl, .inl ⟨rfl, _, .inl (.inl hl2)⟩, 8, rfl, by decide, by decide, fun Dd hD => ?_⟩
        have nlD : l ≠ Dd := ne_of_none hl2 hD
        refine lc_range (lo := 0) (n := 8) (fun j G' => Same G G' ∧ G' Dd = some (.lst ((sm8 ns (8 * i) j).map nI))) ⟨Same.new hD, upd_same⟩ ?_ ?_
        · rintro j G' hj ⟨sm, hD2⟩
          refine ⟨rfl, ?_⟩
          have ez : (0 + (i : Int) * 8) + (0 + (j : Int)) = ((8 * i + j : Nat) : Int) := by omega
          refine ⟨_, rfl, _, rfl, _, _, rfl, rfl, _, rfl, a, _, rfl, .inl (SqL_same hS (s2.trans sm)), rfl, flat_nat ns, _, rfl, ?_⟩
          have ei : inV (V.int ((0 + (i : Int) * 8) + (0 + (j : Int)))) (ns.map nI) = decide (8 * i + j ∈ ns) := by
            rw [ez]
            exact inV_nat _ ns
          show if inV (V.int ((0 + (i : Int) * 8) + (0 + (j : Int)))) (ns.map nI) = true then _ else _
          rw [ei]
          refine ite2 (fun h => ?_) (fun h => ?_)
          · have h := of_decide_eq_true h
            refine ⟨_, rfl, _, rfl, wl, _, _, nI (2 ^ j), rfl, rfl, .inl (.inl (sm _ _ hw2)), ?_, _, hD2, ?_, Same.put sm hD, ?_⟩
            · rw [Int.zero_add]
              exact atI_nat (wt_at j hj)
            · rw [List.length_map, sizeLine_eq]
              have := sm8_len ns (8 * i) j
              omega
            · rw [upd_same]
              show _ = some (HO.lst ((sm8 ns (8 * i) j ++ (if 8 * i + j ∈ ns then [2 ^ j] else [])).map nI))
              rw [if_pos h, List.map_append]
              rfl
          · have h : ¬ 8 * i + j ∈ ns := fun z => h (decide_eq_true z)
            refine ⟨sm, ?_⟩
            show _ = some (HO.lst ((sm8 ns (8 * i) j ++ (if 8 * i + j ∈ ns then [2 ^ j] else [])).map nI))
            rw [if_neg h, List.append_nil]
            exact hD2
        rintro G' ⟨sm, hD2⟩
        have eD : (sm8 ns (8 * i) 8).map nI = ((sm8 ns (8 * i) 8).map fun n : Nat => (n : Int)).map V.int := by
          rw [List.map_map]
          rfl
        rw [eD] at hD2
        have hl3 := sm _ _ hl2
        refine ⟨Dd, _, rfl, .inl (.inl hD2), l, _, _, rfl, rfl, hl3, ?_, some (.int (0 + (i : Int) * 8)), y, rfl, fun b o e => ?_, ?_, ?_⟩
        · rw [List.length_map, Rb.le_len, sizeLine_eq]
          omega
        · rw [upd_ne (ne_of_none e hl0)]
          exact sm _ _ (s2 b o e)
        · rw [upd_same, le_snoc, List.map_append, sum_cast, sm8_sum hn, Rb.p256]
          rfl
        · rw [upd_ne nlw.symm]
          exact sm _ _ hw2
      · rintro σ G ⟨x, y, rfl, s2, hl2, hw2⟩
        exact ⟨x, y, rfl, s2, hl2⟩
    rintro σ G2 ⟨x, y, rfl, s2, hl2⟩
    have hwl : (wh m).length ≤ 2 := wh_len _ 2 (by omega) (by decide)
    refine ⟨_, rfl, m, rfl, Nat.lt_of_le_of_lt hm (by decide), fun t G3 s3 ht => ?_⟩
    refine ⟨_, rfl, l, _, rfl, .inl ⟨.inl (.inl (s3 _ _ hl2)), fun u hu => ?_⟩⟩
    have su := Same.new (o := .tup ((le ((m + 7) / 8) (val 1 (mkF m ns))).map nI)) hu
    refine catA_of (.inl (.inl (su _ _ ht))) (.inl (.inl upd_same)) (by rw [List.length_map, List.length_map, Rb.le_len]; omega) fun c G4 s4 hc => ?_
    have e : (wh m).map nI ++ (le ((m + 7) / 8) (val 1 (mkF m ns))).map nI = (mkR m ns).map nI := by
      unfold mkR
      rw [List.map_append]
    rw [e] at hc
    have hR : (mkR m ns).length ≤ 5000 := by
      unfold mkR
      rw [List.length_append, Rb.le_len]
      omega
    exact ⟨c, mkR m ns, rfl, hc, mkR_lt m ns, hR, fun t2 G5 s5 h5 => k t2 G5 (s2.trans (s3.trans (su.trans (s4.trans s5)))) h5⟩
end
end Wq
set_option Elab.async false
set_option linter.all false
set_option maxRecDepth 100000
set_option maxHeartbeats 4000000
set_option exponentiation.threshold 9000
namespace Wq
open PySem PySem.Spec PyProof.Rows L2
open SX (S S_len S_cat S_beq_eq)
/-! names of files -/
def tNever : TS := fun _ _ _ => False
theorem pss_never {X : Cx} {b : List Stmt} : PSs X b tNever := ⟨fun _ _ _ _ _ _ q => q.elim⟩
theorem num_len {n : Nat} (h : n < 2 ^ 64) : (TL.numL n).length ≤ 30 := TL.numL_len (by decide) (Nat.lt_of_lt_of_le h (by decide +kernel))
structure TxtN (mg : Str → Option Value) : Prop where
  str : mg "str" = none
  sb : ∃ t, mg "SHORT_BITS" = some (.int 10000 t)
abbrev sTN : Stmt := top 27
theorem scTN : FnScope ["number", "groups", "last"] ["number"] (defScope sTN) := ⟨rfl, rfl, rfl, by decide +kernel, rfl, by decide +kernel, by decide +kernel⟩
def spTN : Sp := fun vs H Q _ => ∃ n : Nat, vs = [nI n] ∧ n < 2 ^ 64 ∧ Q (.str (S (TL.numL n))) H
abbrev sMf : Stmt := top 35
theorem scMf : FnScope ["segment", "turn"] ["segment", "turn"] (defScope sMf) := ⟨rfl, rfl, rfl, by decide +kernel, rfl, by decide +kernel, by decide +kernel⟩
def nMf (s t : Nat) : List Nat := [100] ++ TL.numL s ++ [46] ++ TL.numL t
def spMf : Sp := fun vs H Q _ => ∃ s t : Nat, vs = [nI s, nI t] ∧ s < 2 ^ 64 ∧ t < 2 ^ 64 ∧ Q (.str (S (nMf s t))) H
theorem lenS {t : List Nat} (h : t.length ≤ 1000) : (S t).length ≤ sizeLine := by rw [S_len, sizeLine_eq]; omega
theorem lit_d : V.str "d" = V.str (S [100]) := congrArg V.str (show ("d" : Str) = S [100] by decide +kernel)
theorem lit_dot : V.str "." = V.str (S [46]) := congrArg V.str (show ("." : Str) = S [46] by decide +kernel)
section
variable {P : Program} {w : World} {K : PySem.W.Frag} {mg : Str → Option Value} {base : Heap} {C : Addr}
theorem ok_TN (D : DefAt K mg "told_number" sTN) (TT : TxtN mg) : Cl P w K mg base 1 "told_number" spTN := by
  obtain ⟨tb, hb⟩ := TT.sb
  refine cl_of D scTN (fun vs H Q E h => ?_) (fun _ _ _ _ _ _ us hl => match us, hl with | [_], _ => rfl) (fun f cdv A outer s H vs Q E hr h => ?_)
  · obtain ⟨n, rfl, _⟩ := h
    rfl
  · obtain ⟨n, rfl, hB, k⟩ := h
    refine ⟨_, pss_cons (ps_if (pt_cmpR op_lt (pv 0) pe_int (nomark _)) pss_never pss_nil)
(pss_cons (ps_if (pt_cmpR op_le (pe_bits (pv 0)) (pgi (by exact hb)) (nomark _))
(pss_one (ps_ret (pe_callTy call_str_int (by rfl) (by exact TT.str) (by decide +kernel) (pa_cons (pv 0) pa_nil))))
pss_nil)
pss_never), ?_⟩
    have hl2 : (n : Int).natAbs.log2 < 64 := PySem.Flt.log2_lt_of (by decide) (by rw [Int.natAbs_natCast]; exact hB)
    refine ⟨_, rfl, _, _, rfl, rfl, _, rfl, ?_⟩
    refine (if_neg (by rw [decide_eq_false (by omega)]; decide)).mpr ?_
    refine ⟨_, rfl, (n : Int), rfl, _, _, rfl, rfl, _, rfl, ?_⟩
    have hbt : (Builtin.Int.intBits (n : Int) : Nat) ≤ 10000 := by
      unfold Builtin.Int.intBits
      split <;> omega
    refine (if_pos (decide_eq_true (by omega))).mpr ?_
    refine ⟨_, rfl, (n : Int), rfl, by omega, ?_⟩
    show Q (.str (Str.ofString (toString (n : Int)))) H
    rw [SX.num_S]
    exact k
theorem ok_Mf (D : DefAt K mg "marks_file" sMf) (CN : Cl P w K mg base 1 "told_number" spTN) : Cl P w K mg base 2 "marks_file" spMf := by
  refine cl_of D scMf (fun vs H Q E h => ?_) (fun _ _ _ _ _ _ us hl => match us, hl with | [_, _], _ => rfl) (fun f cdv A outer s H vs Q E hr h => ?_)
  · obtain ⟨n, m, rfl, _⟩ := h
    rfl
  · obtain ⟨n, m, rfl, hn, hm, k⟩ := h
    refine ⟨_, pss_one (ps_ret (pe_op op_add_str (pe_op op_add_str (pe_op op_add_str pe_str (pe_cl CN hr (by decide) rfl (pa_cons (pv 0) pa_nil))) pe_str) (pe_cl CN hr (by decide) rfl (pa_cons (pv 1) pa_nil)))), ?_⟩
    have l1 := num_len hn
    have l2 := num_len hm
    refine ⟨_, rfl, n, rfl, hn, S [100], S (TL.numL n), lit_d, rfl, ?_, S ([100] ++ TL.numL n), S [46], ?_, lit_dot, ?_, _, rfl, m, rfl, hm, S ([100] ++ TL.numL n ++ [46]), S (TL.numL m), ?_, rfl, ?_, ?_⟩
    · rw [S_len, S_len, sizeLine_eq]
      show 1 + _ ≤ _
      omega
    · rw [S_cat]
    · rw [S_len, S_len, sizeLine_eq, List.length_append]
      show 1 + _ + 1 ≤ _
      omega
    · rw [S_cat]
    · rw [S_len, S_len, sizeLine_eq, List.length_append, List.length_append]
      show 1 + _ + 1 + _ ≤ _
      omega
    · rw [S_cat]
      exact k
end
end Wq
set_option Elab.async false
set_option linter.all false
set_option maxRecDepth 100000
set_option maxHeartbeats 4000000
set_option exponentiation.threshold 9000
namespace Wq
open PySem PySem.Spec PyProof.Rows L2
open SX (S S_len S_cat S_beq_eq)
/-! the files of a segment -/
abbrev rAddS : R2 := fun x y H Q => ∃ i j, x = .str i ∧ y = .str j ∧ i.length + j.length ≤ sizeLine ∧ Q (.str (i ++ j)) H
def nEnds : List (List Nat) := [[108, 101, 110, 103, 116, 104, 115], [112, 97, 112, 101, 114, 115], [112, 111, 115, 116, 105, 110, 103, 115], [119, 111, 114, 100, 115]]
def nSg (s : Nat) (e : List Nat) : List Nat := [115] ++ TL.numL s ++ [46] ++ e
structure TxtEn (K : PySem.W.Frag) (mg : Str → Option Value) : Prop where
  en : ∃ e, mg "ENDS" = some (.ref e) ∧ ∀ H, SqT K H e (nEnds.map fun t => V.str (S t))
abbrev sSf : Stmt := top 34
abbrev NSf : List Str := ["segment", "end"]
theorem scSf : FnScope NSf ["segment"] (defScope sSf) := ⟨rfl, rfl, rfl, by decide +kernel, rfl, by decide +kernel, by decide +kernel⟩
def spSf : Sp := fun vs H Q _ => ∃ s : Nat, vs = [nI s] ∧ s < 2 ^ 64 ∧ ∀ t G, Same H G → G t = some (.tup ((nEnds.map (nSg s)).map fun t => V.str (S t))) → Q (.ref t) G
theorem lit_s : V.str "s" = V.str (S [115]) := congrArg V.str (show ("s" : Str) = S [115] by decide +kernel)
theorem ends_len : ∀ e ∈ nEnds, e.length ≤ 10 := by decide
section
variable {P : Program} {w : World} {K : PySem.W.Frag} {mg : Str → Option Value} {base : Heap} {C : Addr}
theorem ok_Sf (D : DefAt K mg "segment_files" sSf) (T : Txt K mg) (TE : TxtEn K mg) (CN : Cl P w K mg base 1 "told_number" spTN) : Cl P w K mg base 2 "segment_files" spSf := by
  obtain ⟨ea, ge, he⟩ := TE.en
  refine cl_of D scSf (fun vs H Q E h => ?_) (fun _ _ _ _ _ _ us hl => match us, hl with | [_], _ => rfl) (fun f cdv A outer s H vs Q E hr h => ?_)
  · obtain ⟨n, rfl, _⟩ := h
    rfl
  · obtain ⟨n, rfl, hn, k⟩ := h
    refine ⟨_, pss_one (ps_ret (pe_callTy call_tuple_of (by rfl) (by exact T.tuple) (by decide +kernel) (pa_cons (pe_lc (own := [("end", 1)]) (g := gName 1) (tt := tYes) (te := tOp rAddS (tOp rAddS (tOp rAddS (tC (.str "s")) (tCall spTN [] E0 (tCons (tVar 0) tNil))) (tC (.str "."))) (tVar 1)) (by rfl) scSf.nd (pi_tup (pe_glob rfl (by exact ge) (v := .ref ea) rfl)) (blkOk_by (own := [("end", 1)]) (N := NSf) (sc := defScope sSf) (by decide +kernel)) (fun _ _ _ _ _ => (pg_name (i := 1) scSf.nd rfl (Or.inl rfl))) (fun _ _ _ _ _ => pts_nil) (fun _ _ _ _ _ => (pe_op op_add_str (pe_op op_add_str (pe_op op_add_str pe_str (pe_cl CN hr (by decide) rfl (pa_cons (pv 0) pa_nil))) pe_str) (pv 1)))) pa_nil))), ?_⟩
    refine ⟨ea, rfl, ⟨_, he _⟩, fun Dd hD => ?_⟩
    refine lc_tup (K := K) (a := ea) (xs := nEnds.map fun t => V.str (S t)) (fun i G => Same H G ∧ G Dd = some (.lst (((nEnds.take i).map (nSg n)).map fun t => V.str (S t)))) ⟨Same.new hD, upd_same⟩ (fun _ _ _ _ => he _) ?_ ?_
    · rintro i v G hv ⟨sm, hD2⟩
      rw [List.getElem?_map] at hv
      cases ei : nEnds[i]? with
      | none => rw [ei] at hv; cases hv
      | some e =>
      rw [ei] at hv
      obtain rfl := Option.some.inj hv
      have hel := ends_len e (List.mem_of_getElem? ei)
      have l1 := num_len hn
      refine ⟨rfl, ?_⟩
      simp only [tYes, if_true]
      refine ⟨_, rfl, n, rfl, hn, S [115], S (TL.numL n), lit_s, rfl, ?_, S ([115] ++ TL.numL n), S [46], by rw [S_cat], lit_dot, ?_, _, rfl, S ([115] ++ TL.numL n ++ [46]), S e, by rw [S_cat], rfl, ?_, _, hD2, ?_, Same.put sm hD, ?_⟩
      · rw [S_len, S_len, sizeLine_eq]
        show 1 + _ ≤ _
        omega
      · rw [S_len, S_len, sizeLine_eq, List.length_append]
        show 1 + _ + 1 ≤ _
        omega
      · rw [S_len, S_len, sizeLine_eq, List.length_append, List.length_append]
        show 1 + _ + 1 + _ ≤ _
        omega
      · rw [List.length_map, List.length_map, List.length_take, sizeLine_eq]
        have : nEnds.length = 4 := rfl
        omega
      · rw [upd_same, S_cat]
        have e1 : nEnds.take (i + 1) = nEnds.take i ++ [e] := by rw [List.take_add_one, ei]; rfl
        rw [e1, List.map_append, List.map_append]
        rfl
    rintro G ⟨sm, hD2⟩
    have e4 : nEnds.take (nEnds.map fun t => V.str (S t)).length = nEnds := rfl
    rw [e4] at hD2
    refine ⟨Dd, _, rfl, .inl ⟨.inl (.inl hD2), fun t ht => ?_⟩⟩
    exact k t _ (sm.trans (Same.new ht)) upd_same
end
end Wq
set_option Elab.async false
set_option linter.all false
set_option maxRecDepth 100000
set_option maxHeartbeats 2000000
/-! promises of defs that are called where nothing is being shown (repr is known there) -/
namespace Wq
open PySem PySem.Spec PyProof.Rows L2
structure FnG (P : Program) (w : World) (K : PySem.W.Frag) (mg : Str → Option Value) (base : Heap) (CX : CXT) (k : Nat) (f : Addr) (fd : FuncData) (ps : List Str) (sp : Sp) : Prop where
  len : ∀ vs H Q E, sp vs H Q E → vs.length = ps.length
  go : ∀ (A : Around), Room k A → A.guards = some [] → ∀ (outer : List Env) (s : Shared) (H : Hp) (args : Args) (us : List Value) (vs : List V) (Q : VK) (E : XK), Env0 P w K mg base A outer s H → BindsTo s fd args (ps.zip us) → Vals vs us → sp vs H Q E → codeAny (model P w) A (.call (.ref f) args) (CR CX outer P w H s Q E) s
section
variable {P : Program} {w : World} {K : PySem.W.Frag} {mg : Str → Option Value} {base : Heap} {CX : CXT} {k : Nat} {f : Addr} {fd : FuncData} {ps : List Str} {sp : Sp}
theorem FnG.of (F : FnOk P w K mg base CX k f fd ps sp) : FnG P w K mg base CX k f fd ps sp := ⟨F.len, fun A hr _ outer s H args us vs Q E => F.run A outer s H args us vs Q E hr⟩
theorem FnG.mono {j : Nat} (F : FnG P w K mg base CX j f fd ps sp) (h : j ≤ k) : FnG P w K mg base CX k f fd ps sp := ⟨F.len, fun A hr hg => F.go A (hr.mono h) hg⟩
end
theorem deep_g {A : Around} {e : Env} (h : A.guards = some []) : (A.deeper e).guards = some [] := h
/-- a def by its body, where nothing is being shown -/
theorem fnG_of {CX : CXT} {P : Program} {w : World} {K : PySem.W.Frag} {mg : Str → Option Value} {base : Heap} {k : Nat} {f : Addr} {x qual : Str} {pm : Arguments} {body : List Stmt} {sc : Scope} {dV kV doc pv cdv ct oc : Value} {an od : Option Addr} {osl : Array (Option Value)} {N ps : List Str} {sp : Sp}
    (lk : K.lookup f = some ⟨oc, od, .func (PySem.W.fnOf x qual pm body sc dV kV doc pv an cdv ct), osl⟩) (hcd : PySem.W.codeIn K cdv qual = true) (S : FnScope N ps sc) (len : ∀ vs H Q E, sp vs H Q E → vs.length = ps.length)
    (hbody : ∀ (A : Around), A.guards = some [] → ∀ (outer : List Env) (s : Shared) (H : Hp) (vs : List V) (Q : VK) (E : XK), Room k (A.deeper (envOfC qual sc s.heap.objs.size f cdv)) → sp vs H Q E →
      ∃ t, PSs (cxOf CX P w K mg base N qual sc f cdv A outer s H E) body t ∧ t { nx := fun _ H' => Q .non H', rt := Q } (start N vs) H) :
    FnG P w K mg base CX (k + 1) f (PySem.W.fnOf x qual pm body sc dV kV doc pv an cdv ct) ps sp := by
  refine ⟨len, fun A hr hg outer s H args us vs Q E e0 hb r hsp => ?_⟩
  obtain ⟨t, ht, hq⟩ := hbody A hg outer s H vs Q E (hr.deeper _) hsp
  have up : ∀ b o, base.get? b = some o → s.heap.get? b = some o := fun b o e => (e0.bs b o e).1
  have KX : K.In s.heap := e0.mod.kin.keeps up
  have kinds : ∀ y ∈ ps.zip us, sc.names.lookup y.1 = some .local ∨ (sc.names.lookup y.1 = some .cell ∧ ((cellsFrom (s.heap.objs.size + 1) sc.names []).lookup y.1).isSome = true) := by
    rintro ⟨n, v⟩ hy
    exact (S.par n (List.of_mem_zip hy).1).imp id fun q => ⟨q, PySem.W.cellsFrom_some _ _ _ (.inl q)⟩
  refine codeAny_call_function hr.depth (KX _ _ lk) rfl S.co S.gen rfl (PySem.W.codeRec_of KX hcd) (hb _ _ _ _ (wpAny_newFunctionEnv_cells S.kind kinds fun env he s1 x => ?_))
  subst he
  refine ⟨(e0.mod.nolimit.keeps up).keeps x.toInCall.keep, codeAny_func ?_⟩
  refine wpAny_mono (ht.run [] s1 (start N vs) H _ (inv_start S hr.hd e0 (len _ _ _ _ hsp) r x) hq) (fun fl s' hs => ?_) fun _ _ hs => hs
  cases fl with
  | brk => obtain ⟨_, _, _, q⟩ := hs; exact q.elim
  | cont => obtain ⟨_, _, _, q⟩ := hs; exact q.elim
  | next =>
    obtain ⟨σ', H', J, q⟩ := hs
    exact ⟨.non, H', J.os, J.bare, J.base, J.hok, rfl, q⟩
  | ret u =>
    obtain ⟨v, σ', H', J, rv, q⟩ := hs
    exact ⟨v, H', J.os, J.bare, J.base, J.hok, rv, q⟩
section
variable {X : Cx} {CX : CXT} {k : Nat} {f : Addr} {fd : FuncData} {ps : List Str} {sp : Sp} {ds : List Value} {dvs : List V} {E : XK} {x : Str} {p pos : Pos} {e : Expr} {es : List Expr} {t : TA}
theorem run_g {pins : List (Addr × Obj)} {σ : L2.St} {H : Hp} {s : Shared} {Q : VK} {us : List Value} {vs : List V} (F : FnG X.prog X.w X.K X.mg X.base CX k f fd ps sp) (hr : Room k X.A) (hG : X.A.guards = some []) (hb : Binds X.K fd ps ds) (hd : Vals dvs ds) (hx : Passes CX X E)
    (I : Inv X pins σ H s) (r : Vals vs us) (h : sp (vs ++ dvs) H Q E) : wpAny (model X.prog X.w) X.A (call (.ref f) us) (EP X pins σ Q) X.xe s := by
  have r2 := r.append hd
  have hl : (us ++ ds).length = ps.length := r2.length.symm.trans (F.len _ _ _ _ h)
  refine wpAny_call (codeAny_mono (F.go X.A hr hG X.stack s H ⟨us, []⟩ _ _ Q E I.env0 (hb s us I.kIn hl) r2 h) fun r s' hq => ?_)
  match r, hq with
  | .error e, hq => exact hx pins σ H s e s' I hq
  | .ok (.ret u), hq => exact I.after hq
theorem pe_callG (F : FnG X.prog X.w X.K X.mg X.base CX k f fd ps sp) (hr : Room k X.A) (hG : X.A.guards = some []) (hg : Gl X x) (hm : X.mg x = some (.ref f)) (hk : PySem.W.keepIn X.K (.ref f) = true) (hb : Binds X.K fd ps ds) (hd : Vals dvs ds) (hx : Passes CX X E) (ha : PA X (e :: es) t)
    (hdb : (x == ("__debug__" : Str)) = false := by decide) (he : starEach (e :: es) X.env = (false, eval e X.env) :: starEach es X.env := by rfl) (hpl : (backTo pos (starEach es X.env)).any (·.1) = false := by rfl) : PE X (.Call (.Name x p) (e :: es) [] pos) (tCall sp dvs E t) :=
  ⟨fun pins s σ H Q I h => wpAny_Call_Name_kw (ld_glob I hg hm (PySem.W.callWith_K (h₀ := X.base) I.ok.mod.kin hk (thn (ha.run pos pins s σ H _ I h) fun us s1 ⟨vs, H1, I1, r, q⟩ => ⟨I1.kIn, run_g F hr hG hb hd hx I1 r q⟩) he hpl) hdb)⟩
end
end Wq
set_option Elab.async false
set_option linter.all false
set_option maxRecDepth 100000
set_option maxHeartbeats 2000000
/-! repr where nothing is being shown: flat values, {}, lists and tuples of them, two deep -/
namespace Wq
open PySem PySem.Spec PyProof.Rows L2
mutual
/-- what a value shows -/
inductive Sh (K : PySem.W.Frag) (H : Hp) : V → PyData → Prop
  | non : Sh K H .non .none
  | bl (b : Bool) : Sh K H (.bl b) (.bool b)
  | int (i : Int) : Sh K H (.int i) (.int i)
  | str (x : Str) : Sh K H (.str x) (.str x)
  | emp {a : Addr} : H a = some (.dK []) → Sh K H (.ref a) (.dict [])
  | lst {a : Addr} {xs : List V} {ds : List PyData} : SqL K H a xs → a ≠ sysModules → ShAll K H xs ds → Sh K H (.ref a) (.list ds)
  | tup {a : Addr} {xs : List V} {ds : List PyData} : SqT K H a xs → ShAll K H xs ds → Sh K H (.ref a) (.tuple ds)
inductive ShAll (K : PySem.W.Frag) (H : Hp) : List V → List PyData → Prop
  | nil : ShAll K H [] []
  | cons {v : V} {vs : List V} {d : PyData} {ds : List PyData} : Sh K H v d → ShAll K H vs ds → ShAll K H (v :: vs) (d :: ds)
end
section
variable {X : Cx} {pins : List (Addr × Obj)} {σ : L2.St} {H : Hp} {s : Shared}
mutual
theorem Sh.reads (I : Inv X pins σ H s) : ∀ (d : PyData) (v : V) (u : Value), Sh X.K H v d → RelV v u → ∃ as, Reads s.heap u d as ∧ sysModules ∉ as
  | .none, _, _, h, r => by
    cases h; cases r
    exact ⟨_, .none, by simp⟩
  | .bool b, _, _, h, r => by
    cases h; cases r
    exact ⟨_, .bool b, by simp⟩
  | .int i, _, _, h, r => by
    cases h
    obtain ⟨t, rfl⟩ := r
    exact ⟨_, .int i t, by simp⟩
  | .str x, _, _, h, r => by
    cases h
    obtain ⟨t, rfl⟩ := r
    exact ⟨_, .str x t, by simp⟩
  | .list ds, _, _, h, r => by
    cases h with
    | lst hs na ha =>
      cases r
      obtain ⟨its, rv, ⟨o, n, ho, hc, _, hd⟩, _⟩ := I.list hs
      obtain ⟨as, hr, hn⟩ := Sh.readsAll I ds _ its ha rv
      refine ⟨_, .list ho hc hd hr, fun z => ?_⟩
      rcases List.mem_cons.mp z with e | e
      · exact na e.symm
      · exact hn e
  | .tuple ds, _, _, h, r => by
    cases h with
    | tup hs ha =>
      cases r
      obtain ⟨its, rv, ⟨o, ho, hc, n, hd⟩, _⟩ := I.tuple hs
      obtain ⟨as, hr, hn⟩ := Sh.readsAll I ds _ its ha rv
      exact ⟨_, .tuple ho hc hd hr, hn⟩
  | .dict kvs, _, _, h, r => by
    cases h with
    | @emp a he =>
      cases r
      obtain ⟨_, hs, vs, kv, o, es, ep, ho, hx, hd, _, hp, _⟩ := I.hok a _ he
      cases kv
      cases hl : es.toList with
      | cons e l =>
        rw [hl] at hp
        cases hp
      | nil =>
        refine ⟨_, .dict ho hx.1 hd (as := []) (bs := []) (by rw [hl]; exact .nil) (by rw [hl]; exact .nil), fun z => ?_⟩
        have z : sysModules = a := by simpa using z
        rw [← z] at hs
        simp at hs
theorem Sh.readsAll (I : Inv X pins σ H s) : ∀ (ds : List PyData) (vs : List V) (us : List Value), ShAll X.K H vs ds → Vals vs us → ∃ as, ReadsAll s.heap us ds as ∧ sysModules ∉ as
  | [], _, _, h, r => by
    cases h; cases r
    exact ⟨_, .nil, by simp⟩
  | d :: ds, _, _, h, r => by
    cases h with
    | cons h1 h2 =>
      cases r with
      | cons r1 r2 =>
        obtain ⟨as, q1, n1⟩ := Sh.reads I d _ _ h1 r1
        obtain ⟨bs, q2, n2⟩ := Sh.readsAll I ds _ _ h2 r2
        refine ⟨_, .cons q1 q2, fun z => ?_⟩
        rcases List.mem_append.mp z with e | e
        · exact n1 e
        · exact n2 e
end
end
def rRepr (K : PySem.W.Frag) : List V → Hp → VK → Prop := fun xs H Q => ∃ (v : V) (d : PyData), xs = [v] ∧ Sh K H v d ∧ d.showable = true ∧ d.depth ≤ 60 ∧ d.shown.length ≤ sizeLine ∧ Q (.str d.shown) H
theorem call_repr {X : Cx} (hG : X.A.guards = some []) (hu : X.A.units + 64 < cLine) : CallR X (.builtin "repr") (rRepr X.K) := by
  intro pins s σ H xs us Q I r h
  obtain ⟨v, d, rfl, hv, hs, hd, hl, q⟩ := h
  obtain ⟨u, rfl, ru⟩ := vals1 r
  obtain ⟨as, rd, na⟩ := hv.reads I d v u ru
  have big : ∀ a, u = .ref a → wpAny (model X.prog X.w) X.A (call (.builtin "repr") [u]) (EP X pins σ Q) X.xe s := by
    rintro a rfl
    exact PySem.repr_of_reads' rd hs (fun _ => na) hG (by omega) (fun _ _ e => e) (fun h' u tk hk => ⟨.str d.shown, H, I.kept hk, ⟨u, rfl⟩, q⟩) hl
  cases hv with
  | non => cases ru; exact PySem.P.repr_of_none ⟨.str _, H, I.tok _, ⟨_, rfl⟩, q⟩
  | bl b => cases ru; exact PySem.P.repr_of_bool ⟨.str _, H, I.tok _, ⟨_, rfl⟩, q⟩
  | int i => obtain ⟨t, rfl⟩ := ru; exact PySem.P.repr_of_int (of_decide_eq_true hs) ⟨.str _, H, I.tok _, ⟨_, rfl⟩, q⟩
  | str x => obtain ⟨t, rfl⟩ := ru; exact PySem.P.repr_of_str (h := ⟨.str _, H, I.tok _, ⟨_, rfl⟩, q⟩) (hsz := hl)
  | emp e => exact big _ ru
  | lst a b c => exact big _ ru
  | tup a b => exact big _ ru
/-- a new list, apart from the dict of modules -/
def tLstN (t : TA) : TE := fun σ H Q => t σ H fun xs H1 => xs.length ≤ sizeLine ∧ ∀ p, H1 p = none → p ≠ sysModules → Q (.ref p) (upd H1 p (.lst xs))
theorem pe_lstN {X : Cx} {es : List Expr} {t : TA} {pos : Pos} (h : PA X es t) : PE X (.List es pos) (tLstN t) := by
  refine ⟨fun pins s σ H Q I hq => wpAny_List_spliced (thn (h.run pos pins s σ H _ I hq) fun us s1 ⟨xs, H1, I1, r, z, q⟩ => ⟨by rw [← r.length]; exact z, ?_⟩)⟩
  have hf : H1 s1.heap.objs.size = none := I1.hok.fresh (Nat.le_refl _)
  have hb := I1.big
  exact ⟨.ref s1.heap.objs.size, upd H1 s1.heap.objs.size (.lst xs), I1.laid (t' := s1.toks) (fun b u e => Heap.get?_push_of_some _ e) (Nat.le_refl _) ⟨z, us, 0, r, Heap.get?_push_size _ rfl⟩, rfl, q _ hf (Nat.ne_of_gt hb)⟩
end Wq
set_option Elab.async false
set_option linter.all false
set_option maxRecDepth 100000
set_option maxHeartbeats 2000000
/-! sets of the signs of texts, and their difference -/
namespace Wq
open PySem PySem.Spec PyProof.Rows
namespace SD
abbrev sg (c : Nat) : Str := ⟨#[c]⟩
theorem sg_inj {a b : Nat} : sg a = sg b ↔ a = b := by
  refine ⟨fun h => ?_, fun h => by rw [h]⟩
  have := congrArg (fun z : Str => z.cps.toList) h
  simpa using this
def mem (l : List Nat) (k : Str) : Bool := l.any fun c => decide (k = sg c)
theorem mem_sg {l : List Nat} {c : Nat} : mem l (sg c) = decide (c ∈ l) := by
  unfold mem
  rw [Bool.eq_iff_iff]
  simp only [List.any_eq_true, decide_eq_true_eq]
  constructor
  · rintro ⟨d, hd, e⟩
    rw [sg_inj] at e
    rw [e]; exact hd
  · intro h
    exact ⟨c, h, rfl⟩
/-- how many unlike signs -/
def dnum : List Nat → Nat
  | [] => 0
  | c :: r => if c ∈ r then dnum r else dnum r + 1
theorem dnum_le : ∀ l : List Nat, dnum l ≤ l.length
  | [] => Nat.le_refl _
  | c :: r => by
    have := dnum_le r
    unfold dnum
    split <;> simp <;> omega
section
variable {prog : Program} {w : World} {A : Around} {E : Value → Shared → Prop} {s : Shared}
/-- a loop in which nothing happens -/
theorem forIdle {α β : Type} {b : β} {f : α → β → Sem (ForInStep β)} {Q : β → Shared → Prop} : ∀ (l : List α), (∀ e ∈ l, f e b = pure (.yield b)) → Q b s → wpAny (model prog w) A (forIn l b f) Q E s
  | [], _, h => wpAny_pure h
  | e :: l, he, h => by
    rw [List.forIn_cons, he e List.mem_cons_self]
    refine wpAny_bind (wpAny_pure ?_)
    exact forIdle l (fun e h => he e (List.mem_cons_of_mem _ h)) h
theorem forIdleA {α β : Type} {b : β} {f : α → β → Sem (ForInStep β)} {Q : β → Shared → Prop} (l : Array α) (he : ∀ e ∈ l.toList, f e b = pure (.yield b)) (h : Q b s) : wpAny (model prog w) A (forIn l b f) Q E s := by
  rw [← Array.forIn_toList]
  exact forIdle l.toList he h
def IsT (h : Heap) (a : Addr) : Prop := ∃ o es ep t, h.get? a = some o ∧ o.data = .set es ep t ∧ t.fits es.size = true ∧ ∀ e ∈ es.toList, ∃ x u, e.2 = Value.str x u
theorem quiet {Q : Bool → Shared → Prop} (h : Q true s) : ∀ l : List Addr, (∀ a ∈ l, IsT s.heap a) → wpAny (model prog w) A (setsQuiet l) Q E s := by
  intro l hl
  unfold setsQuiet
  have main : ∀ l : List Addr, (∀ a ∈ l, IsT s.heap a) → ∀ {f : Addr → Option Bool × Unit → Sem (ForInStep (Option Bool × Unit))} {Q' : Option Bool × Unit → Shared → Prop},
      (∀ a, IsT s.heap a → ∀ (Q2 : ForInStep (Option Bool × Unit) → Shared → Prop), Q2 (.yield (none, ())) s → wpAny (model prog w) A (f a (none, ())) Q2 E s) → Q' (none, ()) s → wpAny (model prog w) A (forIn l (none, ()) f) Q' E s := by
    intro l
    induction l with
    | nil => intro _ f Q' _ hq; exact wpAny_pure hq
    | cons a l ih =>
      intro hl f Q' hf hq
      rw [List.forIn_cons]
      exact wpAny_bind (hf a (hl a List.mem_cons_self) _ (ih (fun b hb => hl b (List.mem_cons_of_mem _ hb)) hf hq))
  refine wpAny_bind (main l hl (fun a ha Q2 h2 => ?_) (wpAny_pure h))
  obtain ⟨o, es, ep, t, ho, hd, hf, he⟩ := ha
  unfold setEntries
  refine wpAny_bind (wpAny_bind (wpAny_setState_of ho hd hf (wpAny_pure ?_)))
  refine wpAny_bind (forIdleA es (fun e h => ?_) (wpAny_pure h2))
  obtain ⟨x, u, ex⟩ := he e h
  obtain ⟨i, y⟩ := e
  have ex : y = .str x u := ex
  subst ex
  rfl
theorem isT_of {a : Addr} {S : Str → Bool} {n : Nat} {h : Heap} (hS : h.SetOf (PySem.strKind prog w) a S n) : IsT h a := by
  obtain ⟨o, es, ep, t, ho, _, hd, hel, _, _, hf, _⟩ := hS
  refine ⟨o, es, ep, t, ho, hd, hf, fun e he => ?_⟩
  obtain ⟨⟨k, h1, _⟩, _⟩ := hel e he
  obtain ⟨u, e1⟩ := Value.isStrOf_shape (x := k) (v := e.2) h1
  exact ⟨k, u, e1⟩
/-- the walk along a set while another one is filled -/
theorem walkU {a o r : Addr} {S SO : Str → Bool} {n m : Nat} {Q : Array (Int × Value) → Shared → Prop} (hS : s.heap.SetOf (PySem.strKind prog w) a S n) (hO : s.heap.SetOf (PySem.strKind prog w) o SO m) (hR : s.heap.SetOf (PySem.strKind prog w) r (fun _ => false) 0) (na : a ≠ r) (no : o ≠ r)
    (hQ : ∀ (ws : Array (Int × Value)) (h' : Heap), ElemsOf (PySem.strKind prog w) ws.toList → (∀ k, S k = true ↔ ∃ e ∈ ws.toList, (PySem.strKind prog w).is k e.2 = true) → ws.size = n → Heap.SameBut r s.heap h' → h'.SetOf (PySem.strKind prog w) r (fun _ => false) 0 → Q ws { s with heap := h' }) :
    wpAny (model prog w) A (setWalkUnseen a [o, r] (some r)) Q E s := by
  have qT := quiet (prog := prog) (w := w) (A := A) (E := E) (s := s) (Q := fun b s' => b = true ∧ s' = s) ⟨rfl, rfl⟩ [a, o, r] (fun b hb => by
    simp only [List.mem_cons, List.not_mem_nil, or_false] at hb
    rcases hb with e | e | e
    · rw [e]; exact isT_of hS
    · rw [e]; exact isT_of hO
    · rw [e]; exact isT_of hR)
  obtain ⟨oa, es, ep, t, ho, hx, hd, hel, hm, hb, hf, hn⟩ := id hS
  have same : ∀ es' : Array (Int × Value), es'.toList.Perm es.toList → Q es' s := fun es' p => hQ es' s.heap (fun e he => hel e (p.mem_iff.mp he)) (fun k => (hm k).trans ⟨fun ⟨e, h1, h2⟩ => ⟨e, p.mem_iff.mpr h1, h2⟩, fun ⟨e, h1, h2⟩ => ⟨e, p.mem_iff.mp h1, h2⟩⟩) (by
    have := p.length_eq
    rw [Array.length_toList, Array.length_toList] at this
    omega) (.refl _ _) hR
  unfold setWalkUnseen
  refine wpAny_bind (wpAny_setState_of ho hd hf ?_)
  dsimp only
  refine wpAny_bind (L2.wpAny_byText ?_)
  have walk : (w.params.followText "set-order" = true ∨ (t.led = true ∧ t.plain = true) ∨ es.size ≤ 1) → wpAny (model prog w) A (setWalk a) Q E s := by
    intro hc
    unfold setWalk
    refine wpAny_bind (wpAny_setState_of ho hd hf ?_)
    dsimp only
    refine wpAny_bind (L2.wpAny_byText ?_)
    by_cases hbt : w.params.followText "set-order" = true
    · refine L2.wp_if_pos hbt ?_
      exact wpAny_bind (wpAny_askSetting (wpAny_pure (same _ (L2.pick_perm _ es))))
    · refine L2.wp_if_neg hbt ?_
      have hdr : ¬ ((!t.plain && decide (es.size > 1)) = true) := by
        rcases hc with z | ⟨_, z⟩ | z
        · exact absurd z hbt
        · rw [z]; simp
        · simp; omega
      refine L2.wp_if_neg hdr ?_
      refine wpAny_bind (wpAny_of_eq (a := ()) ?_ (wpAny_pure (same es (.refl _))))
      show (if (!t.led && decide (es.size > 1)) = true then unsupported "set:maker-not-led" else pure ()) = pure ()
      have : ¬ ((!t.led && decide (es.size > 1)) = true) := by
        rcases hc with z | ⟨z, _⟩ | z
        · exact absurd z hbt
        · rw [z]; simp
        · simp; omega
      rw [if_neg this]
  by_cases hc : (w.params.followText "set-order" || t.led && t.plain || decide (es.size ≤ 1)) = true
  · refine L2.wp_if_pos hc (walk ?_)
    rcases (Bool.or_eq_true _ _).mp hc with z | z
    · rcases (Bool.or_eq_true _ _).mp z with z | z
      · exact .inl z
      · exact .inr (.inl ((Bool.and_eq_true _ _).mp z))
    · exact .inr (.inr (of_decide_eq_true z))
  · refine L2.wp_if_neg hc ?_
    refine wpAny_bind (wpAny_mono qT (fun b s' z => ?_) fun _ _ z => z)
    obtain ⟨rfl, rfl⟩ := z
    refine L2.wp_if_neg (by decide) ?_
    refine wpAny_bind (wpAny_rule ?_)
    obtain ⟨orr, er, epr, tr, hor, hxr, hdr, helr, hmr, hbr, hfr, hnr⟩ := id hR
    refine wpAny_bind (wpAny_setState_of hor hdr hfr ?_)
    dsimp only
    by_cases hf2 : (tr.led && !t.led || tr.plain && !t.plain) = true
    · refine L2.wp_if_pos hf2 ?_
      refine wpAny_bind (wpAny_storeSet_of hor hdr ?_ (fits_of_scanBound hbr))
      refine wpAny_pure (hQ es _ hel hm hn (Heap.SameBut.update s'.heap r _) ?_)
      exact ⟨_, er, _, _, L2.store_at hor hdr, hxr, rfl, helr, hmr, hbr, hfr, hnr⟩
    · refine L2.wp_if_neg hf2 ?_
      exact wpAny_pure (same es (.refl _))
/-- the loop of a difference -/
theorem loopD {a o r : Addr} {S SO : Str → Bool} {n m was : Nat} {id : String} (na : a ≠ r) (no : o ≠ r) : ∀ (l : List (Int × Value)) (R : Str → Bool) (j : Nat) (s : Shared) (Q : PUnit → Shared → Prop) (f : Int × Value → PUnit → Sem (ForInStep PUnit)),
    (f = fun e _ => do
      holding [e.2] (do
        let q ← setFind o e.2 e.1
        let there ← pure q.isSome
        if (!there) = true then do
          let _ ← setAddHashed r e.2 e.1
          pure ()
        else pure ())
      Builtin.Frozenset.unchanged id a was
      pure (.yield PUnit.unit)) →
    ElemsOf (PySem.strKind prog w) l → (∃ oa es t, s.heap.get? a = some oa ∧ oa.data = .set es was t ∧ t.fits es.size = true) → s.heap.SetOf (PySem.strKind prog w) o SO m → s.heap.SetOf (PySem.strKind prog w) r R j → j + l.length < scanBound →
    (∀ h' R' j', Heap.SameBut r s.heap h' → h'.SetOf (PySem.strKind prog w) r R' j' → (j' = 0 ↔ j = 0 ∧ ∀ e ∈ l, ∀ k, (PySem.strKind prog w).is k e.2 = true → SO k = true) → Q ⟨⟩ { s with heap := h' }) →
    wpAny (model prog w) A (forIn l PUnit.unit f) Q E s := by
  intro l
  induction l with
  | nil =>
    intro R j s Q f _ _ _ _ hR _ hQ
    exact wpAny_pure (hQ s.heap R j (.refl _ _) hR ⟨fun z => ⟨z, fun _ h => nomatch h⟩, fun z => z.1⟩)
  | cons e l ih =>
    intro R j s Q f ef hel ha hO hR hb hQ
    rw [List.forIn_cons]
    refine wpAny_bind ?_
    obtain ⟨⟨k, hk, hh⟩, hsc⟩ := hel.head
    obtain ⟨i, x⟩ := e
    simp only at hk hh hsc
    subst hh
    have step : ∀ (h' : Heap) (R' : Str → Bool) (j' : Nat), Heap.SameBut r s.heap h' → h'.SetOf (PySem.strKind prog w) r R' j' → (j' = 0 ↔ j = 0 ∧ SO k = true) → j' ≤ j + 1 → ∀ Q2 : ForInStep PUnit → Shared → Prop, (∀ s1, wpAny (model prog w) A (forIn l PUnit.unit f) Q E s1 → Q2 (.yield PUnit.unit) s1) →
        wpAny (model prog w) A (do
          Builtin.Frozenset.unchanged id a was
          pure (ForInStep.yield PUnit.unit)) Q2 E { s with heap := h' } := by
      intro h' R' j' sb hR' hj hjle Q2 hQ2
      obtain ⟨oa, es, t, ho, hd, hf⟩ := ha
      have ho' : h'.get? a = some oa := by rw [sb.2 a na]; exact ho
      refine wpAny_bind ?_
      unfold Builtin.Frozenset.unchanged setEpoch
      refine wpAny_bind (wpAny_bind (wpAny_setState_of (s := { s with heap := h' }) ho' hd hf (wpAny_pure ?_)))
      refine L2.wp_if_neg (by simp) ?_
      refine wpAny_pure (wpAny_pure (hQ2 _ ?_))
      have hO' : h'.SetOf (PySem.strKind prog w) o SO m := by
        obtain ⟨oo, r1⟩ := hO
        obtain ⟨es1, ep1, t1, g1, r2⟩ := r1
        exact ⟨oo, es1, ep1, t1, by rw [sb.2 o no]; exact g1, r2⟩
      refine ih R' j' { s with heap := h' } Q f ef hel.tail ⟨oa, es, t, ho', hd, hf⟩ hO' hR' (by simp only [List.length_cons] at hb; omega) fun h2 R2 j2 sb2 hR2 hj2 => ?_
      refine hQ h2 R2 j2 (sb.trans sb2) hR2 (hj2.trans ⟨fun ⟨z1, z2⟩ => ?_, fun ⟨z1, z2⟩ => ?_⟩)
      · have z1 := hj.mp z1
        refine ⟨z1.1, fun e he k' hk' => ?_⟩
        rcases List.mem_cons.mp he with q | q
        · subst q
          obtain ⟨u1, e1⟩ := Value.isStrOf_shape (x := k) (v := x) hk
          obtain ⟨u2, e2⟩ := Value.isStrOf_shape (x := k') (v := x) hk'
          rw [e1] at e2
          cases e2
          exact z1.2
        · exact z2 e q k' hk'
      · exact ⟨hj.mpr ⟨z1, z2 _ List.mem_cons_self k hk⟩, fun e he => z2 e (List.mem_cons_of_mem _ he)⟩
    have fe : f ((PySem.strKind prog w).hash k, x) PUnit.unit = (do
      holding [x] (do
        let q ← setFind o x ((PySem.strKind prog w).hash k)
        let there ← pure q.isSome
        if (!there) = true then do
          let _ ← setAddHashed r x ((PySem.strKind prog w).hash k)
          pure ()
        else pure ())
      Builtin.Frozenset.unchanged id a was
      pure (.yield PUnit.unit)) := by rw [ef]
    rw [fe]
    refine wpAny_bind (wpAny_holding ?_)
    refine wpAny_bind (wpAny_setFind_of hk hsc hO fun q hq => ?_)
    refine wpAny_bind (wpAny_pure ?_)
    rw [hq]
    cases hS : SO k with
    | true =>
      refine L2.wp_if_neg (by decide) (wpAny_pure ?_)
      exact step s.heap R j (.refl _ _) hR ⟨fun z => ⟨z, hS⟩, fun z => z.1⟩ (by omega) _ fun _ z => z
    | false =>
      refine L2.wp_if_pos (by decide) ?_
      refine wpAny_bind (wpAny_setAddHashed_of hk hsc hR (by simp only [List.length_cons] at hb; omega) fun h' sb hR' => wpAny_pure ?_)
      refine step h' _ _ sb hR' ?_ (by split <;> omega) _ fun _ z => z
      rw [hS]
      refine ⟨fun z => ?_, fun z => absurd z.2 (by decide)⟩
      exfalso
      split at z
      · rename_i hRk
        obtain ⟨o1, es1, ep1, t1, g1, _, _, _, hm1, _, _, hn1⟩ := hR
        obtain ⟨e1, he1, _⟩ := (hm1 k).mp hRk
        have : es1.toList ≠ [] := List.ne_nil_of_mem he1
        have hz : es1.size = 0 := by omega
        exact this (by simpa using hz)
      · omega
end
end SD
end Wq
set_option Elab.async false
set_option linter.all false
set_option maxRecDepth 100000
set_option maxHeartbeats 2000000
namespace Wq
open PySem PySem.Spec PyProof.Rows
namespace SD
section
variable {prog : Program} {w : World} {A : Around} {E : Value → Shared → Prop} {s : Shared}
theorem set_type {h : Heap} {a : Addr} {S : Str → Bool} {n : Nat} (hS : h.SetOf (PySem.strKind prog w) a S n) {g : Array GenState} {d : Drawn} {t : Nat} {os : OsState} : (⟨h, g, d, t, os⟩ : Shared).TypeIs (.ref a) "set" := by
  obtain ⟨o, es, ep, t, ho, hx, _⟩ := hS
  exact ⟨o, ho, hx.1⟩
theorem size_of {h : Heap} {a : Addr} {S : Str → Bool} {n : Nat} (hS : h.SetOf (PySem.strKind prog w) a S n) {g : Array GenState} {d : Drawn} {t : Nat} {os : OsState} {Q : Nat → Shared → Prop} (q : Q n ⟨h, g, d, t, os⟩) : wpAny (model prog w) A (Builtin.Frozenset.sizeOf a) Q E ⟨h, g, d, t, os⟩ := by
  obtain ⟨o, es, ep, t, ho, hx, hd, _, _, _, hf, hn⟩ := hS
  unfold Builtin.Frozenset.sizeOf setEntries
  refine wpAny_bind (wpAny_bind (wpAny_setState_of ho hd hf (wpAny_pure (wpAny_pure ?_))))
  dsimp only
  rw [hn]
  exact q
theorem any_set {h : Heap} {a : Addr} {S : Str → Bool} {n : Nat} (hS : h.SetOf (PySem.strKind prog w) a S n) {g : Array GenState} {d : Drawn} {t : Nat} {os : OsState} {Q : Bool → Shared → Prop} (q : Q true ⟨h, g, d, t, os⟩) : wpAny (model prog w) A (Builtin.Frozenset.isAnySet (.ref a)) Q E ⟨h, g, d, t, os⟩ := by
  unfold Builtin.Frozenset.isAnySet orM
  refine wpAny_bind (wpAny_isInstance (set_type hS) sub_set_self ?_)
  exact wpAny_pure q
theorem diff {a o : Addr} {S SO : Str → Bool} {n m : Nat} {nm : String} {Q : Value → Shared → Prop} (hS : s.heap.SetOf (PySem.strKind prog w) a S n) (hO : s.heap.SetOf (PySem.strKind prog w) o SO m) (hnm : ¬ n / 4 > m) (hn : n < scanBound)
    (hQ : ∀ h' R j, h'.SetOf (PySem.strKind prog w) s.heap.objs.size R j → (j = 0 ↔ ∀ k, S k = true → SO k = true) → (∀ b u, s.heap.get? b = some u → h'.get? b = some u) → Q (.ref s.heap.objs.size) { s with heap := h' }) :
    wpAny (model prog w) A (Builtin.Frozenset.difference nm a (.ref o)) Q E s := by
  obtain ⟨hp, g, d, tk, os⟩ := s
  unfold Builtin.Frozenset.difference
  refine wpAny_bind (any_set hO ?_)
  refine L2.wp_if_neg (by decide) ?_
  unfold Builtin.Frozenset.addrOf
  refine wpAny_bind (wpAny_pure ?_)
  refine L2.wp_if_neg (by simp) ?_
  refine L2.wp_if_pos rfl ?_
  refine wpAny_bind (size_of hO ?_)
  refine wpAny_bind (size_of hS ?_)
  refine L2.wp_if_neg hnm ?_
  unfold Builtin.Frozenset.baseOf
  refine wpAny_bind (wpAny_bind (wpAny_isInstance (set_type hS) sub_set_self (wpAny_pure ?_)))
  refine wpAny_bind (PpSet.newSet_ok ?_)
  refine wpAny_bind (wpAny_pure ?_)
  have hp1 : ∀ {b : Addr} {u x : Obj}, hp.get? b = some u → (hp.push x).get? b = some u := fun e => Heap.get?_push_of_some _ e
  have lift : ∀ {b : Addr} {T : Str → Bool} {j : Nat} {x : Obj}, hp.SetOf (PySem.strKind prog w) b T j → (hp.push x).SetOf (PySem.strKind prog w) b T j := by
    rintro b T j x ⟨o1, es, ep, t, ho, r⟩
    exact ⟨o1, es, ep, t, hp1 ho, r⟩
  obtain ⟨oa, es, ep, t, ho, hx, hd, hel, hm, hb, hf, hnn⟩ := id hS
  unfold setEpoch
  refine wpAny_bind (wpAny_bind (wpAny_setState_of (hp1 ho) hd hf (wpAny_pure ?_)))
  have hnew : (hp.push { cls := .type "set", dict := none, data := .set #[] 0 (.fresh 0 0 (!w.params.followText "set-order")) }).SetOf (PySem.strKind prog w) hp.objs.size (fun _ => false) 0 :=
    (PyProof.Rows.setObjOf_fresh (knd := PySem.strKind prog w) _).setOf (Heap.get?_push_size _ rfl) (by decide)
  have na : a ≠ hp.objs.size := Nat.ne_of_lt (Heap.lt_size ho)
  have no : o ≠ hp.objs.size := by
    obtain ⟨o1, _, _, _, h1, _⟩ := hO
    exact Nat.ne_of_lt (Heap.lt_size h1)
  refine wpAny_bind (wpAny_holding (wpAny_bind ?_))
  refine L2.wp_if_pos rfl ?_
  refine walkU (s := { heap := hp.push { cls := .type "set", dict := none, data := .set #[] 0 (.fresh 0 0 (!w.params.followText "set-order")) }, gens := g, drawn := d, toks := tk, os := os }) (lift hS) (lift hO) hnew na no fun ws h' hel' hm' hsz sb hR => ?_
  have up : ∀ {b : Addr} {u : Obj}, hp.get? b = some u → h'.get? b = some u := fun {b u} e => by
    rw [sb.2 b (Nat.ne_of_lt (Heap.lt_size e))]
    exact hp1 e
  have hO' : h'.SetOf (PySem.strKind prog w) o SO m := by
    obtain ⟨o1, es1, ep1, t1, h1, r⟩ := hO
    exact ⟨o1, es1, ep1, t1, up h1, r⟩
  refine wpAny_bind ?_
  rw [← Array.forIn_toList]
  refine loopD (S := S) (n := n) (id := nm) (was := ep) na no ws.toList (fun _ => false) 0 { heap := h', gens := g, drawn := d, toks := tk, os := os } _ _ rfl hel' ⟨oa, es, t, up ho, hd, hf⟩ hO' hR (by rw [Array.length_toList]; omega) fun h2 R' j' sb2 hR2 hj => ?_
  refine wpAny_pure (wpAny_pure (hQ h2 R' j' hR2 (hj.trans ⟨fun z k hk => ?_, fun z => ⟨rfl, fun e he k hk => ?_⟩⟩) fun b u e => ?_))
  · obtain ⟨e, he, hk'⟩ := (hm' k).mp hk
    exact z.2 e he k hk'
  · exact z k ((hm' k).mpr ⟨e, he, hk⟩)
  · rw [sb2.2 b (Nat.ne_of_lt (Heap.lt_size e))]
    exact up e
theorem entry_sub : entryFor table "set.__sub__" = some Builtin.«frozenset.__sub__» := entryFor_alias (id' := "frozenset.__sub__") (by kernel_rfl) rfl (by decide +kernel) (by kernel_rfl)
theorem sub_tree (a b : Value) : Builtin.«frozenset.__sub__» ⟨[a, b], []⟩ = (do
    let (self, other) ← Builtin.Frozenset.slot1 "__sub__" ⟨[a, b], []⟩
    if !(← Builtin.Frozenset.isAnySet self <&&> Builtin.Frozenset.isAnySet other) then rule s!"frozenset.{"__sub__"}.declined"; return ← ret .notImplemented
    ret (← Builtin.Frozenset.difference s!"frozenset.{"__sub__"}" (← Builtin.Frozenset.addrOf self) other)) := rfl
end
end SD
end Wq
set_option Elab.async false
set_option linter.all false
set_option maxRecDepth 100000
set_option maxHeartbeats 2000000
namespace Wq
open PySem PySem.Spec PyProof.Rows
namespace SD
section
variable {prog : Program} {w : World} {A : Around} {E : Value → Shared → Prop} {s : Shared}
theorem call_sub {a o : Addr} {S SO : Str → Bool} {n m : Nat} {Q : Value → Shared → Prop} (hS : s.heap.SetOf (PySem.strKind prog w) a S n) (hO : s.heap.SetOf (PySem.strKind prog w) o SO m) (hnm : ¬ n / 4 > m) (hn : n < scanBound)
    (hQ : ∀ h' R j, h'.SetOf (PySem.strKind prog w) s.heap.objs.size R j → (j = 0 ↔ ∀ k, S k = true → SO k = true) → (∀ b u, s.heap.get? b = some u → h'.get? b = some u) → Q (.ref s.heap.objs.size) { s with heap := h' }) :
    wpAny (model prog w) A (call (.builtin "set.__sub__") [.ref a, .ref o]) Q E s := by
  obtain ⟨hp, g, d, tk, os⟩ := s
  refine wpAny_call (codeAny_call_builtin PySem.F.slot_set_sub.plain entry_sub (PySem.F.slot_set_sub.check _ _ _ _ _ _ _ _ (set_type hS) (PySem.F.args_set_sub_2 _ _) ?_))
  rw [sub_tree]
  have h1 : Builtin.Frozenset.slot1 "__sub__" ⟨[.ref a, .ref o], []⟩ = pure (.ref a, .ref o) := rfl
  refine wpAny_bind (wpAny_of_eq h1 ?_)
  dsimp only
  unfold andM
  refine wpAny_bind (wpAny_bind (any_set hS ?_))
  show wpAny _ _ (Builtin.Frozenset.isAnySet (.ref o)) _ _ _
  refine any_set hO ?_
  refine L2.wp_if_neg (by decide) ?_
  unfold Builtin.Frozenset.addrOf
  refine wpAny_bind (wpAny_pure (wpAny_bind (diff hS hO hnm hn fun h' R j h1 h2 h3 => ?_)))
  exact wpAny_pure (hQ h' R j h1 h2 h3)
/-- a - b of sets of texts -/
theorem bin_sub {a o : Addr} {S SO : Str → Bool} {n m : Nat} {Q : Value → Shared → Prop} (hS : s.heap.SetOf (PySem.strKind prog w) a S n) (hO : s.heap.SetOf (PySem.strKind prog w) o SO m) (hnm : ¬ n / 4 > m) (hn : n < scanBound)
    (hQ : ∀ h' R j, h'.SetOf (PySem.strKind prog w) s.heap.objs.size R j → (j = 0 ↔ ∀ k, S k = true → SO k = true) → (∀ b u, s.heap.get? b = some u → h'.get? b = some u) → Q (.ref s.heap.objs.size) { s with heap := h' }) :
    wpAny (model prog w) A (binaryOp .Sub (.ref a) (.ref o)) Q E s := by
  obtain ⟨hp, g, d, tk, os⟩ := s
  exact wpAny_binaryOp_same (set_type hS) (set_type hO) PySem.F.fills_set_sub PySem.F.slot_set_sub (call_sub hS hO hnm hn fun h' R j h1 h2 h3 => ⟨fun z => (nomatch z), hQ h' R j h1 h2 h3⟩)
/-- the signs of a text are put into a set -/
theorem loopT {R : Result → Shared → Prop} {I : Addr} {fp wr : List Addr} {n : Nat} {x : Str} {St : Nat → Heap → Prop} (W : Walks prog w A.in1 I fp wr n (SignAt x) St) (hn : n = x.cps.size) (S : Addr) (hSf : S ∉ fp) (hb : n + 1 < scanBound) : ∀ (k i : Nat) (s : Shared), n - i = k → i ≤ n → St i s.heap →
      s.heap.SetOf (PySem.strKind prog w) S (mem (x.cps.toList.take i).reverse) (dnum (x.cps.toList.take i).reverse) →
      (∀ h' tk, (∀ b o, b ∉ S :: wr → s.heap.get? b = some o → h'.get? b = some o) → h'.SetOf (PySem.strKind prog w) S (mem x.cps.toList.reverse) (dnum x.cps.toList.reverse) → R (.ok (.ret .none)) { s with heap := h', toks := tk }) →
      codeAny (model prog w) A (.builtin "set.update.loop" ⟨[.ref S, .ref I], []⟩) R s := by
  have hSw : S ∉ wr := fun h => hSf (W.sub _ h)
  intro k
  induction k with
  | zero =>
    intro i s hk hi hst hS hR
    have hin : i = n := by omega
    subst hin
    refine codeAny_builtin PyProof.Rows.F.entry_set_update_loop ?_
    rw [Around.under_plainId PyProof.Rows.F.plain_set_update_loop _]
    show wpAny _ A.in1 (pyNext (.ref I) >>= _) _ _ s
    refine wpAny_bind (W.done s _ _ hst fun h' tk hm => ?_)
    show wpAny _ A.in1 (ret Value.none) _ _ _
    refine wpAny_pure (hR h' tk (fun b o hb e => hm b o (fun z => hb (List.mem_cons_of_mem _ z)) e) ?_)
    rw [List.take_of_length_le (by rw [hn]; simp)] at hS
    obtain ⟨o, es, ep, t, ho, rest⟩ := hS
    exact ⟨o, es, ep, t, hm S _ hSw ho, rest⟩
  | succ k ih =>
    intro i s hk hi hst hS hR
    have hlt : i < n := by omega
    refine codeAny_builtin PyProof.Rows.F.entry_set_update_loop ?_
    rw [Around.under_plainId PyProof.Rows.F.plain_set_update_loop _]
    show wpAny _ A.in1 (pyNext (.ref I) >>= _) _ _ s
    refine wpAny_bind (W.item i s _ _ hlt hst fun v h1 tk hP hst' hm => ?_)
    obtain ⟨c, t, hc, rfl⟩ := hP
    have hS' : h1.SetOf (PySem.strKind prog w) S (mem (x.cps.toList.take i).reverse) (dnum (x.cps.toList.take i).reverse) := by
      obtain ⟨o, es, ep, tb, ho, rest⟩ := hS
      exact ⟨o, es, ep, tb, hm S _ hSw ho, rest⟩
    have hcl : x.cps.toList[i]? = some c := by rw [Array.getElem?_toList]; exact hc
    have hrev : (x.cps.toList.take (i + 1)).reverse = c :: (x.cps.toList.take i).reverse := by
      rw [List.take_add_one, hcl]
      simp
    show wpAny _ A.in1 (holding [Value.str ⟨#[c]⟩ t] (setAdd S (.str ⟨#[c]⟩ t)) >>= _) _ _ _
    refine wpAny_bind (wpAny_holding ?_)
    unfold setAdd
    refine wpAny_holding ?_
    refine wpAny_bind ((PySem.strKind prog w).pyHash (k := sg c) (strKind_is _ _ _ _) ?_)
    have hdl := dnum_le (x.cps.toList.take i).reverse
    rw [List.length_reverse, List.length_take] at hdl
    refine wpAny_setAddHashed_of (knd := PySem.strKind prog w) (s := { s with heap := h1, toks := tk + 1 }) (k := sg c) (strKind_is _ _ _ _) rfl hS' (by omega) fun h' hsb hS2 => ?_
    have hSi : h'.SetOf (PySem.strKind prog w) S (mem (x.cps.toList.take (i + 1)).reverse) (dnum (x.cps.toList.take (i + 1)).reverse) := by
      refine SetOf_congr hS2 (fun k' => ?_) ?_
      · rw [hrev]
        unfold mem
        rw [List.any_cons, Bool.or_comm]
      · rw [hrev, mem_sg]
        show _ = (if c ∈ (x.cps.toList.take i).reverse then _ else _)
        by_cases hcm : c ∈ (x.cps.toList.take i).reverse
        · rw [if_pos hcm, if_pos (decide_eq_true hcm)]
        · rw [if_neg hcm, if_neg (by simpa using hcm)]
    refine wpAny_pure ⟨plainId_quiet PyProof.Rows.F.plain_set_update_loop _, ih (i + 1) _ (by omega) hlt (W.frame _ h1 _ hst' fun b hb o e => ?_) hSi fun h'' tk'' hm'' hS'' => ?_⟩
    · rw [hsb.2 b (fun h : b = S => hSf (by rw [← h]; exact hb))]; exact e
    · refine hR h'' tk'' (fun b o hb e => ?_) hS''
      refine hm'' b o hb ?_
      show h'.get? b = some o
      rw [hsb.2 b (fun h : b = S => hb (by rw [h]; exact List.mem_cons_self))]
      exact hm b o (fun z => hb (List.mem_cons_of_mem _ z)) e
end
end SD
end Wq
set_option Elab.async false
set_option linter.all false
set_option maxRecDepth 100000
set_option maxHeartbeats 4000000
namespace Wq
open PySem PySem.Spec PyProof.Rows
namespace SD
section
variable {prog : Program} {w : World} {A : Around} {E : Value → Shared → Prop} {s : Shared}
def mtS (led : Bool) : Obj := { cls := .type "set", dict := none, data := .set #[] 0 (.fresh 0 0 led) }
/-- set(text) -/
theorem call_setT {x : Str} {u : Tok} {Q : Value → Shared → Prop} (hh : A.handled = none) (hb : x.cps.size + 1 < scanBound)
    (h : ∀ (h' : Heap) (tk : Nat), h'.SetOf (PySem.strKind prog w) s.heap.objs.size (mem x.cps.toList.reverse) (dnum x.cps.toList.reverse) → (∀ b o, s.heap.get? b = some o → h'.get? b = some o) → Q (.ref s.heap.objs.size) { s with heap := h', toks := tk }) :
    wpAny (model prog w) A (call (.type "set") [.str x u]) Q E s := by
  obtain ⟨hp, g, d, tk0, os⟩ := s
  obtain ⟨cc, tl, hmro⟩ := PySem.F.called_set.mro
  have made := PySem.F.called_set.made
  have subs := PySem.F.called_set.sub
  have g1 := PySem.F.called_set.notType
  have g2 := PySem.F.called_set.canCreate
  have g3 := PySem.F.typeCall_set_1 (.str x u)
  have q0 : (Code.builtin "type.__call__" ⟨[.type "set", .str x u], []⟩).quiet = true := Code.quiet_builtin _ (by decide +kernel)
  refine wpAny_call (codeAny_of_tree (show wpAny _ _ (callAny (.type "set") ⟨[.str x u], []⟩) _ _ _ from wpAny_pure ⟨q0, codeAny_builtin PySem.F.entry_type_call ?_⟩))
  rw [Around.under_plain (weight_type_call_type "set" [.str x u] []) rfl]
  repeat (any_goals (first | assumption | wp_step))
  refine codeAny_mono (code_set_new_1 (.str x u) (E := E) (Q₁ := fun v s1 => ∃ led : Bool, v = .ref hp.objs.size ∧ s1 = ⟨hp.push (mtS led), g, d, tk0, os⟩) fun led => ⟨led, rfl, rfl⟩) fun r s1 hr => ?_
  match r, hr with
  | .error e, hr => exact hr
  | .ok (.ret obj), hr =>
    obtain ⟨led, rfl, rfl⟩ := hr
    have e0 : (hp.push (mtS led)).get? hp.objs.size = some (mtS led) := Heap.get?_push_size _ rfl
    have tS : (⟨hp.push (mtS led), g, d, tk0, os⟩ : Shared).TypeIs (.ref hp.objs.size) "set" := ⟨_, e0, rfl⟩
    have i1 := PySem.F.called_set.init.lookup
    have i2 := PySem.F.called_set.init.bind (.ref hp.objs.size)
    repeat (any_goals (first | assumption | wp_step))
    refine codeAny_mono (codeAny_call_builtin (R := wants (fun v s2 => v = .none ∧ ∃ h' tk, s2 = ⟨h', g, d, tk, os⟩ ∧ h'.SetOf (PySem.strKind prog w) hp.objs.size (mem x.cps.toList.reverse) (dnum x.cps.toList.reverse) ∧ ∀ b o, hp.get? b = some o → h'.get? b = some o) E)
      PySem.F.called_set.init.plain PySem.F.entry_set_init (check_set_init_1 tS ?_)) fun r2 s2 hr2 => ?_
    · have k1 := PySem.F.sub_str_set
      have k2 := PySem.F.sub_str_frozenset
      have k3 : (Value.type "str" == Value.type "dict") = false := by decide
      unfold Builtin.«set.__init__» noKeywords Builtin.Frozenset.updateFrom
      generalize hPI : pyIter = PI
      wp_walk
      subst hPI
      refine wpAny_pyIter_str fun o St hW hst => ?_
      refine wpAny_bind (wpAny_runValue ?_)
      have n1 : hp.objs.size ∉ [(hp.push (mtS led)).objs.size] := by
        rw [Heap.size_push, List.mem_singleton]
        exact Nat.ne_of_lt (Nat.lt_succ_self _)
      refine loopT (hW _ (by simp [hh])) rfl hp.objs.size n1 hb x.cps.size 0 _ (Nat.sub_zero _) (Nat.zero_le _) hst ?_ fun h' tk hk hS => ?_
      · exact SetOf_congr ((PyProof.Rows.setObjOf_fresh (knd := PySem.strKind prog w) led).setOf (Heap.get?_push_of_some _ e0) (by decide)) (fun _ => rfl) rfl
      · refine wpAny_pure (wpAny_pure ⟨rfl, h', tk, rfl, hS, fun b o' e => ?_⟩)
        have lt := Heap.lt_size e
        refine hk b o' (fun z => ?_) (Heap.get?_push_of_some _ (Heap.get?_push_of_some _ e))
        rcases List.mem_cons.mp z with q | q
        · exact absurd q (Nat.ne_of_lt lt)
        · rw [List.mem_singleton] at q
          have q : b = (hp.push (mtS led)).objs.size := q
          rw [Heap.size_push] at q
          exact absurd q (Nat.ne_of_lt (Nat.lt_succ_of_lt lt))
    · match r2, hr2 with
      | .error e, hr2 => exact hr2
      | .ok (.ret v), hr2 =>
        obtain ⟨rfl, h', tk, rfl, q1, q2⟩ := hr2
        repeat (any_goals (first | assumption | wp_step))
        exact h _ _ q1 q2
end
end SD
end Wq
set_option Elab.async false
set_option linter.all false
set_option maxRecDepth 100000
set_option maxHeartbeats 4000000
namespace Wq
open PySem PySem.Spec PyProof.Rows L2
open SD (mem dnum sg)
/-- a set of texts at a: S its members, n their number -/
def SetT (P : Program) (w : World) (a : Addr) (S : Str → Bool) (n : Nat) : HO := .ext fun h => h.SetOf (PySem.strKind P w) a S n
theorem setT_ok {P : Program} {w : World} {H : Hp} {h : Heap} {a : Addr} {S : Str → Bool} {n : Nat} (e : h.SetOf (PySem.strKind P w) a S n) : ObjOk P w H h a (SetT P w a S n) := by
  obtain ⟨o, es, ep, t, ho, r⟩ := e
  exact ⟨⟨o, es, ep, t, ho, r⟩, ⟨o, ho⟩, fun h1 h2 ⟨o1, es1, ep1, t1, h3, r1⟩ k => ⟨o1, es1, ep1, t1, k _ h3, r1⟩⟩
theorem setT_at {P : Program} {w : World} {H : Hp} {h : Heap} {a : Addr} {S : Str → Bool} {n : Nat} (hok : HOk P w H h) (e : H a = some (SetT P w a S n)) : h.SetOf (PySem.strKind P w) a S n := by
  have x : ObjOk P w H h a (.ext fun h => h.SetOf (PySem.strKind P w) a S n) := hok a _ e
  exact x.1
section
variable {X : Cx}
def rSetT (P : Program) (w : World) : List V → Hp → VK → Prop := fun xs H Q => ∃ x : Str, xs = [.str x] ∧ x.cps.size ≤ 4000 ∧ ∀ a, H a = none → Q (.ref a) (upd H a (SetT P w a (mem x.cps.toList.reverse) (dnum x.cps.toList.reverse)))
theorem cr_setT (hc : X.calm = true) : CallR X (.type "set") (rSetT X.prog X.w) := by
  intro pins s σ H xs us Q I r h
  obtain ⟨x, rfl, hl, q⟩ := h
  obtain ⟨u, rfl, t, rfl⟩ := vals1 r
  refine SD.call_setT (I.ok.hd hc) (by show x.cps.size + 1 < 4096; omega) fun h' tk hS hk => ?_
  have hn : H s.heap.objs.size = none := I.hok.fresh (Nat.le_refl _)
  exact ⟨.ref _, _, I.laid (t' := tk) hk (Nat.le_refl _) (setT_ok hS), rfl, q _ hn⟩
def rSubT (P : Program) (w : World) : R2 := fun x y H Q => ∃ (a b : Addr) (S T : Str → Bool) (n m : Nat), x = .ref a ∧ y = .ref b ∧ H a = some (SetT P w a S n) ∧ H b = some (SetT P w b T m) ∧ ¬ n / 4 > m ∧ n < 4096 ∧
  ∀ p R j, H p = none → (j = 0 ↔ ∀ k, S k = true → T k = true) → j < 4096 → Q (.ref p) (upd H p (SetT P w p R j))
theorem op_subT : OpR X (binaryOp .Sub) (rSubT X.prog X.w) := by
  intro pins s σ H x y v u Q I rx ry h
  obtain ⟨a, b, S, T, n, m, rfl, rfl, ha, hb, hnm, hn, q⟩ := h
  cases rx; cases ry
  refine SD.bin_sub (setT_at I.hok ha) (setT_at I.hok hb) hnm hn fun h' R j hS hj hk => ?_
  have hnn : H s.heap.objs.size = none := I.hok.fresh (Nat.le_refl _)
  have hl : j < 4096 := by
    obtain ⟨_, es, _, _, _, _, _, _, _, z, _, e⟩ := hS
    have z : es.size < 4096 := z
    omega
  exact ⟨.ref _, _, I.laid (t' := s.toks) hk (Nat.le_refl _) (setT_ok hS), rfl, q _ R j hnn hj hl⟩
def rLenT (P : Program) (w : World) : List V → Hp → VK → Prop := fun xs H Q => ∃ (a : Addr) (S : Str → Bool) (n : Nat), xs = [.ref a] ∧ H a = some (SetT P w a S n) ∧ Q (.int n) H
theorem call_lenT : CallR X (.builtin "len") (rLenT X.prog X.w) := by
  intro pins s σ H xs us Q I r h
  obtain ⟨a, S, n, rfl, ha, q⟩ := h
  obtain ⟨u, rfl, ru⟩ := vals1 r
  cases ru
  obtain ⟨o, es, ep, t, ho, hex, hd, _, _, hb, hf, hn⟩ := setT_at I.hok ha
  have hb : es.size < 4096 := hb
  refine call_len_set ho hex hd hf (by omega) ⟨.int n, H, I.tok _, ⟨_, by rw [hn]⟩, q⟩
end
end Wq
set_option Elab.async false
set_option linter.all false
set_option maxRecDepth 100000
set_option maxHeartbeats 2000000
/-! exceptions held as values: made, their fields read, isinstance -/
namespace Wq
open PySem PySem.Spec PyProof.Rows L2
/-- x is an exception of the class at C with the fields fs (none: it has no dict) -/
inductive IsX (H : Hp) (C : Addr) : V → List (Str × V) → Prop
  | dict {a d : Addr} {fs : List (Str × V)} : H a = some (exo a C (some d)) → H d = some (exd d fs) → IsX H C (.ref a) fs
  | bare {a : Addr} : H a = some (ExO (.ref C) a) → IsX H C (.ref a) []
section
variable {X : Cx} {pins : List (Addr × Obj)} {σ : L2.St} {H : Hp} {s : Shared}
theorem isX_at {C : Addr} {x : V} {fs : List (Str × V)} {u : Value} (I : Inv X pins σ H s) (h : IsX H C x fs) (r : RelV x u) : ∃ a oe od, u = .ref a ∧ PySem.W.InstAt s.heap a oe C od := by
  cases h with
  | dict ha hd =>
    cases r
    obtain ⟨t1, ho⟩ := exo_at I.hok ha
    obtain ⟨mA, hns, _⟩ := exd_at I.hok hd
    obtain ⟨od, ho2, _⟩ := lookIn_ns hns
    exact ⟨_, _, some od, rfl, ho, rfl, rfl, ho2⟩
  | @bare a ha =>
    cases r
    have z : ObjOk X.prog X.w H s.heap a (ExO (.ref C) a) := I.hok a _ ha
    obtain ⟨oe, vs, ho, hz, hd, _⟩ := z.1
    exact ⟨_, oe, none, rfl, ho, hz.1, by unfold PySem.W.notCls; rw [hd] <;> rfl, by rw [hz.2]; exact trivial⟩
/-- isinstance(x, c), x an exception -/
def rIsX (K : PySem.W.Frag) : List V → Hp → VK → Prop := fun xs H Q => ∃ (x c : V) (C : Addr) (fs : List (Str × V)) (cv : Value) (b : Bool), xs = [x, c] ∧ IsX H C x fs ∧ ExcC K C ∧ ClsV c cv ∧ PySem.W.kitOne K (.ref C) cv = some b ∧ Q (.bl b) H
theorem call_isX : CallR X (.builtin "isinstance") (rIsX X.K) := by
  intro pins s σ H xs us Q I r h
  obtain ⟨x, c, C, fs, cv, b, rfl, hx, T, hc, e, q⟩ := h
  obtain ⟨u1, u2, rfl, r1, r2⟩ := vals2 r
  have e2 := hc.eq r2
  subst e2
  obtain ⟨a, oe, od, rfl, J⟩ := isX_at I hx r1
  exact PySem.W.kia_one (PySem.W.kitx_exc (by obtain ⟨cd, hc, _⟩ := PySem.W.any_some T.hd; rw [hc]; rfl) T.hg T.hk T.hs T.ha T.hn T.ht T.hm) I.kIn J e (fun z => nomatch z) fun tk => ⟨.bl b, H, I.kept (t' := tk) fun _ _ z => z, rfl, q⟩
/-- x.f, x an exception with a dict -/
def tXfV (K : PySem.W.Frag) (f : Str) (te : TE) : TE := fun σ H Q => te σ H fun x H1 => ∃ (C a d : Addr) (fs : List (Str × V)) (v : V), x = .ref a ∧ XfC K C ∧ PySem.W.findIn K (.ref C) f = some none ∧ H1 a = some (exo a C (some d)) ∧ H1 d = some (exd d fs) ∧ fs.lookup f = some v ∧ Q v H1
theorem pe_xfV {e : Expr} {te : TE} {pos : Pos} {f : Str} (he : PE X e te) (hb : attributeBase e f X.env (eval e X.env) = eval e X.env := by rfl) : PE X (.Attribute e f pos) (tXfV X.K f te) := by
  refine ⟨fun pins s σ H Q I h => attr_of hb (thn (he.run pins s σ H _ I h) fun u s1 hh => ?_)⟩
  obtain ⟨x, H1, I1, rx, C, a, d, fs, v, ex, T, hno, ha, hd, l, q⟩ := hh
  subst ex
  obtain rfl : u = Value.ref a := rx
  obtain ⟨t1, ho⟩ := exo_at I1.hok ha
  obtain ⟨mA, hns, hr⟩ := exd_at I1.hok hd
  obtain ⟨od, ho2, hl⟩ := lookIn_ns hns
  obtain ⟨u, hu, ru⟩ := RelO.some_of (v := v) (o := mA f) (by rw [← l]; exact hr f)
  have J : PySem.W.InstAt s1.heap a _ C (some od) := ⟨ho, rfl, rfl, ho2⟩
  exact HandSPX.exc_get I1.kIn J T.ga T.gg T.exC (PySem.W.findObj_own T.hdC hno rfl (by rw [hl, hu])) (handed_of ru) ⟨v, H1, I1.tok _, ru, q⟩
/-- C(e, ..) as a value -/
def tMkX (C : Addr) (sp : Sp) (ta : TA) : TE := fun σ H Q => ta σ H fun vs H1 => vs.length ≤ 1000 ∧ ∀ a, H1 a = none → sp (.ref a :: vs) (upd H1 a (exo a C none)) (fun v H2 => v = .non ∧ Q (.ref a) H2) (fun _ _ _ => False)
theorem pe_mkX {CX : CXT} {x : Str} {e : Expr} {es : List Expr} {ta : TA} {p pos : Pos} {C fI : Addr} {k : Nat} {fd : FuncData} {ps : List Str} {sp : Sp} (T : OexC X.K C) (iC : PySem.W.findIn X.K (.ref C) "__init__" = some (some (.ref fI))) (tI : PySem.W.typeIn X.K (.ref fI) = some (.type "function"))
    (F1 : FnOk X.prog X.w X.K X.mg X.base CX k fI fd ps sp) (hr : Room (k + 1) X.A) (hb : Binds X.K fd ps []) (hx : Passes CX X (fun _ _ _ => False)) (hg : Gl X x) (hm : X.mg x = some (.ref C)) (ha : PA X (e :: es) ta)
    (hdb : (x == ("__debug__" : Str)) = false := by decide) (he : starEach (e :: es) X.env = (false, eval e X.env) :: starEach es X.env := by rfl) (hpl : (backTo pos (starEach es X.env)).any (·.1) = false := by rfl) : PE X (.Call (.Name x p) (e :: es) [] pos) (tMkX C sp ta) := by
  refine ⟨fun pins s σ H Q I h => ?_⟩
  obtain ⟨nm, q, N, bs, bm, sn, sub, ab, col, dd, k0, k1, k2, k3, k5, hC, hbm⟩ := T.cls
  refine wpAny_Call_Name_kw (ld_glob I hg hm (PySem.W.callWith_K (h₀ := X.base) I.ok.mod.kin T.kC (thn (ha.run pos pins s σ H _ I h) fun us s1 ⟨vs, H1, I1, r1, hz, q1⟩ => ⟨I1.kIn, ?_⟩) he hpl) hdb)
  show wpAny _ _ (call (.ref C) us) _ _ _
  obtain ⟨hp, g, dr, tk, os⟩ := s1
  have new : H1 (hp.objs.size + 1) = none := I1.hok.fresh (Nat.le_succ _)
  have hq := q1 (hp.objs.size + 1) new
  have got : ((hp.push (PySem.W.kdv_tup us)).push (PySem.HandSPX.excO C hp.objs.size)).get? (hp.objs.size + 1) = some (PySem.HandSPX.excO C hp.objs.size) := by heap_get
  have J : Inv X pins σ (upd H1 (hp.objs.size + 1) (exo (hp.objs.size + 1) C none)) ⟨(hp.push (PySem.W.kdv_tup us)).push (PySem.HandSPX.excO C hp.objs.size), g, dr, tk, os⟩ :=
    I1.laid (t' := tk) (fun b o z => Heap.get?_push_of_some _ (Heap.get?_push_of_some _ z)) (Nat.le_succ _) (exo_ok got)
  have r2 : Vals (V.ref (hp.objs.size + 1) :: vs) (Value.ref (hp.objs.size + 1) :: us) := .cons rfl r1
  have hl : (Value.ref (hp.objs.size + 1) :: us ++ []).length = ps.length := by
    rw [List.append_nil]
    exact r2.length.symm.trans (F1.len _ _ _ _ hq)
  have hus : us.length ≤ sizeLine := by
    rw [← Paired.length r1, sizeLine_eq]
    omega
  refine wpAny_call (PySem.HandSPX.call_own F.excBase_ValueError (fun Y => PySem.HandSPX.refsVE_contains Y bm hbm) (I1.kIn _ _ hC) (PySem.W.looks_findIn I1.kIn iC) (fun self => PySem.W.bind_fn I1.kIn self tI) hus
    (codeAny_mono (F1.run _ X.stack _ _ ⟨Value.ref (hp.objs.size + 1) :: us, []⟩ _ _ _ (fun _ _ _ => False) (hr.make C us []) (J.env0.make C us []) (hb _ (Value.ref (hp.objs.size + 1) :: us) J.kIn hl) (by rw [List.append_nil]; exact r2) hq) fun r s' hq' => ?_))
  match r, hq' with
  | .error er, hq' => exact hx pins σ _ _ er s' J hq'
  | .ok (.ret u), hq' =>
    obtain ⟨v, H2, os2, bare2, un2, hok2, rv, ⟨ev, q2⟩⟩ := hq'
    subst ev
    exact ⟨rv, .ref _, H2, J.call' (ch := []) os2 un2 hok2 bare2 (fun b z => nomatch z), rfl, q2⟩
/-- C() as a value, C without an own __init__ -/
theorem pe_mkX0 {x : Str} {p pos : Pos} {C : Addr} {bmB : List Value} {B newId initId : String} (F : ExcBaseFacts B newId initId bmB) (q : PySem.W.excIn X.K C bmB newId = true) (gC : X.mg x = some (.ref C)) (kC : PySem.W.keepIn X.K (.ref C) = true) (hg : Gl X x) (hdb : (x == ("__debug__" : Str)) = false := by decide) :
    PE X (.Call (.Name x p) [] [] pos) (fun σ H Q => ∀ a, H a = none → Q (.ref a) (upd H a (ExO (.ref C) a))) := by
  refine ⟨fun pins s σ H Q I h => wpAny_Call_Name_kw (ld_glob I hg gC (PySem.W.callWith_K0 I.kIn kC ?_) hdb)⟩
  obtain ⟨bm, N, nm, qn, bs, hdct, sn, sub, ab, col, dd, k0, k1, k2, k3, k5, mN, hC, hN, hni, T⟩ := exc_obj I.kIn q
  obtain ⟨hp, g, dr, tk, os⟩ := s
  refine wpAny_call_exc_subT F T hC hN hni (fun h' a hm => ?_) (by show 0 ≤ sizeLine; omega)
  have hn : H a = none := I.hok.gone hm.new
  obtain ⟨t, ht, _, _⟩ := hm.there
  exact ⟨.ref a, upd H a (ExO (.ref C) a), I.laidN hm.keeps hm.new hn (exO_ok ht ⟨rfl, rfl⟩ rfl rfl rfl (show 4 < 6 by decide)), rfl, h a hn⟩
end
end Wq
set_option Elab.async false
set_option linter.all false
set_option maxRecDepth 100000
set_option maxHeartbeats 2000000
namespace Wq
open PySem PySem.Spec PyProof.Rows L2
open SD (mem dnum sg)
def SM : Str := "abcdefghijklmnopqrstuvwxyz"
structure TxtX (mg : Str → Option Value) : Prop where
  isi : mg "isinstance" = none
  str : mg "str" = none
  bool : mg "bool" = none
  set : mg "set" = none
  sg : ∃ t, mg "SIGNS" = some (.str SG t)
  wl : ∃ t, mg "WORD_LENGTH" = some (.int 40 t)
/-- the law's odd values: what they show, their type -/
inductive OV (K : PySem.W.Frag) (H : Hp) : V → PyData → String → Prop
  | non : OV K H .non .none "NoneType"
  | bl (b : Bool) : OV K H (.bl b) (.bool b) "bool"
  | int (i : Int) : i.natAbs < 1000 → OV K H (.int i) (.int i) "int"
  | str (x : Str) : x.cps.size ≤ 60 → (∀ c ∈ x.cps.toList, c < 128) → OV K H (.str x) (.str x) "str"
  | lst {a : Addr} {x : Str} : H a = some (.lst [.str x]) → a ≠ sysModules → x.cps.size ≤ 60 → (∀ c ∈ x.cps.toList, c < 128) → OV K H (.ref a) (.list [.str x]) "list"
  | tup {a : Addr} {x : Str} : H a = some (.tup [.str x]) → x.cps.size ≤ 60 → (∀ c ∈ x.cps.toList, c < 128) → OV K H (.ref a) (.tuple [.str x]) "tuple"
  | emp {a : Addr} : H a = some (.dK []) → OV K H (.ref a) (.dict []) "dict"
theorem OV.same {K : PySem.W.Frag} {H H' : Hp} {v : V} {d : PyData} {t : String} (h : OV K H v d t) (s : Same H H') : OV K H' v d t := by
  cases h with
  | non => exact .non
  | bl b => exact .bl b
  | int i h => exact .int i h
  | str x h1 h2 => exact .str x h1 h2
  | lst h1 h2 h3 h4 => exact .lst (s _ _ h1) h2 h3 h4
  | tup h1 h2 h3 => exact .tup (s _ _ h1) h2 h3
  | emp h1 => exact .emp (s _ _ h1)
theorem OV.ty {K : PySem.W.Frag} {H : Hp} {v : V} {d : PyData} {t : String} (h : OV K H v d t) : TyX K H v (.type t) := by
  cases h with
  | non => exact .base .non
  | bl b => exact .base (.bl b)
  | int i h => exact .base (.int i)
  | str x h1 h2 => exact .base (.str x)
  | lst h1 h2 h3 h4 => exact .base (.lst h1)
  | tup h1 h2 h3 => exact .base (.tup h1)
  | emp h1 => exact .base (.dK h1)
def isS : PyData → Bool
  | .str _ => true
  | _ => false
def isB : PyData → Bool
  | .bool _ => true
  | _ => false
def isI : PyData → Bool
  | .bool _ => true
  | .int _ => true
  | _ => false
theorem OV.kS {K : PySem.W.Frag} {H : Hp} {v : V} {d : PyData} {t : String} (h : OV K H v d t) : PySem.W.kitOne K (.type t) (.type "str") = some (isS d) := by
  cases h <;> first | exact kit_ty (r := true) (by decide +kernel) | exact kit_ty (r := false) (by decide +kernel)
theorem OV.kI {K : PySem.W.Frag} {H : Hp} {v : V} {d : PyData} {t : String} (h : OV K H v d t) : PySem.W.kitOne K (.type t) (.type "int") = some (isI d) := by
  cases h <;> first | exact kit_ty (r := true) (by decide +kernel) | exact kit_ty (r := false) (by decide +kernel)
theorem OV.kB {K : PySem.W.Frag} {H : Hp} {v : V} {d : PyData} {t : String} (h : OV K H v d t) : PySem.W.kitOne K (.type t) (.type "bool") = some (isB d) := by
  cases h <;> first | exact kit_ty (r := true) (by decide +kernel) | exact kit_ty (r := false) (by decide +kernel)
/-- what the text functions tell -/
def allIn (z : Str) (x : Str) : Bool := x.cps.toList.all fun c => decide (c ∈ z.cps.toList)
def fSign : PyData → Bool
  | .str x => decide (x.cps.size = 1) && allIn SG x
  | _ => false
def fText : PyData → Bool
  | .str x => allIn SG x
  | _ => false
def fRow : PyData → Bool
  | .str x => allIn SG x && (decide (0 < x.cps.size) && (!decide (32 ∈ x.cps.toList) && !decide (10 ∈ x.cps.toList)))
  | _ => false
def fWord : PyData → Bool
  | .str x => fRow (.str x) && decide (x.cps.size ≤ 40)
  | _ => false
def fName : PyData → Bool
  | .str x => decide (1 ≤ x.cps.size) && decide (x.cps.size ≤ 12) && allIn SM x
  | _ => false
def fInt : PyData → Bool := fun d => isI d && !isB d
def spF (K : PySem.W.Frag) (f : PyData → Bool) : Sp := fun vs H Q _ => ∃ (v : V) (d : PyData) (t : String), vs = [v] ∧ OV K H v d t ∧ ∀ H', Same H H' → Q (.bl (f d)) H'
abbrev sText : Stmt := top 7
abbrev sRow : Stmt := top 8
abbrev sWord : Stmt := top 9
theorem scText : FnScope ["value"] ["value"] (defScope sText) := ⟨rfl, rfl, rfl, by decide +kernel, rfl, by decide +kernel, by decide +kernel⟩
theorem scRow : FnScope ["value"] ["value"] (defScope sRow) := ⟨rfl, rfl, rfl, by decide +kernel, rfl, by decide +kernel, by decide +kernel⟩
theorem scWord : FnScope ["value"] ["value"] (defScope sWord) := ⟨rfl, rfl, rfl, by decide +kernel, rfl, by decide +kernel, by decide +kernel⟩
theorem szl {x : Str} {n : Nat} (h : x.cps.size ≤ n) (hn : n ≤ 1000 := by decide) : x.length ≤ sizeLine := Nat.le_of_lt (small1000 (Nat.le_trans h hn))
section
variable {P : Program} {w : World} {K : PySem.W.Frag} {mg : Str → Option Value} {base : Heap}
theorem allIn_iff {z x : Str} : allIn z x = true ↔ ∀ k, mem x.cps.toList.reverse k = true → mem z.cps.toList.reverse k = true := by
  unfold allIn
  rw [List.all_eq_true]
  constructor
  · intro h k hk
    unfold SD.mem at hk ⊢
    rw [List.any_eq_true] at hk ⊢
    obtain ⟨c, hc, e⟩ := hk
    refine ⟨c, ?_, e⟩
    rw [List.mem_reverse] at hc ⊢
    exact of_decide_eq_true (h c hc)
  · intro h c hc
    have := h (sg c) (by rw [SD.mem_sg]; exact decide_eq_true (List.mem_reverse.mpr hc))
    rw [SD.mem_sg] at this
    exact decide_eq_true (List.mem_reverse.mp (of_decide_eq_true this))
theorem dn_le {x : Str} : dnum x.cps.toList.reverse ≤ x.cps.size := by
  have := SD.dnum_le x.cps.toList.reverse
  rw [List.length_reverse, Array.length_toList] at this
  exact this
theorem SG_dn : dnum SG.cps.toList.reverse = 95 := by decide +kernel
theorem SM_dn : dnum SM.cps.toList.reverse = 26 := by decide +kernel
theorem SG_sz : SG.cps.size = 95 := by decide +kernel
theorem SM_sz : SM.cps.size = 26 := by decide +kernel
theorem ok_Text (D : DefAt K mg "is_text" sText) (T : Txt K mg) (TX : TxtX mg) : Cl P w K mg base 1 "is_text" (spF K fText) := by
  obtain ⟨t1, TX1⟩ := TX.sg
  refine cl_of D scText (fun vs H Q E h => ?_) (fun _ _ _ _ _ _ us hl => match us, hl with | [_], _ => rfl) (fun f cdv A outer s H vs Q E hr h => ?_)
  · obtain ⟨v, d, t, rfl, _⟩ := h
    rfl
  · obtain ⟨v, d, t, rfl, hv, k⟩ := h
    refine ⟨_, pss_one (ps_ret (pe_and (pe_callB call_isi (by rfl) (by exact TX.isi) (by decide +kernel) (pa_cons (pv 0) (pa_cons (pe_bltn rfl (by exact TX.str) (by decide +kernel) (v := .ty "str") rfl) pa_nil))) (pe_one (pe_cmpR op_eq (pe_callB call_lenT (by rfl) (by exact T.len) PySem.boot_len (pa_cons (pe_op op_subT (pe_callTy (cr_setT rfl) (by rfl) (by exact TX.set) (by decide +kernel) (pa_cons (pv 0) pa_nil)) (pe_callTy (cr_setT rfl) (by rfl) (by exact TX.set) (by decide +kernel) (pa_cons (pgs (by exact TX1)) pa_nil))) pa_nil)) pe_int (nomark _))))), ?_⟩
    refine ⟨_, rfl, v, .ty "str", _, _, _, rfl, .ty "str", hv.ty, hv.kS, _, rfl, ?_⟩
    have kk := k H (.refl H)
    refine ite2 (fun hi => ?_) (fun hi => ?_)
    · cases hv <;> try (cases hi; done)
      rename_i x hx ha
      refine ⟨_, rfl, x, rfl, by omega, fun a1 h1 => ⟨SG, rfl, by rw [SG_sz]; decide, fun a2 h2 => ?_⟩⟩
      have s1 : Same H (upd H a1 (SetT P w a1 (mem x.cps.toList.reverse) (dnum x.cps.toList.reverse))) := fun b o e => by rw [upd_ne (ne_of_none e h1)]; exact e
      have n12 : a1 ≠ a2 := ne_of_none upd_same h2
      refine ⟨a1, a2, _, _, _, _, rfl, rfl, by rw [upd_ne n12]; exact upd_same, upd_same, ?_, ?_, fun p R j hp hj hl => ?_⟩
      · have := dn_le (x := x)
        rw [SG_dn]
        omega
      · have := dn_le (x := x)
        omega
      refine ⟨p, R, j, rfl, upd_same, rfl, ?_⟩
      have s2 : Same H (upd (upd (upd H a1 (SetT P w a1 (mem x.cps.toList.reverse) (dnum x.cps.toList.reverse))) a2 (SetT P w a2 (mem SG.cps.toList.reverse) (dnum SG.cps.toList.reverse))) p (SetT P w p R j)) := fun b o e => by
        have e1 := s1 b o e
        rw [upd_ne (ne_of_none (by rw [upd_ne (ne_of_none e1 h2)]; exact e1) hp), upd_ne (ne_of_none e1 h2)]
        exact e1
      have e : fText (.str x) = decide (V.int ((j : Nat) : Int) = V.int 0) := by
        show allIn SG x = _
        rw [Bool.eq_iff_iff, allIn_iff, ← hj]
        simp
      have kk := k _ s2
      rw [e] at kk
      exact kk
    · cases hv <;> first | exact kk | exact absurd rfl hi
end
end Wq
set_option Elab.async false
set_option linter.all false
set_option maxRecDepth 100000
set_option maxHeartbeats 2000000
namespace Wq
open PySem PySem.Spec PyProof.Rows L2
open SD (mem dnum sg)
theorem lit32 : V.str " " = V.str ⟨#[32]⟩ := congrArg V.str (show (" " : Str) = ⟨#[32]⟩ from by decide +kernel)
theorem lit10 : V.str "\n" = V.str ⟨#[10]⟩ := congrArg V.str (show ("\n" : Str) = ⟨#[10]⟩ from by decide +kernel)
section
variable {P : Program} {w : World} {K : PySem.W.Frag} {mg : Str → Option Value} {base : Heap}
theorem ok_Row (D : DefAt K mg "is_row" sRow) (T : Txt K mg) (CT : Cl P w K mg base 1 "is_text" (spF K fText)) : Cl P w K mg base 2 "is_row" (spF K fRow) := by
  refine cl_of D scRow (fun vs H Q E h => ?_) (fun _ _ _ _ _ _ us hl => match us, hl with | [_], _ => rfl) (fun f cdv A outer s H vs Q E hr h => ?_)
  · obtain ⟨v, d, t, rfl, _⟩ := h
    rfl
  · obtain ⟨v, d, t, rfl, hv, k⟩ := h
    refine ⟨_, pss_one (ps_ret (pe_and (pe_cl CT hr (by decide) rfl (pa_cons (pv 0) pa_nil)) (pe_and (pe_cmpR op_gt (pe_callB call_len (by rfl) (by exact T.len) PySem.boot_len (pa_cons (pv 0) pa_nil)) pe_int (nomark _)) (pe_and (pe_cmpR op_notIn_sign pe_str (pv 0) rfl) (pe_one (pe_cmpR op_notIn_sign pe_str (pv 0) rfl)))))), ?_⟩
    refine ⟨_, rfl, v, d, t, rfl, hv, fun H' s' => ⟨_, rfl, ?_⟩⟩
    have kk := k H' s'
    cases hv <;> try exact kk
    rename_i x hx ha
    have e : ∀ b1 b2 b3, allIn SG x = b1 → decide (0 < x.cps.size) = b2 → (!decide (32 ∈ x.cps.toList)) = b3 → fRow (.str x) = (b1 && (b2 && (b3 && !decide (10 ∈ x.cps.toList)))) := by
      rintro _ _ _ rfl rfl rfl
      rfl
    refine ite2 (fun h1 => ?_) (fun h1 => ?_)
    · refine ⟨_, rfl, _, _, rfl, ⟨szl hx, rfl⟩, _, _, rfl, rfl, _, rfl, ?_⟩
      refine ite2 (fun h2 => ?_) (fun h2 => ?_)
      · refine ⟨_, rfl, 32, x, lit32, rfl, _, rfl, ?_⟩
        have h2 : decide (0 < x.cps.size) = true := by
          have : (0 : Int) < ((x.cps.size : Nat) : Int) := of_decide_eq_true h2
          exact decide_eq_true (by omega)
        refine ite2 (fun h3 => ?_) (fun h3 => ?_)
        · refine ⟨_, rfl, 10, x, lit10, rfl, ?_⟩
          rw [e _ _ _ h1 h2 h3] at kk
          exact kk
        · rw [e _ _ _ h1 h2 (eq_false_of_ne_true h3)] at kk
          exact kk
      · have h2 : decide (0 < x.cps.size) = false := by
          refine decide_eq_false fun z => h2 (decide_eq_true (show (0 : Int) < ((x.cps.size : Nat) : Int) from by omega))
        rw [e _ _ _ h1 h2 rfl] at kk
        exact kk
    · rw [e _ _ _ (eq_false_of_ne_true h1) rfl rfl] at kk
      exact kk
theorem ok_Word (D : DefAt K mg "is_word" sWord) (T : Txt K mg) (TX : TxtX mg) (CR : Cl P w K mg base 2 "is_row" (spF K fRow)) : Cl P w K mg base 3 "is_word" (spF K fWord) := by
  obtain ⟨t1, TX1⟩ := TX.wl
  refine cl_of D scWord (fun vs H Q E h => ?_) (fun _ _ _ _ _ _ us hl => match us, hl with | [_], _ => rfl) (fun f cdv A outer s H vs Q E hr h => ?_)
  · obtain ⟨v, d, t, rfl, _⟩ := h
    rfl
  · obtain ⟨v, d, t, rfl, hv, k⟩ := h
    refine ⟨_, pss_one (ps_ret (pe_and (pe_cl CR hr (by decide) rfl (pa_cons (pv 0) pa_nil)) (pe_one (pe_cmpR op_le (pe_callB call_len (by rfl) (by exact T.len) PySem.boot_len (pa_cons (pv 0) pa_nil)) (pgi (by exact TX1)) (nomark _))))), ?_⟩
    refine ⟨_, rfl, v, d, t, rfl, hv, fun H' s' => ⟨_, rfl, ?_⟩⟩
    have kk := k H' s'
    cases hv <;> try exact kk
    rename_i x hx ha
    have e : ∀ b1, fRow (.str x) = b1 → fWord (.str x) = (b1 && decide (x.cps.size ≤ 40)) := by
      rintro _ rfl
      rfl
    refine ite2 (fun h1 => ?_) (fun h1 => ?_)
    · refine ⟨_, rfl, _, _, rfl, ⟨szl hx, rfl⟩, _, _, rfl, rfl, ?_⟩
      rw [e _ h1] at kk
      have e2 : (true && decide (x.cps.size ≤ 40)) = decide (((x.length : Nat) : Int) ≤ 40) := by
        rw [Bool.true_and]
        exact decide_eq_decide.mpr (show x.cps.size ≤ 40 ↔ ((x.cps.size : Nat) : Int) ≤ 40 by omega)
      rw [e2] at kk
      exact kk
    · rw [e _ (eq_false_of_ne_true h1)] at kk
      exact kk
end
end Wq
set_option Elab.async false
set_option linter.all false
set_option maxRecDepth 100000
set_option maxHeartbeats 4000000
set_option exponentiation.threshold 5000
namespace Wq
open Rb (wh le un val rwa rdRaw rdBits many cutN)
open Crc (ck)
/-! rows of marks: what is read of them -/
theorem mkd_mk {m : Nat} (ns : List Nat) : ∀ n, n ≤ m → mkd (mkF m ns) n = (List.range n).filter fun k => decide (k ∈ ns)
  | 0, _ => rfl
  | n + 1, h => by
    show mkd (mkF m ns) n ++ (if (mkF m ns)[n]? = some 1 then [n] else []) = _
    rw [mkd_mk ns n (by omega), List.range_succ, List.filter_append]
    have e : (mkF m ns)[n]? = some (if n ∈ ns then 1 else 0) := by
      unfold mkF
      rw [List.getElem?_map, List.getElem?_range (by omega)]
      rfl
    rw [e]
    by_cases hn : n ∈ ns
    · rw [if_pos hn, if_pos rfl]
      simp [hn]
    · rw [if_neg hn, if_neg (by simp)]
      simp [hn]
theorem mk_read {m : Nat} (ns : List Nat) : MRead (mkR m ns) m (mkF m ns) (mkR m ns).length := by
  have hL : (mkR m ns).length = (wh m).length + (m + 7) / 8 := by
    unfold mkR
    rw [List.length_append, Rb.le_len]
  refine ⟨(wh m).length, ?_, ?_⟩
  · unfold mkR
    rw [rwa_wh _ 0 0 _ (.inr rfl)]
    simp
  have hd : (mkR m ns).drop (wh m).length = le ((m + 7) / 8) (val 1 (mkF m ns)) := by
    unfold mkR
    rw [List.drop_left]
  have hm : many m 1 = (m + 7) / 8 := by
    unfold many
    rw [Nat.mul_one]
  have hv := Rb.val_lt (w := 1) (l := mkF m ns) mkF_01
  rw [mkF_len, Nat.one_mul] at hv
  have hu : un (le ((m + 7) / 8) (val 1 (mkF m ns))) = val 1 (mkF m ns) := by
    rw [un_le, Rb.p256]
    exact Nat.mod_eq_of_lt (Nat.lt_of_lt_of_le hv (Nat.pow_le_pow_right (by decide) (by omega)))
  unfold rdBits
  rw [hm, if_neg (by omega), hd, List.take_of_length_le (by rw [Rb.le_len]; exact Nat.le_refl _), hu, Nat.one_mul, Nat.div_eq_of_lt hv, if_neg (by decide), hL]
  congr 1
  unfold cutN
  apply List.ext_getElem?
  intro i
  rw [List.getElem?_map]
  by_cases hi : i < m
  · rw [List.getElem?_range hi]
    have h1 : (mkF m ns)[i]? = some (if i ∈ ns then 1 else 0) := by
      unfold mkF
      rw [List.getElem?_map, List.getElem?_range hi]
      rfl
    rw [h1]
    have := Rb.val_at (w := 1) mkF_01 h1
    rw [Nat.one_mul] at this
    show some (val 1 (mkF m ns) / 2 ^ (1 * i) % 2 ^ 1) = _
    rw [Nat.one_mul, this]
  · rw [List.getElem?_eq_none (by rw [List.length_range]; omega), List.getElem?_eq_none (by rw [mkF_len]; omega)]
    rfl
theorem sld_one {row v : List Nat} (h : ∀ b ∈ row, b < 256) (hw : Within (sld row) v) : v = row := hw.one (sld_within h)
theorem mk_many {m : Nat} {ns : List Nat} {n c : Nat} (h : rwa (mkR m ns) 0 0 = .ok n c) : n = m := by
  unfold mkR at h
  rw [rwa_wh _ 0 0 _ (.inr rfl)] at h
  simp at h
  exact h.1.symm
/-- rows that are none of marks -/
def Odd (v : List Nat) : Prop := v = [9, 1] ∨ v = [3, 8] ∨ v = [3, 7, 0]
theorem Odd.no {v : List Nat} (h : Odd v) {m b : Nat} {bits : List Nat} (hr : MRead v m bits b) : b ≠ v.length := by
  obtain ⟨c, h1, h2⟩ := hr
  rcases h with rfl | rfl | rfl
  · have e : rwa [9, 1] 0 0 = .ok 9 1 := by rfl
    rw [e] at h1
    cases h1
    have e2 : rdBits [9, 1] 1 9 1 = .err 2 := by rfl
    rw [e2] at h2
    cases h2
  · have e : rwa [3, 8] 0 0 = .ok 3 1 := by rfl
    rw [e] at h1
    cases h1
    have e2 : rdBits [3, 8] 1 3 1 = .err 1 := by rfl
    rw [e2] at h2
    cases h2
  · have e : rwa [3, 7, 0] 0 0 = .ok 3 1 := by rfl
    rw [e] at h1
    cases h1
    have e2 : rdBits [3, 7, 0] 1 3 1 = .nums [1, 1, 1] 2 := by rfl
    rw [e2] at h2
    cases h2
    decide
theorem Odd.small {v : List Nat} (h : Odd v) {m c : Nat} (hr : rwa v 0 0 = .ok m c) : m ≤ 1000 := by
  rcases h with rfl | rfl | rfl
  · have e : rwa [9, 1] 0 0 = .ok 9 1 := by rfl
    rw [e] at hr
    cases hr
    decide
  · have e : rwa [3, 8] 0 0 = .ok 3 1 := by rfl
    rw [e] at hr
    cases hr
    decide
  · have e : rwa [3, 7, 0] 0 0 = .ok 3 1 := by rfl
    rw [e] at hr
    cases hr
    decide
end Wq
set_option Elab.async false
set_option linter.all false
set_option maxRecDepth 100000
set_option maxHeartbeats 4000000
set_option exponentiation.threshold 5000
namespace Wq
open PySem PySem.Spec PyProof.Rows L2
open Rb (wh le un val Bp Wr rwa fb rdWhole rdSigns rdBits rdRaw rd Res many cutN)
open Crc (ck)
/-! lists told -/
def vX (t : List Nat) : V := .str (txt t)
def fB (fs : List (List Nat)) : List Nat := fs.flatMap fun t => wh t.length ++ t
def rB (rs : List (Nat × Nat)) : List Nat := rs.flatMap fun r => wh r.1 ++ wh r.2
def ixB (c n : Nat) (fs : List (List Nat)) (rs : List (Nat × Nat)) : List Nat := wh c ++ wh n ++ wh fs.length ++ fB fs ++ wh rs.length ++ rB rs
def IxF (c n : Nat) (fa ra : Addr) : List (Str × V) := [("commit", nI c), ("counter", nI n), ("files", .ref fa), ("rows", .ref ra)]
structure RowsAt (H : Hp) (ra : Addr) (rs : List (Nat × Nat)) : Prop where
  ex : ∃ as : List Addr, H ra = some (.tup (as.map V.ref)) ∧ as.length = rs.length ∧ ∀ (i : Nat) (a : Addr), as[i]? = some a → ∃ s t, rs[i]? = some (s, t) ∧ H a = some (.tup [nI s, nI t])
theorem RowsAt.same {H G : Hp} {ra : Addr} {rs : List (Nat × Nat)} (h : RowsAt H ra rs) (s : Same H G) : RowsAt G ra rs := by
  obtain ⟨as, h1, h2, h3⟩ := h.ex
  exact ⟨as, s _ _ h1, h2, fun i a hi => by
    obtain ⟨x, y, e1, e2⟩ := h3 i a hi
    exact ⟨x, y, e1, s _ _ e2⟩⟩
structure TxtI (K : PySem.W.Frag) (mg : Str → Option Value) (C : Addr) : Prop where
  cl : Cls K C
  gC : mg "IndexList" = some (.ref C)
  nC : NoAttr K C "commit"
  nN : NoAttr K C "counter"
  nF : NoAttr K C "files"
  nR : NoAttr K C "rows"
  nT : NoAttr K C "told"
abbrev sTI : Stmt := top 31
abbrev NTI : List Str := ["index", "writer", "file", "segment", "turn"]
theorem scTI : FnScope NTI ["index"] (defScope sTI) := ⟨rfl, rfl, rfl, by decide +kernel, rfl, by decide +kernel, by decide +kernel⟩
def spTI (CI : Addr) : Sp := fun vs H Q _ => ∃ (p dx fa ra : Addr) (c n : Nat) (fs : List (List Nat)) (rs : List (Nat × Nat)), vs = [.ref p] ∧ H p = some (.ins CI dx (IxF c n fa ra)) ∧ c < 2 ^ 64 ∧ n < 2 ^ 64 ∧ H fa = some (.tup (fs.map vX)) ∧ RowsAt H ra rs ∧
  fs.length ≤ 5 ∧ (∀ t ∈ fs, t.length ≤ 40 ∧ ∀ i ∈ t, i < 95) ∧ rs.length ≤ 5 ∧ (∀ r ∈ rs, r.1 < 2 ^ 64 ∧ r.2 < 2 ^ 64) ∧ ∀ t G, Same H G → G t = some (.tup ((sld (ixB c n fs rs)).map nI)) → Q (.ref t) G
theorem wh64 {n : Nat} (h : n < 2 ^ 64) : (wh n).length ≤ 10 := wh_len _ 10 (Nat.lt_of_lt_of_le h (by decide)) (by decide)
theorem w4000 {n : Nat} (h : n < 2 ^ 64) : n < 2 ^ 4000 := Nat.lt_of_lt_of_le h (Nat.pow_le_pow_right (by decide) (by decide))
theorem fB_len {fs : List (List Nat)} (h : ∀ t ∈ fs, t.length ≤ 40 ∧ ∀ i ∈ t, i < 95) : (fB fs).length ≤ 50 * fs.length := by
  induction fs with
  | nil => exact Nat.le_refl _
  | cons t r ih =>
    have h1 := (h t List.mem_cons_self).1
    have h2 := ih fun x hx => h x (List.mem_cons_of_mem _ hx)
    have h3 := wh64 (n := t.length) (Nat.lt_of_le_of_lt h1 (by decide))
    show ((wh t.length ++ t) ++ fB r).length ≤ 50 * (r.length + 1)
    rw [List.length_append, List.length_append]
    omega
theorem rB_len {rs : List (Nat × Nat)} (h : ∀ r ∈ rs, r.1 < 2 ^ 64 ∧ r.2 < 2 ^ 64) : (rB rs).length ≤ 20 * rs.length := by
  induction rs with
  | nil => exact Nat.le_refl _
  | cons t r ih =>
    have h1 := wh64 (h t List.mem_cons_self).1
    have h2 := wh64 (h t List.mem_cons_self).2
    have h3 := ih fun x hx => h x (List.mem_cons_of_mem _ hx)
    show ((wh t.1 ++ wh t.2) ++ rB r).length ≤ 20 * (r.length + 1)
    rw [List.length_append, List.length_append]
    omega
theorem ixB_len {c n : Nat} {fs : List (List Nat)} {rs : List (Nat × Nat)} (hc : c < 2 ^ 64) (hn : n < 2 ^ 64) (h1 : fs.length ≤ 5) (h2 : ∀ t ∈ fs, t.length ≤ 40 ∧ ∀ i ∈ t, i < 95) (h3 : rs.length ≤ 5) (h4 : ∀ r ∈ rs, r.1 < 2 ^ 64 ∧ r.2 < 2 ^ 64) : (ixB c n fs rs).length ≤ 1000 := by
  have a1 := wh64 hc
  have a2 := wh64 hn
  have a3 := wh64 (n := fs.length) (Nat.lt_of_le_of_lt h1 (by decide))
  have a4 := wh64 (n := rs.length) (Nat.lt_of_le_of_lt h3 (by decide))
  have a5 := fB_len h2
  have a6 := rB_len h4
  unfold ixB
  simp only [List.length_append]
  omega
theorem ixB_lt {c n : Nat} {fs : List (List Nat)} {rs : List (Nat × Nat)} (h2 : ∀ t ∈ fs, t.length ≤ 40 ∧ ∀ i ∈ t, i < 95) : ∀ b ∈ ixB c n fs rs, b < 256 := by
  intro b hb
  unfold ixB fB rB at hb
  simp only [List.mem_append, List.mem_flatMap] at hb
  rcases hb with ((((h | h) | h) | ⟨t, ht, h⟩) | h) | ⟨r, hr, h⟩
  · exact Rb.wh_lt _ b h
  · exact Rb.wh_lt _ b h
  · exact Rb.wh_lt _ b h
  · rcases h with h | h
    · exact Rb.wh_lt _ b h
    · have := (h2 t ht).2 b h
      omega
  · exact Rb.wh_lt _ b h
  · rcases h with h | h
    · exact Rb.wh_lt _ b h
    · exact Rb.wh_lt _ b h
structure WMs (P : Program) (w : World) (K : PySem.W.Frag) (mg : Str → Option Value) (base : Heap) (C : Addr) : Prop extends WM P w K mg base C where
  sg : ∃ f fd, Meth K C "signs" f ∧ FnOk P w K mg base CX0 2 f fd ["self", "text"] (spWS C) ∧ L2.Binds K fd ["self", "text"] []
section
variable {P : Program} {w : World} {K : PySem.W.Frag} {mg : Str → Option Value} {base : Heap} {C CI : Addr}
theorem ok_TI (D : DefAt K mg "told_index" sTI) (T : Txt K mg) (TI : TxtI K mg CI) (W : WMs P w K mg base C) (CS : Cl P w K mg base 3 "sealed" (spSe K)) : Cl P w K mg base 4 "told_index" (spTI CI) := by
  obtain ⟨fI, fdI, MI, GI, bI⟩ := W.ini
  obtain ⟨fW, fdW, MW, GW, bW⟩ := W.wh
  obtain ⟨fS, fdS, MS, GS, bS⟩ := W.sg
  obtain ⟨fA, fdA, MA, GA, bA⟩ := W.al
  refine cl_of D scTI (fun vs H Q E h => ?_) (fun _ _ _ _ _ _ us hl => match us, hl with | [_], _ => rfl) (fun f cdv A outer s H vs Q E hr h => ?_)
  · obtain ⟨p, dx, fa, ra, c, n, fs, rs, rfl, _⟩ := h
    rfl
  · obtain ⟨p, dx, fa, ra, c, n, fs, rs, rfl, hp, hc, hn, hf, hR, l1, l2, l3, l4, k⟩ := h
    refine ⟨_, pss_cons (ps_set (i := 1) scTI.nd rfl (Or.inl rfl) (pe_make0 MI GI (hr.mono (by decide)) rfl (by exact W.gC) bI .nil pass0))
(pss_cons (ps_expr (pe_meth (pv 1) W.cl MW GW (hr.mono (by decide)) bW .nil pass0 (pa_cons (pe_fld (pv 0) rfl) pa_nil)))
(pss_cons (ps_expr (pe_meth (pv 1) W.cl MW GW (hr.mono (by decide)) bW .nil pass0 (pa_cons (pe_fld (pv 0) rfl) pa_nil)))
(pss_cons (ps_expr (pe_meth (pv 1) W.cl MW GW (hr.mono (by decide)) bW .nil pass0 (pa_cons (pe_callB call_len_seq (by rfl) (by exact T.len) PySem.boot_len (pa_cons (pe_fld (pv 0) rfl) pa_nil)) pa_nil)))
(C8.pss_cut (ps_for PassesOwn.never rfl (pi_tup (pe_fld (pv 0) rfl)) (pg_name (i := 2) scTI.nd rfl (Or.inl rfl))
(pss_one (ps_expr (pe_meth (pv 1) W.cl MS GS (hr.mono (by decide)) bS .nil pass0 (pa_cons (pv 2) pa_nil)))))
(pss_cons (ps_expr (pe_meth (pv 1) W.cl MW GW (hr.mono (by decide)) bW .nil pass0 (pa_cons (pe_callB call_len_seq (by rfl) (by exact T.len) PySem.boot_len (pa_cons (pe_fld (pv 0) rfl) pa_nil)) pa_nil)))
(C8.pss_cut (ps_for PassesOwn.never rfl (pi_tup (pe_fld (pv 0) rfl)) (pg_tup (by rfl) (pgs_cons (pg_name (i := 3) scTI.nd rfl (Or.inl rfl)) (pgs_cons (pg_name (i := 4) scTI.nd rfl (Or.inl rfl)) pgs_nil)))
(pss_cons (ps_expr (pe_meth (pv 1) W.cl MW GW (hr.mono (by decide)) bW .nil pass0 (pa_cons (pv 3) pa_nil)))
(pss_one (ps_expr (pe_meth (pv 1) W.cl MW GW (hr.mono (by decide)) bW .nil pass0 (pa_cons (pv 4) pa_nil))))))
(pss_one (ps_ret (pe_cl CS hr (by decide) rfl (pa_cons (pe_meth0 (pv 1) W.cl MA GA (hr.mono (by decide)) bA .nil pass0) pa_nil)))))))))), ?_⟩
    refine fun wp dw hwp hdw hne => ⟨wp, dw, rfl, upd_same, fun wl H1 hl0 W1 e1 => ⟨rfl, ?_⟩⟩
    have hlH : H wl = none := by
      cases e : H wl with
      | none => rfl
      | some o =>
        have n1 : wl ≠ wp := ne_of_none e hwp
        have n2 : wl ≠ dw := ne_of_none e hdw
        rw [upd_ne n1, upd_ne n2, e] at hl0
        cases hl0
    have s1 : Same H H1 := fun b o e => by
      have n1 : b ≠ wp := ne_of_none e hwp
      have n2 : b ≠ dw := ne_of_none e hdw
      exact e1 b o (by rw [upd_ne n1, upd_ne n2]; exact e) n1
    obtain ⟨d1, h1⟩ := W1.ob
    have a1 := wh64 hc
    have a2 := wh64 hn
    have a3 := wh64 (n := fs.length) (Nat.lt_of_le_of_lt l1 (by decide))
    have a4 := wh64 (n := rs.length) (Nat.lt_of_le_of_lt l3 (by decide))
    refine ⟨_, rfl, wp, d1, _, rfl, h1, wf_no wl (by decide +kernel), _, rfl, p, CI, dx, _, _, rfl, s1 _ _ hp, TI.cl, TI.nC, rfl, wp, wl, [], c, rfl, W1, w4000 hc, by decide, fun H2 B2 W2 => ?_⟩
    have s2 : Same H H2 := same_fresh s1 hlH B2
    obtain ⟨d2, h2⟩ := W2.ob
    refine ⟨_, rfl, wp, d2, _, rfl, h2, wf_no wl (by decide +kernel), _, rfl, p, CI, dx, _, _, rfl, s2 _ _ hp, TI.cl, TI.nN, rfl, wp, wl, _, n, rfl, W2, w4000 hn, by rw [List.nil_append]; omega, fun H3 B3 W3 => ?_⟩
    have s3 : Same H H3 := same_fresh s2 hlH B3
    obtain ⟨d3, h3⟩ := W3.ob
    refine ⟨_, rfl, wp, d3, _, rfl, h3, wf_no wl (by decide +kernel), _, rfl, p, CI, dx, _, _, rfl, s3 _ _ hp, TI.cl, TI.nF, rfl, fa, _, rfl, .inr (.inl (.inl (s3 _ _ hf))), wp, wl, _, fs.length, by rw [List.length_map]; rfl, W3, w4000 (Nat.lt_of_le_of_lt l1 (by decide)), by rw [List.nil_append, List.length_append]; omega, fun H4 B4 W4 => ?_⟩
    have s4 : Same H H4 := same_fresh s3 hlH B4
    rw [List.nil_append] at W4
    refine ⟨fun σ G => ∃ x, σ = [some (.ref p), some (.ref wp), x, none, none] ∧ Same H G ∧ WAt C G wp wl (wh c ++ wh n ++ wh fs.length ++ fB fs), ?_, ?_⟩
    · refine ⟨_, rfl, p, CI, dx, _, _, rfl, s4 _ _ hp, TI.cl, TI.nF, rfl, fa, rfl, ⟨_, .inl (.inl (s4 _ _ hf))⟩, for_tup (K := K) (a := fa) (xs := fs.map vX) (fun i σ G => ∃ x, σ = [some (.ref p), some (.ref wp), x, none, none] ∧ Same H G ∧ WAt C G wp wl (wh c ++ wh n ++ wh fs.length ++ fB (fs.take i)))
        ⟨none, rfl, s4, by rw [List.take_zero]; exact (List.append_nil _).symm ▸ W4⟩ (fun i σ G _ ⟨_, _, s, _⟩ => .inl (.inl (s _ _ hf))) ?_ ?_⟩
      · rintro i v σ G hv ⟨x, rfl, sg, Wg⟩
        rw [List.getElem?_map] at hv
        cases ei : fs[i]? with
        | none => rw [ei] at hv; cases hv
        | some t =>
        rw [ei] at hv
        obtain rfl := Option.some.inj hv
        have ht := l2 t (List.mem_of_getElem? ei)
        obtain ⟨dg, hg⟩ := Wg.ob
        have hfb := fB_len (fs := fs.take i) fun x hx => l2 x (List.mem_of_mem_take hx)
        have hti : (fs.take i).length ≤ 5 := by rw [List.length_take]; omega
        refine ⟨_, rfl, wp, dg, _, rfl, hg, wf_no wl (by decide +kernel), _, rfl, wp, wl, _, t, rfl, Wg, ht.2, by have := ht.1; omega, by simp only [List.length_append]; omega, fun G' B' W' => ⟨_, rfl, same_fresh sg hlH B', ?_⟩⟩
        have e1 : fs.take (i + 1) = fs.take i ++ [t] := by rw [List.take_add_one, ei]; rfl
        have e2 : fB (fs.take (i + 1)) = fB (fs.take i) ++ (wh t.length ++ t) := by
          unfold fB
          rw [e1, List.flatMap_append]
          simp
        rw [e2, ← List.append_assoc]
        exact W'
      · rintro σ G ⟨x, rfl, sg, Wg⟩
        rw [List.length_map, List.take_length] at Wg
        exact ⟨x, rfl, sg, Wg⟩
    rintro σ G5 ⟨x, rfl, s5, W5⟩
    obtain ⟨d5, h5⟩ := W5.ob
    obtain ⟨as, hra, hal, hat⟩ := hR.ex
    have b1 := fB_len l2
    refine ⟨_, rfl, wp, d5, _, rfl, h5, wf_no wl (by decide +kernel), _, rfl, p, CI, dx, _, _, rfl, s5 _ _ hp, TI.cl, TI.nR, rfl, ra, _, rfl, .inr (.inl (.inl (s5 _ _ hra))), wp, wl, _, rs.length, by rw [List.length_map, hal]; rfl, W5, w4000 (Nat.lt_of_le_of_lt l3 (by decide)), by simp only [List.length_append]; omega, fun H6 B6 W6 => ?_⟩
    have s6 : Same H H6 := same_fresh s5 hlH B6
    refine ⟨fun σ G => ∃ x y z, σ = [some (.ref p), some (.ref wp), x, y, z] ∧ Same H G ∧ WAt C G wp wl (ixB c n fs rs), ?_, ?_⟩
    · refine ⟨_, rfl, p, CI, dx, _, _, rfl, s6 _ _ hp, TI.cl, TI.nR, rfl, ra, rfl, ⟨_, .inl (.inl (s6 _ _ hra))⟩, for_tup (K := K) (a := ra) (xs := as.map V.ref) (fun i σ G => ∃ y z, σ = [some (.ref p), some (.ref wp), x, y, z] ∧ Same H G ∧ WAt C G wp wl (wh c ++ wh n ++ wh fs.length ++ fB fs ++ wh rs.length ++ rB (rs.take i)))
        ⟨_, _, rfl, s6, by rw [List.take_zero]; exact (List.append_nil _).symm ▸ W6⟩ (fun i σ G _ ⟨_, _, _, s, _⟩ => .inl (.inl (s _ _ hra))) ?_ ?_⟩
      · rintro i v σ G hv ⟨y, z, rfl, sg, Wg⟩
        rw [List.getElem?_map] at hv
        cases ei : as[i]? with
        | none => rw [ei] at hv; cases hv
        | some ad =>
        rw [ei] at hv
        obtain rfl := Option.some.inj hv
        obtain ⟨u, t, er, had⟩ := hat i ad ei
        have hlt := l4 (u, t) (List.mem_of_getElem? er)
        obtain ⟨dg, hg⟩ := Wg.ob
        have hrb := rB_len (rs := rs.take i) fun x hx => l4 x (List.mem_of_mem_take hx)
        have hti : (rs.take i).length ≤ 5 := by rw [List.length_take]; omega
        have c1 : (wh u).length ≤ 10 := wh64 hlt.1
        refine ⟨ad, _, rfl, .inl (.inl (sg _ _ had)), rfl, _, _, rfl, _, _, rfl, rfl, ?_⟩
        refine ⟨_, rfl, wp, dg, _, rfl, hg, wf_no wl (by decide +kernel), _, rfl, wp, wl, _, u, rfl, Wg, w4000 hlt.1, by simp only [List.length_append]; omega, fun G' B' W' => ?_⟩
        have sg' := same_fresh sg hlH B'
        obtain ⟨dg', hg'⟩ := W'.ob
        refine ⟨_, rfl, wp, dg', _, rfl, hg', wf_no wl (by decide +kernel), _, rfl, wp, wl, _, t, rfl, W', w4000 hlt.2, by simp only [List.length_append]; omega, fun G'' B'' W'' => ⟨_, _, rfl, same_fresh sg' hlH B'', ?_⟩⟩
        have e1 : rs.take (i + 1) = rs.take i ++ [(u, t)] := by rw [List.take_add_one, er]; rfl
        have e2 : rB (rs.take (i + 1)) = rB (rs.take i) ++ (wh u ++ wh t) := by
          unfold rB
          rw [e1, List.flatMap_append]
          simp
        rw [e2, ← List.append_assoc, ← List.append_assoc]
        exact W''
      · rintro σ G ⟨y, z, rfl, sg, Wg⟩
        rw [List.length_map, hal, List.take_length] at Wg
        exact ⟨_, y, z, rfl, sg, Wg⟩
    rintro σ G7 ⟨x', y, z, rfl, s7, W7⟩
    obtain ⟨d7, h7⟩ := W7.ob
    refine ⟨_, rfl, wp, d7, _, rfl, h7, wf_no wl (by decide +kernel), wp, wl, _, rfl, W7, fun t ht => ?_⟩
    exact ⟨t, ixB c n fs rs, rfl, .inl (.inl upd_same), ixB_lt l2, Nat.le_trans (ixB_len hc hn l1 l2 l3 l4) (by decide), fun t2 G8 s8 h8 => k t2 G8 (s7.trans ((Same.new ht).trans s8)) h8⟩
end
end Wq
set_option Elab.async false
set_option linter.all false
set_option maxRecDepth 100000
set_option maxHeartbeats 2000000
/-! sorted of a tuple of texts -/
namespace Wq
open PySem PySem.Spec PyProof.Rows L2
section
variable {P : Program} {w : World} {B : Around} {E : Value → Shared → Prop} {z : Shared}
theorem tup_collected {a : Addr} {us : List Value} {R : List Value → Shared → Prop} (ha : IsTup z.heap a us.toArray) (hz : us.length ≤ sizeLine)
    (k : R us { z with heap := (z.heap.push (seqObj "list" #[] 0)).update z.heap.objs.size (Obj.mapSeq (· ++ us.toArray)) }) : wpAny (model P w) B (collect (.ref a)) R E z := by
  obtain ⟨ob, eo, ec, m, ed⟩ := id ha
  unfold collect
  apply wpAny_bind; apply wpAny_runValue; apply codeAny_builtin entry_proto_collect'
  show wpAny (model P w) _ (do again (.builtin "list.__iadd__" ⟨[← newList [], .ref a], []⟩)) _ _ z
  apply wpAny_bind; refine wpAny_newList ?_
  refine wpAny_pure ⟨Code.quiet_builtin _ (by decide +kernel), ?_⟩
  apply codeAny_builtin entry_list_iadd'
  show wpAny (model P w) _ (Builtin.List.listExtendWith (.ref z.heap.objs.size) (.ref a) (.ref z.heap.objs.size)) _ _ _
  have eo' : (z.heap.push (seqObj "list" #[] 0)).get? a = some ob := Heap.get?_push_of_some _ eo
  unfold Builtin.List.listExtendWith
  apply wpAny_bind; refine wpAny_typeOf (T := "tuple") ⟨ob, eo', ec⟩ ?_
  rw [if_pos (by rw [show (Value.type "tuple" == Value.type "tuple") = true from rfl]; simp)]
  apply wpAny_bind; refine listItems_at eo' ed ?_
  apply wpAny_bind; refine listItems_at (xs := #[]) (n := 0) (Heap.get?_push_size _ rfl) rfl ?_
  rw [if_neg (by simp)]
  apply wpAny_bind; refine listUpdate_at (xs := #[]) (n := 0) (Heap.get?_push_size _ rfl) rfl ?_ (Nat.zero_le _) ?_
  · refine wpAny_pure ?_
    show wpAny (model P w) B (do
        let o ← load z.heap.objs.size
        match o.data with
        | .seq xs _ => pure xs.toList
        | _ => unsupported "internal:collect") R E _
    apply wpAny_bind; refine wpAny_load (get?_update_seq (Heap.get?_push_size _ rfl) _) ?_
    show wpAny (model P w) B (pure ((#[] : Array Value) ++ us.toArray).toList) R E _
    have e : ((#[] : Array Value) ++ us.toArray).toList = us := by simp
    rw [e]
    exact wpAny_pure k
  · show (#[] ++ us.toArray).size ≤ sizeLine + 1
    simp only [Array.size_append, List.size_toArray, List.length_nil]
    omega
theorem tup_sortedS {a : Addr} {us : List Value} {xs : List Str} {R : Value → Shared → Prop} (ha : IsTup z.heap a us.toArray) (hx : StrsAre us xs) (hz : us.length ≤ sizeLine)
    (k : ∀ (out : Array Value) (ys : List Str), StrsAre out.toList ys → ys.Perm xs → sortedS ys = true → R (.ref (z.heap.objs.size + 1)) { z with heap := sortedAll z.heap us out }) :
    wpAny (model P w) B (call (.builtin "sorted") [.ref a]) R E z := by
  refine Calls.call_function_entry kind_sorted plain_sorted entry_sorted (args_sorted1 _) ?_
  unfold Builtin.«sorted»
  apply wpAny_bind (m := checkCount "sorted" 1 1 _); apply wpAny_pure
  apply wpAny_bind; refine tup_collected ha hz ?_
  apply wpAny_bind; refine wpAny_newList ?_
  have e1 : ((z.heap.push (seqObj "list" #[] 0)).update z.heap.objs.size (Obj.mapSeq (· ++ us.toArray))).objs.size = z.heap.objs.size + 1 := by
    rw [Heap.size_update, size_push']
  have e2 : (((z.heap.push (seqObj "list" #[] 0)).update z.heap.objs.size (Obj.mapSeq (· ++ us.toArray))).push (seqObj "list" us.toArray 0)).get? (z.heap.objs.size + 1) = some (seqObj "list" us.toArray 0) := by
    rw [← e1]
    exact Heap.get?_push_size _ rfl
  show wpAny (model P w) _ _ _ _ { z with heap := ((z.heap.push (seqObj "list" #[] 0)).update z.heap.objs.size (Obj.mapSeq (· ++ us.toArray))).push (seqObj "list" us.toArray 0) }
  rw [e1]
  apply wpAny_bind; apply wpAny_holding
  refine wpAny_call_entry slot_list_sort ⟨_, e2, rfl⟩ entry_list_sort (list_sort_treeKAny strKind_oneLt e2 hx.keysOf (fun v₁ v₂ rest e => keyKind_strs (by rw [← e]; exact hx)) hz fun st h1 h2 => ⟨_, rfl, ?_⟩) (args_list_sort _)
  obtain ⟨ys, q1, q2, q3⟩ := sorted_out_str hx h1 h2
  exact wpAny_pure ⟨_, rfl, k _ ys q1 q2 q3⟩
end
section
variable {X : Cx}
/-- sorted of a row of texts, a list or a tuple -/
def rSortL (K : PySem.W.Frag) : List V → Hp → VK → Prop := fun vs H Q => ∃ (a : Addr) (xs : List Str), vs = [V.ref a] ∧ (SqL K H a (xs.map V.str) ∨ SqT K H a (xs.map V.str)) ∧ xs.length < 64 ∧
  ∀ (ys : List Str) (p : Addr), ys.Perm xs → sortedS ys = true → H p = none → Q (.ref p) (upd H p (.lst (ys.map V.str)))
theorem cr_sortL : CallR X (.builtin "sorted") (rSortL X.K) := by
  intro pins s σ H vs us Q I r h
  obtain ⟨a, xs, rfl, hs, h64, q⟩ := h
  rcases hs with hs | hs
  · exact cr_sortedS pins s σ H _ us Q I r ⟨a, xs, rfl, hs, h64, q⟩
  · obtain ⟨its, rv, hl, _⟩ := I.tuple hs
    rw [Vals.ref1 r]
    have hn := rv.length
    rw [List.length_map] at hn
    refine tup_sortedS hl rv.strs (by rw [← hn]; exact small64 h64) fun out ys h1 h2 h3 => ?_
    obtain ⟨ep, he'⟩ := sortedAll_at s.heap its out
    refine ⟨.ref _, upd H (s.heap.objs.size + 1) (.lst (ys.map V.str)), I.laid (t' := s.toks) (fun _ _ => sortedAll_old) (Nat.le_succ _) ⟨?_, out.toList, ep, vals_of_strs h1, he'⟩, rfl, q ys _ h2 h3 (I.hok.fresh (Nat.le_succ _))⟩
    rw [List.length_map, h2.length_eq]
    exact small64 h64
end
end Wq
set_option Elab.async false
set_option linter.all false
/-! rows of texts in order -/
namespace So
open PySem PySem.Spec PyProof.Rows
def leS (a b : Str) : Prop := a.cps.toList ≤ b.cps.toList
theorem not_lt {a b : Str} (h : ltCps b.cps.toList a.cps.toList = false) : leS a b := by
  rw [ltCps_eq] at h
  exact List.not_lt.mp (of_decide_eq_false h)
theorem rise : ∀ (l : List Str) (p : Str), risingS p l = true → (p :: l).Pairwise leS
  | [], p, _ => by simp
  | x :: r, p, h => by
    have h : (!ltCps x.cps.toList p.cps.toList && risingS x r) = true := h
    rw [Bool.and_eq_true] at h
    have ih := rise r x h.2
    have h1 : leS p x := not_lt (by simpa using h.1)
    refine List.pairwise_cons.mpr ⟨fun y hy => ?_, ih⟩
    rcases List.mem_cons.mp hy with rfl | hy
    · exact h1
    · exact List.le_trans h1 ((List.pairwise_cons.mp ih).1 y hy)
theorem pw {l : List Str} (h : sortedS l = true) : l.Pairwise leS := by
  cases l with
  | nil => exact .nil
  | cons x r => exact rise r x h
theorem str_ext {a b : Str} (h : a.cps.toList = b.cps.toList) : a = b := by
  cases a
  cases b
  simp only [Str.mk.injEq]
  exact Array.ext' h
theorem one {ys zs : List Str} (hp : ys.Perm zs) (h1 : sortedS ys = true) (h2 : sortedS zs = true) : ys = zs :=
  hp.eq_of_pairwise (le := leS) (fun a b _ _ h1 h2 => str_ext (List.le_antisymm h1 h2)) (pw h1) (pw h2)
end So
set_option Elab.async false
set_option linter.all false
set_option maxRecDepth 100000
set_option maxHeartbeats 4000000
set_option exponentiation.threshold 5000
namespace Wq
open PySem PySem.Spec PyProof.Rows L2
open Rb (wh le un val Bp Wr rwa fb rdWhole rdSigns rdBits rdRaw rd Res many cutN)
open Crc (ck)
/-! lists made -/
theorem pi_both {X : Cx} {tg e : Expr} {w1 w2 : TI} (h1 : PI X tg e w1) (h2 : PI X tg e w2) : PI X tg e (fun σ H R => w1 σ H R ∨ w2 σ H R) :=
  ⟨fun pins s σ H R I q => q.elim (h1.run pins s σ H R I) (h2.run pins s σ H R I)⟩
theorem perm_map {α β : Type} {f : α → β} {ys xs : List β} (h : ys.Perm xs) : ∀ fs : List α, xs = fs.map f → ∃ gs : List α, gs.Perm fs ∧ ys = gs.map f := by
  induction h with
  | nil =>
    intro fs e
    cases fs with
    | nil => exact ⟨[], List.Perm.nil, rfl⟩
    | cons a l => cases e
  | cons x h ih =>
    intro fs e
    cases fs with
    | nil => cases e
    | cons a l =>
      rw [List.map_cons] at e
      injection e with e1 e2
      obtain ⟨gs, p, e3⟩ := ih l e2
      exact ⟨a :: gs, p.cons a, by rw [List.map_cons, e1, e3]⟩
  | swap x y l =>
    intro fs e
    match fs, e with
    | a :: b :: r, e =>
      rw [List.map_cons, List.map_cons] at e
      injection e with e1 e2
      injection e2 with e2 e3
      exact ⟨b :: a :: r, .swap _ _ _, by rw [List.map_cons, List.map_cons, e1, e2, e3]⟩
  | trans h1 h2 ih1 ih2 =>
    intro fs e
    obtain ⟨gs, p, e1⟩ := ih2 fs e
    obtain ⟨hs, p2, e2⟩ := ih1 gs e1
    exact ⟨hs, p2.trans p, e2⟩
structure TupsAt (H : Hp) (as : List Addr) (rs : List (Nat × Nat)) : Prop where
  len : as.length = rs.length
  at_ : ∀ (i : Nat) (a : Addr), as[i]? = some a → ∃ s t, rs[i]? = some (s, t) ∧ H a = some (.tup [nI s, nI t])
theorem TupsAt.same {H G : Hp} {as : List Addr} {rs : List (Nat × Nat)} (h : TupsAt H as rs) (s : Same H G) : TupsAt G as rs := ⟨h.len, fun i a hi => by
    obtain ⟨x, y, e1, e2⟩ := h.at_ i a hi
    exact ⟨x, y, e1, s _ _ e2⟩⟩
def IxFT (c n : Nat) (fa ra ta : Addr) : List (Str × V) := [("commit", nI c), ("counter", nI n), ("files", .ref fa), ("rows", .ref ra), ("told", .ref ta)]
/-- a list as it was made -/
structure IxAt (H : Hp) (CI p : Addr) (c n : Nat) (fs : List (List Nat)) (rs : List (Nat × Nat)) : Prop where
  ex : ∃ (dx fa ra ta : Addr), H p = some (.ins CI dx (IxFT c n fa ra ta)) ∧ H fa = some (.tup (fs.map vX)) ∧ RowsAt H ra rs ∧ H ta = some (.tup ((sld (ixB c n fs rs)).map nI))
theorem IxAt.same {H G : Hp} {CI p : Addr} {c n : Nat} {fs : List (List Nat)} {rs : List (Nat × Nat)} (h : IxAt H CI p c n fs rs) (s : Same H G) : IxAt G CI p c n fs rs := by
  obtain ⟨dx, fa, ra, ta, h1, h2, h3, h4⟩ := h.ex
  exact ⟨dx, fa, ra, ta, s _ _ h1, s _ _ h2, h3.same s, s _ _ h4⟩
structure IxOk (c n : Nat) (fs : List (List Nat)) (rs : List (Nat × Nat)) : Prop where
  c : c < 2 ^ 64
  n : n < 2 ^ 64
  fl : fs.length ≤ 5
  ft : ∀ t ∈ fs, t.length ≤ 40 ∧ ∀ i ∈ t, i < 95
  rl : rs.length ≤ 5
  rt : ∀ r ∈ rs, r.1 < 2 ^ 64 ∧ r.2 < 2 ^ 64
theorem IxOk.perm {c n : Nat} {fs gs : List (List Nat)} {rs : List (Nat × Nat)} (h : IxOk c n fs rs) (p : gs.Perm fs) : IxOk c n gs rs := ⟨h.c, h.n, by rw [p.length_eq]; exact h.fl, fun t ht => h.ft t (p.mem_iff.mp ht), h.rl, h.rt⟩
structure TxtI2 (mg : Str → Option Value) : Prop where
  sorted : mg "sorted" = none
abbrev sII : Stmt := inClass (top 30) 0
abbrev NII : List Str := ["self", "commit", "counter", "files", "rows", "segment", "turn"]
theorem scII : FnScope NII ["self", "commit", "counter", "files", "rows"] (defScope sII) := ⟨rfl, rfl, rfl, by decide +kernel, rfl, by decide +kernel, by decide +kernel⟩
def spII (K : PySem.W.Frag) (CI : Addr) : Sp := fun vs H Q _ => ∃ (p dx f r : Addr) (c n : Nat) (fs : List (List Nat)) (as : List Addr) (rs : List (Nat × Nat)), vs = [.ref p, nI c, nI n, .ref f, .ref r] ∧ H p = some (.ins CI dx []) ∧
  (SqL K H f (fs.map vX) ∨ SqT K H f (fs.map vX)) ∧ (SqL K H r (as.map V.ref) ∨ SqT K H r (as.map V.ref)) ∧ TupsAt H as rs ∧ IxOk c n fs rs ∧
  ∀ gs G, gs.Perm fs → sortedS (gs.map txt) = true → But p H G → IxAt G CI p c n gs rs → Q .non G
theorem SqL_but {K : PySem.W.Frag} {H G : Hp} {p a : Addr} {xs : List V} {C dx : Addr} {fl : List (Str × V)} (h : SqL K H a xs) (hp : H p = some (.ins C dx fl)) (b : But p H G) : SqL K G a xs := by
  rcases h with (h | ⟨u, h⟩) | h
  · exact .inl (.inl (b _ _ h (ne_of h hp (by intro z; cases z))))
  · exact .inl (.inr ⟨u, b _ _ h (ne_of h hp (by intro z; cases z))⟩)
  · exact .inr h
theorem SqT_but {K : PySem.W.Frag} {H G : Hp} {p a : Addr} {xs : List V} {C dx : Addr} {fl : List (Str × V)} (h : SqT K H a xs) (hp : H p = some (.ins C dx fl)) (b : But p H G) : SqT K G a xs := by
  rcases h with (h | ⟨u, h⟩) | h
  · exact .inl (.inl (b _ _ h (ne_of h hp (by intro z; cases z))))
  · exact .inl (.inr ⟨u, b _ _ h (ne_of h hp (by intro z; cases z))⟩)
  · exact .inr h
theorem TupsAt.but {H G : Hp} {p C dx : Addr} {fl : List (Str × V)} {as : List Addr} {rs : List (Nat × Nat)} (h : TupsAt H as rs) (hp : H p = some (.ins C dx fl)) (b : But p H G) : TupsAt G as rs := ⟨h.len, fun i a hi => by
    obtain ⟨x, y, e1, e2⟩ := h.at_ i a hi
    exact ⟨x, y, e1, b _ _ e2 (ne_of e2 hp (by intro z; cases z))⟩⟩
theorem TupsAt.snoc {G G' : Hp} {as : List Addr} {rs : List (Nat × Nat)} {i u t : Nat} {tp : Addr} (h : TupsAt G as (rs.take i)) (er : rs[i]? = some (u, t)) (k : ∀ a x y, G a = some (.tup [x, y]) → G' a = some (.tup [x, y])) (ht : G' tp = some (.tup [nI u, nI t])) : TupsAt G' (as ++ [tp]) (rs.take (i + 1)) := by
  have e1 : rs.take (i + 1) = rs.take i ++ [(u, t)] := by rw [List.take_add_one, er]; rfl
  refine ⟨by rw [e1, List.length_append, List.length_append, h.len]; rfl, fun j a hj => ?_⟩
  rw [e1]
  by_cases hl : j < as.length
  · rw [List.getElem?_append_left hl] at hj
    obtain ⟨x, y, q1, q2⟩ := h.at_ j a hj
    exact ⟨x, y, by rw [List.getElem?_append_left (by rw [← h.len]; exact hl)]; exact q1, k _ _ _ q2⟩
  · rw [List.getElem?_append_right (by omega)] at hj
    have hj0 : j - as.length = 0 := by
      cases e : j - as.length with
      | zero => rfl
      | succ m => rw [e] at hj; cases hj
    rw [hj0] at hj
    obtain rfl := Option.some.inj hj
    exact ⟨u, t, by rw [List.getElem?_append_right (by rw [← h.len]; omega), ← h.len, hj0]; rfl, ht⟩
theorem RowsAt.of {H : Hp} {ra : Addr} {as : List Addr} {rs : List (Nat × Nat)} (h : H ra = some (.tup (as.map V.ref))) (t : TupsAt H as rs) : RowsAt H ra rs := ⟨as, h, t.len, t.at_⟩
theorem but_put {p : Addr} {H : Hp} {o : HO} : But p H (upd H p o) := fun b u e n => by rw [upd_ne n]; exact e
theorem but_same {p : Addr} {H G G' : Hp} (b : But p H G) (s : Same G G') : But p H G' := fun x o e n => s _ _ (b x o e n)
section
variable {P : Program} {w : World} {K : PySem.W.Frag} {mg : Str → Option Value} {base : Heap} {C CI : Addr}
theorem ok_II {f : Addr} {fd : FuncData} {dvs : List V} (F : FunD K "__init__" "IndexList.__init__" (defArgs sII) (defBody sII) (defScope sII) dvs [] f fd) (T : Txt K mg) (T2 : TxtI2 mg) (TI : TxtI K mg CI) (CT : Cl P w K mg base 4 "told_index" (spTI CI)) :
    FnOk P w K mg base CX0 5 f fd ["self", "commit", "counter", "files", "rows"] (spII K CI) := by
  refine F.ok scII (fun vs H Q E h => ?_) (fun cdv A outer s H vs Q E hr h => ?_)
  · obtain ⟨p, dx, fa, ra, c, n, fs, as, rs, rfl, _⟩ := h
    rfl
  · obtain ⟨p, dx, fa, ra, c, n, fs, as, rs, rfl, hp, hf, hra, hT, hO, k⟩ := h
    refine ⟨_, PSs.nox (pss_cons (ps_fld (pv 0) (pv 1) rfl)
(pss_cons (ps_fld (pv 0) (pv 2) rfl)
(pss_cons (ps_fld (pv 0) (pe_callTy call_tuple_of (by rfl) (by exact T.tuple) (by decide +kernel) (pa_cons (pe_callB cr_sortL (by rfl) (by exact T2.sorted) (by decide +kernel) (pa_cons (pv 3) pa_nil)) pa_nil)) rfl)
(pss_cons (ps_fld (pv 0) (pe_callTy call_tuple_of (by rfl) (by exact T.tuple) (by decide +kernel) (pa_cons (pe_lc (own := [("segment", 5), ("turn", 6)]) (g := gTup K 2 (gCons (gName 5) (gCons (gName 6) gNil))) (tt := tYes) (by rfl) scII.nd (pi_both (pi_list (pv 4)) (pi_tup (pv 4))) (blkOk_by (own := [("segment", 5), ("turn", 6)]) (N := NII) (sc := defScope sII) (by decide +kernel)) (fun _ _ _ _ _ => (pg_tup (by rfl) (pgs_cons (pg_name (i := 5) scII.nd rfl (Or.inl rfl)) (pgs_cons (pg_name (i := 6) scII.nd rfl (Or.inl rfl)) pgs_nil)))) (fun _ _ _ _ _ => pts_nil) (fun _ _ _ _ _ => (pe_tup (pa_cons (pv 5) (pa_cons (pv 6) pa_nil))))) pa_nil)) rfl)
(pss_one (ps_fld (pv 0) (pe_cl CT hr (by decide) rfl (pa_cons (pv 0) pa_nil)) rfl)))))), ?_⟩
    refine ⟨_, rfl, _, rfl, p, CI, dx, _, rfl, hp, TI.cl, TI.nC, (by decide), ?_⟩
    have hp1 : upd H p (.ins CI dx (putF "commit" (nI c) [])) p = some (.ins CI dx [("commit", nI c)]) := upd_same
    have b1 : But p H (upd H p (.ins CI dx (putF "commit" (nI c) []))) := but_put
    generalize upd H p (.ins CI dx (putF "commit" (nI c) [])) = H1 at hp1 b1
    refine ⟨_, rfl, _, rfl, p, CI, dx, _, rfl, hp1, TI.cl, TI.nN, (by show 1 < 1000; decide), ?_⟩
    have hp2 : upd H1 p (.ins CI dx (putF "counter" (nI n) [("commit", nI c)])) p = some (.ins CI dx [("commit", nI c), ("counter", nI n)]) := upd_same
    have b2 : But p H (upd H1 p (.ins CI dx (putF "counter" (nI n) [("commit", nI c)]))) := b1.trans but_put
    generalize upd H1 p (.ins CI dx (putF "counter" (nI n) [("commit", nI c)])) = H2 at hp2 b2
    have hf2 : SqL K H2 fa ((fs.map txt).map V.str) ∨ SqT K H2 fa ((fs.map txt).map V.str) := by
      rw [List.map_map]
      exact hf.imp (fun z => SqL_but z hp b2) (fun z => SqT_but z hp b2)
    refine ⟨_, rfl, fa, fs.map txt, rfl, hf2, by rw [List.length_map]; exact Nat.lt_of_le_of_lt hO.fl (by decide), fun ys q hys hs hq => ?_⟩
    obtain ⟨gs, pg, rfl⟩ := perm_map hys fs rfl
    refine ⟨q, _, rfl, .inl ⟨.inl (.inl upd_same), fun ga hga => ?_⟩⟩
    have s2 : Same H2 (upd (upd H2 q (.lst ((gs.map txt).map V.str))) ga (.tup ((gs.map txt).map V.str))) := (Same.new hq).trans (Same.new hga)
    have hg3 : upd (upd H2 q (.lst ((gs.map txt).map V.str))) ga (.tup ((gs.map txt).map V.str)) ga = some (.tup (gs.map vX)) := by
      rw [upd_same, List.map_map]
      rfl
    have b3 := but_same b2 s2
    have hp3 := s2 _ _ hp2
    generalize upd (upd H2 q (.lst ((gs.map txt).map V.str))) ga (.tup ((gs.map txt).map V.str)) = H3 at hg3 b3 hp3
    refine ⟨_, rfl, p, CI, dx, _, rfl, hp3, TI.cl, TI.nF, (by show 2 < 1000; decide), ?_⟩
    have hp4 : upd H3 p (.ins CI dx (putF "files" (.ref ga) [("commit", nI c), ("counter", nI n)])) p = some (.ins CI dx [("commit", nI c), ("counter", nI n), ("files", .ref ga)]) := upd_same
    have b34 : But p H3 (upd H3 p (.ins CI dx (putF "files" (.ref ga) [("commit", nI c), ("counter", nI n)]))) := but_put
    have b4 := b3.trans b34
    have hg4 := b34 _ _ hg3 (ne_of hg3 hp3 (by intro z; cases z))
    generalize upd H3 p (.ins CI dx (putF "files" (.ref ga) [("commit", nI c), ("counter", nI n)])) = H4 at hp4 b4 hg4
    have hT4 := hT.but hp b4
    have hz9 : ∀ n, n ≤ 9 → n ≤ sizeLine := fun n h => by rw [sizeLine_eq]; omega
    rcases hra with hra | hra
    · refine .inl ⟨_, rfl, ra, rfl, ⟨_, SqL_but hra hp b4⟩, fun Dd hD => ?_⟩
      refine lc_list (K := K) (a := ra) (xs := as.map V.ref) (fun i G => Same H4 G ∧ ∃ cs : List Addr, G Dd = some (.lst (cs.map V.ref)) ∧ TupsAt G cs (rs.take i)) ⟨Same.new hD, [], upd_same, rfl, fun i a z => by cases z⟩ (fun i G _ z => SqL_same (SqL_but hra hp b4) z.1) ?_ ?_
      · rintro i v G hv ⟨sm, cs, hD2, hc⟩
        rw [List.getElem?_map] at hv
        cases ei : as[i]? with
        | none => rw [ei] at hv; cases hv
        | some ad =>
        rw [ei] at hv
        obtain rfl := Option.some.inj hv
        obtain ⟨u, t, er, had⟩ := hT4.at_ i ad ei
        refine ⟨ad, _, rfl, .inl (.inl (sm _ _ had)), rfl, _, _, rfl, _, _, rfl, rfl, rfl, ?_⟩
        simp only [tYes, if_true]
        refine ⟨_, rfl, _, rfl, hz9 2 (by decide), fun tp htp => ⟨cs.map V.ref, Same.new htp _ _ hD2, ?_, Same.put (sm.trans (Same.new htp)) hD, cs ++ [tp], ?_, ?_⟩⟩
        · have := hc.len
          rw [List.length_take] at this
          have := hO.rl
          rw [List.length_map, sizeLine_eq]
          omega
        · rw [upd_same, List.map_append]
          rfl
        · have ntD : tp ≠ Dd := (ne_of_none hD2 htp).symm
          refine hc.snoc er (fun a x y ea => ?_) (by rw [upd_ne ntD, upd_same])
          rw [upd_ne (ne_of ea hD2 (by intro z; cases z)), upd_ne (ne_of_none ea htp)]
          exact ea
      · rintro G ⟨sm, cs, hD2, hc⟩
        rw [List.length_map, hT4.len, List.take_length] at hc
        refine ⟨Dd, _, rfl, .inl ⟨.inl (.inl hD2), fun xa hxa => ?_⟩⟩
        have s5 := sm.trans (Same.new (o := .tup (cs.map V.ref)) hxa)
        have hc5 := hc.same (Same.new (o := .tup (cs.map V.ref)) hxa)
        have hx5 : upd G xa (.tup (cs.map V.ref)) xa = some (.tup (cs.map V.ref)) := upd_same
        generalize upd G xa (.tup (cs.map V.ref)) = H5 at s5 hc5 hx5
        have hp5 := s5 _ _ hp4
        refine ⟨_, rfl, p, CI, dx, _, rfl, hp5, TI.cl, TI.nR, (by show 3 < 1000; decide), ?_⟩
        have hp6 : upd H5 p (.ins CI dx (putF "rows" (.ref xa) [("commit", nI c), ("counter", nI n), ("files", .ref ga)])) p = some (.ins CI dx (IxF c n ga xa)) := upd_same
        have b56 : But p H5 (upd H5 p (.ins CI dx (putF "rows" (.ref xa) [("commit", nI c), ("counter", nI n), ("files", .ref ga)]))) := but_put
        have b6 := (but_same b4 s5).trans b56
        have hg6 := b56 _ _ (s5 _ _ hg4) (ne_of (s5 _ _ hg4) hp5 (by intro z; cases z))
        have hx6 := b56 _ _ hx5 (ne_of hx5 hp5 (by intro z; cases z))
        have hc6 := hc5.but hp5 b56
        generalize upd H5 p (.ins CI dx (putF "rows" (.ref xa) [("commit", nI c), ("counter", nI n), ("files", .ref ga)])) = H6 at hp6 b6 hg6 hx6 hc6
        have hOg := hO.perm pg
        refine ⟨_, rfl, p, dx, ga, xa, c, n, gs, rs, rfl, hp6, hOg.c, hOg.n, hg6, .of hx6 hc6, hOg.fl, hOg.ft, hOg.rl, hOg.rt, fun ta H7 s7 h7 => ?_⟩
        refine ⟨_, rfl, p, CI, dx, _, rfl, s7 _ _ hp6, TI.cl, TI.nT, (by show 4 < 1000; decide), ?_⟩
        refine k gs _ pg hs ((but_same b6 s7).trans but_put) ⟨dx, ga, xa, ta, upd_same, ?_, ?_, ?_⟩
        · exact but_put _ _ (s7 _ _ hg6) (ne_of (s7 _ _ hg6) (s7 _ _ hp6) (by intro z; cases z))
        · exact .of (but_put _ _ (s7 _ _ hx6) (ne_of (s7 _ _ hx6) (s7 _ _ hp6) (by intro z; cases z))) ((hc6.same s7).but (s7 _ _ hp6) but_put)
        · exact but_put _ _ h7 (ne_of h7 (s7 _ _ hp6) (by intro z; cases z))
    · refine .inr ⟨_, rfl, ra, rfl, ⟨_, SqT_but hra hp b4⟩, fun Dd hD => ?_⟩
      refine lc_tup (K := K) (a := ra) (xs := as.map V.ref) (fun i G => Same H4 G ∧ ∃ cs : List Addr, G Dd = some (.lst (cs.map V.ref)) ∧ TupsAt G cs (rs.take i)) ⟨Same.new hD, [], upd_same, rfl, fun i a z => by cases z⟩ (fun i G _ z => SqT.same (SqT_but hra hp b4) z.1) ?_ ?_
      · rintro i v G hv ⟨sm, cs, hD2, hc⟩
        rw [List.getElem?_map] at hv
        cases ei : as[i]? with
        | none => rw [ei] at hv; cases hv
        | some ad =>
        rw [ei] at hv
        obtain rfl := Option.some.inj hv
        obtain ⟨u, t, er, had⟩ := hT4.at_ i ad ei
        refine ⟨ad, _, rfl, .inl (.inl (sm _ _ had)), rfl, _, _, rfl, _, _, rfl, rfl, rfl, ?_⟩
        simp only [tYes, if_true]
        refine ⟨_, rfl, _, rfl, hz9 2 (by decide), fun tp htp => ⟨cs.map V.ref, Same.new htp _ _ hD2, ?_, Same.put (sm.trans (Same.new htp)) hD, cs ++ [tp], ?_, ?_⟩⟩
        · have := hc.len
          rw [List.length_take] at this
          have := hO.rl
          rw [List.length_map, sizeLine_eq]
          omega
        · rw [upd_same, List.map_append]
          rfl
        · have ntD : tp ≠ Dd := (ne_of_none hD2 htp).symm
          refine hc.snoc er (fun a x y ea => ?_) (by rw [upd_ne ntD, upd_same])
          rw [upd_ne (ne_of ea hD2 (by intro z; cases z)), upd_ne (ne_of_none ea htp)]
          exact ea
      · rintro G ⟨sm, cs, hD2, hc⟩
        rw [List.length_map, hT4.len, List.take_length] at hc
        refine ⟨Dd, _, rfl, .inl ⟨.inl (.inl hD2), fun xa hxa => ?_⟩⟩
        have s5 := sm.trans (Same.new (o := .tup (cs.map V.ref)) hxa)
        have hc5 := hc.same (Same.new (o := .tup (cs.map V.ref)) hxa)
        have hx5 : upd G xa (.tup (cs.map V.ref)) xa = some (.tup (cs.map V.ref)) := upd_same
        generalize upd G xa (.tup (cs.map V.ref)) = H5 at s5 hc5 hx5
        have hp5 := s5 _ _ hp4
        refine ⟨_, rfl, p, CI, dx, _, rfl, hp5, TI.cl, TI.nR, (by show 3 < 1000; decide), ?_⟩
        have hp6 : upd H5 p (.ins CI dx (putF "rows" (.ref xa) [("commit", nI c), ("counter", nI n), ("files", .ref ga)])) p = some (.ins CI dx (IxF c n ga xa)) := upd_same
        have b56 : But p H5 (upd H5 p (.ins CI dx (putF "rows" (.ref xa) [("commit", nI c), ("counter", nI n), ("files", .ref ga)]))) := but_put
        have b6 := (but_same b4 s5).trans b56
        have hg6 := b56 _ _ (s5 _ _ hg4) (ne_of (s5 _ _ hg4) hp5 (by intro z; cases z))
        have hx6 := b56 _ _ hx5 (ne_of hx5 hp5 (by intro z; cases z))
        have hc6 := hc5.but hp5 b56
        generalize upd H5 p (.ins CI dx (putF "rows" (.ref xa) [("commit", nI c), ("counter", nI n), ("files", .ref ga)])) = H6 at hp6 b6 hg6 hx6 hc6
        have hOg := hO.perm pg
        refine ⟨_, rfl, p, dx, ga, xa, c, n, gs, rs, rfl, hp6, hOg.c, hOg.n, hg6, .of hx6 hc6, hOg.fl, hOg.ft, hOg.rl, hOg.rt, fun ta H7 s7 h7 => ?_⟩
        refine ⟨_, rfl, p, CI, dx, _, rfl, s7 _ _ hp6, TI.cl, TI.nT, (by show 4 < 1000; decide), ?_⟩
        refine k gs _ pg hs ((but_same b6 s7).trans but_put) ⟨dx, ga, xa, ta, upd_same, ?_, ?_, ?_⟩
        · exact but_put _ _ (s7 _ _ hg6) (ne_of (s7 _ _ hg6) (s7 _ _ hp6) (by intro z; cases z))
        · exact .of (but_put _ _ (s7 _ _ hx6) (ne_of (s7 _ _ hx6) (s7 _ _ hp6) (by intro z; cases z))) ((hc6.same s7).but (s7 _ _ hp6) but_put)
        · exact but_put _ _ h7 (ne_of h7 (s7 _ _ hp6) (by intro z; cases z))
end
end Wq
set_option Elab.async false
set_option linter.all false
set_option maxRecDepth 100000
set_option maxHeartbeats 4000000
set_option exponentiation.threshold 5000
namespace Wq
open PySem PySem.Spec PyProof.Rows L2
open Rb (wh le un val Bp Wr rwa fb rdWhole rdSigns rdBits rdRaw rd Res many cutN)
open Crc (ck)
/-! lists read: the numbers -/
/-- where a reader stands, and what is left -/
structure At (row : List Nat) (i : Nat) (rest : List Nat) : Prop where
  le : i ≤ row.length
  dr : row.drop i = rest
theorem At.start (row : List Nat) : At row 0 row := ⟨Nat.zero_le _, rfl⟩
theorem At.go {row pre rest : List Nat} {i : Nat} (h : At row i (pre ++ rest)) : At row (i + pre.length) rest := by
  have hl := congrArg List.length h.dr
  rw [List.length_drop, List.length_append] at hl
  have := h.le
  refine ⟨by omega, ?_⟩
  rw [← List.drop_drop, h.dr, List.drop_left]
theorem At.whole {row rest : List Nat} {i n : Nat} (h : At row i (wh n ++ rest)) : rwa (row.drop i) 0 0 = .ok n (wh n).length := by
  rw [h.dr, rwa_wh n 0 0 rest (.inr rfl)]
  simp
theorem At.signs {row t rest : List Nat} {i : Nat} (h : At row i (wh t.length ++ t ++ rest)) (ht : ∀ x ∈ t, x < 95) : rdSigns row i = .text t (i + (wh t.length ++ t).length) := by
  have h' : At row i (wh t.length ++ (t ++ rest)) := by rw [← List.append_assoc]; exact h
  have h1 := h'.whole
  have h2 := h'.go
  unfold rdSigns
  rw [h1]
  have e1 : (row.drop (i + (wh t.length).length)).take t.length = t := by
    rw [h2.dr, List.take_left]
  have e2 : fb t = none := Rb.fb_none fun j b hj => by
    have := ht b (List.mem_of_getElem? hj)
    omega
  show (match fb ((row.drop (i + (wh t.length).length)).take t.length) with
    | some k => Res.err (i + (wh t.length).length + k)
    | none => if row.length < i + (wh t.length).length + t.length then .err row.length else .text ((row.drop (i + (wh t.length).length)).take t.length) (i + (wh t.length).length + t.length)) = _
  rw [e1, e2]
  have hl := congrArg List.length h.dr
  rw [List.length_drop, List.length_append, List.length_append] at hl
  have := h.le
  show (if row.length < i + (wh t.length).length + t.length then Res.err row.length else .text t (i + (wh t.length).length + t.length)) = _
  rw [if_neg (by omega), List.length_append]
  congr 1
  omega
theorem At.done {row : List Nat} {i : Nat} (h : At row i []) : (i == row.length) = true := by
  have hl := congrArg List.length h.dr
  rw [List.length_drop] at hl
  have hz : ([] : List Nat).length = 0 := rfl
  have := h.le
  exact beq_iff_eq.mpr (by omega)
theorem At.more {row rest : List Nat} {i : Nat} (h : At row i rest) (hr : rest ≠ []) : (i == row.length) = false := by
  have hl := congrArg List.length h.dr
  rw [List.length_drop] at hl
  have := List.length_pos_iff.mpr hr
  exact beq_eq_false_iff_ne.mpr (by omega)
theorem fB_cons (fs : List (List Nat)) (i : Nat) (t : List Nat) (h : fs[i]? = some t) : fB (fs.drop i) = wh t.length ++ t ++ fB (fs.drop (i + 1)) := by
  unfold fB
  obtain ⟨hi, e⟩ := List.getElem?_eq_some_iff.mp h
  rw [List.drop_eq_getElem_cons hi, e]
  rfl
theorem rB_cons (rs : List (Nat × Nat)) (i u t : Nat) (h : rs[i]? = some (u, t)) : rB (rs.drop i) = wh u ++ wh t ++ rB (rs.drop (i + 1)) := by
  unfold rB
  obtain ⟨hi, e⟩ := List.getElem?_eq_some_iff.mp h
  rw [List.drop_eq_getElem_cons hi, e]
  rfl
theorem eqvS : ∀ l : List Str, PyData.eqvAll (l.map PyData.str) (l.map PyData.str) = true
  | [] => by rw [List.map_nil, PyData.eqvAll]
  | x :: r => by
    rw [List.map_cons, PyData.eqvAll, eqvS r, PyData.eqv]
    simp
theorem dpS {K : PySem.W.Frag} {H : Hp} : ∀ l : List Str, DpAll K H (l.map V.str) (l.map PyData.str)
  | [] => .nil
  | x :: r => .cons (.str x) (dpS r)
theorem sgn_inj : ∀ i j, i < 95 → j < 95 → sgn i = sgn j → i = j := fun i j hi hj e => by
  have h1 := SG_index i hi
  have h2 := SG_index j hj
  rw [e, h2] at h1
  exact (Option.some.inj h1).symm
theorem txt_inj {s t : List Nat} (hs : ∀ i ∈ s, i < 95) (ht : ∀ i ∈ t, i < 95) (e : txt s = txt t) : s = t := by
  have e1 : s.map sgn = t.map sgn := by
    have := congrArg (fun z : Str => z.cps.toList) e
    simpa [txt] using this
  clear e
  induction s generalizing t with
  | nil =>
    cases t with
    | nil => rfl
    | cons b t => cases e1
  | cons a s ih =>
    cases t with
    | nil => cases e1
    | cons b t =>
      rw [List.map_cons, List.map_cons] at e1
      injection e1 with e2 e3
      rw [sgn_inj a b (hs a List.mem_cons_self) (ht b List.mem_cons_self) e2, ih (fun i hi => hs i (List.mem_cons_of_mem _ hi)) (fun i hi => ht i (List.mem_cons_of_mem _ hi)) e3]
theorem txts_inj : ∀ {fs gs : List (List Nat)}, (∀ t ∈ fs, ∀ i ∈ t, i < 95) → (∀ t ∈ gs, ∀ i ∈ t, i < 95) → fs.map txt = gs.map txt → fs = gs
  | [], [], _, _, _ => rfl
  | [], _ :: _, _, _, e => by cases e
  | _ :: _, [], _, _, e => by cases e
  | a :: s, b :: t, h1, h2, e => by
    rw [List.map_cons, List.map_cons] at e
    injection e with e2 e3
    rw [txt_inj (h1 a List.mem_cons_self) (h2 b List.mem_cons_self) e2, txts_inj (fun i hi => h1 i (List.mem_cons_of_mem _ hi)) (fun i hi => h2 i (List.mem_cons_of_mem _ hi)) e3]
theorem sgn_lt : ∀ i, i < 95 → sgn i < 128 := by decide +kernel
theorem txt_lt {t : List Nat} (ht : ∀ i ∈ t, i < 95) : ∀ c ∈ (txt t).cps.toList, c < 128 := by
  intro c hc
  have : c ∈ t.map sgn := by simpa [txt] using hc
  obtain ⟨i, hi, rfl⟩ := List.mem_map.mp this
  exact sgn_lt i (ht i hi)
/-- a reader stays where it stood, when something new comes -/
theorem RAt.put {C : Addr} {H : Hp} {p q D : Addr} {row : List Nat} {i : Nat} {o : HO} (R : RAt C H p q row i) (h1 : D ≠ p) (h2 : D ≠ q) : RAt C (upd H D o) p q row i := by
  obtain ⟨dx, h⟩ := R.ob
  exact ⟨⟨dx, by rw [upd_ne h1.symm]; exact h⟩, by rw [upd_ne h2.symm]; exact R.tp⟩
theorem ok128 {x : Str} (h : ∀ c ∈ x.cps.toList, c < 128) : PyData.strOk x = true := by
  show x.cps.all (fun c => decide (c < 0x110000)) = true
  rw [Array.all_eq_true']
  intro c hc
  have := h c (Array.mem_toList_iff.mpr hc)
  exact decide_eq_true (by omega)
theorem txts_ok {fs : List (List Nat)} (h : ∀ t ∈ fs, ∀ i ∈ t, i < 95) : ∀ x ∈ fs.map txt, PyData.strOk x = true := by
  intro x hx
  obtain ⟨t, ht, rfl⟩ := List.mem_map.mp hx
  exact ok128 (txt_lt (h t ht))
theorem layS : ∀ l : List Str, (∀ x ∈ l, PyData.strOk x = true) → PyData.canLayAll0 (l.map PyData.str) = true
  | [], _ => by simp [PyData.canLayAll0]
  | x :: r, h => by
    have h1 := h x List.mem_cons_self
    have h2 := layS r fun y hy => h y (List.mem_cons_of_mem _ hy)
    simp [PyData.canLayAll0, PyData.canLay0, h1, h2]
theorem deepS : ∀ l : List Str, PyData.depthAll (l.map PyData.str) = 0
  | [] => by simp [PyData.depthAll]
  | x :: r => by simp [PyData.depthAll, PyData.depth, deepS r]
theorem shapS (l : List Str) (h : ∀ x ∈ l, PyData.strOk x = true) : SeqAt.shaped (.list (l.map PyData.str)) = true := by
  show (PyData.canLay0 (.list (l.map PyData.str)) && decide (PyData.depth (.list (l.map PyData.str)) ≤ 64)) = true
  rw [Bool.and_eq_true]
  refine ⟨by simp only [PyData.canLay0]; exact layS l h, decide_eq_true ?_⟩
  simp only [PyData.depth, deepS]
  omega
end Wq
set_option Elab.async false
set_option linter.all false
set_option maxRecDepth 100000
set_option maxHeartbeats 4000000
set_option exponentiation.threshold 5000
namespace Wq
open PySem PySem.Spec PyProof.Rows L2
open Rb (wh le un val Bp Wr rwa fb rdWhole rdSigns rdBits rdRaw rd Res many cutN)
open Crc (ck)
/-! lists read -/
theorem passX {X : Cx} : Passes (L2.CX X.prog X.w) X E0 := fun _ _ _ _ _ _ _ ⟨_, _, _, _, _, _, _, _, _, _, _, _, h⟩ => h.elim
def isW (t : List Nat) : Prop := fWord (.str (txt t)) = true
abbrev sRL : Stmt := top 33
abbrev NRL : List Str := ["reader", "commit", "counter", "files", "rows", "_", "name"]
theorem scRL : FnScope NRL ["reader"] (defScope sRL) := ⟨rfl, rfl, rfl, by decide +kernel, rfl, by decide +kernel, by decide +kernel⟩
def spRL (C CE CI : Addr) : Sp := fun vs H Q E => ∃ (p q : Addr) (row : List Nat), vs = [.ref p] ∧ RAt C H p q row 0 ∧ row.length ≤ 100000 ∧ (∀ b ∈ row, b < 256) ∧
  ((∃ (c n : Nat) (fs : List (List Nat)) (rs : List (Nat × Nat)) (rest : List Nat), row = ixB c n fs rs ++ rest ∧ IxOk c n fs rs ∧ sortedS (fs.map txt) = true ∧ (∀ t ∈ fs, isW t) ∧
      (rest ≠ [] → ∀ G, But p H G → Q .non G) ∧ (rest = [] → ∀ x G, But p H G → H x = none → IxAt G CI x c n fs rs → Q (.ref x) G)) ∨
   (row = [] ∧ ∀ d G, Same H G → E (.ref CE) (some d) G))
theorem ixB_parts (c n : Nat) (fs : List (List Nat)) (rs : List (Nat × Nat)) (rest : List Nat) : ixB c n fs rs ++ rest = wh c ++ (wh n ++ (wh fs.length ++ (fB fs ++ (wh rs.length ++ (rB rs ++ rest))))) := by
  unfold ixB
  simp only [List.append_assoc]
structure MkI (P : Program) (w : World) (K : PySem.W.Frag) (mg : Str → Option Value) (base : Heap) (CI : Addr) : Prop where
  gC : mg "IndexList" = some (.ref CI)
  ex : ∃ f fd, Mk K CI f ∧ FnOk P w K mg base CX0 5 f fd ["self", "commit", "counter", "files", "rows"] (spII K CI) ∧ L2.Binds K fd ["self", "commit", "counter", "files", "rows"] []
section
variable {P : Program} {w : World} {K : PySem.W.Frag} {mg : Str → Option Value} {base : Heap} {C CE CI : Addr}
theorem ok_RL (D : DefAt K mg "read_list" sRL) (T : Txt K mg) (T2 : TxtI2 mg) (hall : mg "all" = none) (R : RM P w K mg base C CE) (M : MkI P w K mg base CI) (CW : Cl P w K mg base 3 "is_word" (spF K fWord)) : Cle P w K mg base 7 "read_list" (spRL C CE CI) := by
  obtain ⟨fW, fdW, MW, GW, bW⟩ := R.wo
  obtain ⟨fS, fdS, MS, GS, bS⟩ := R.sg
  obtain ⟨fI, fdI, MI, GI, bI⟩ := M.ex
  obtain ⟨f, fd, FF, hm⟩ := D.ex
  refine ⟨f, fd, ["reader"], FF.okX scRL (fun vs H Q E h => ?_) (fun cdv A outer s H vs Q E hr h => ?_), hm, FF.kp, FF.binds fun _ _ _ _ _ _ us hl => match us, hl with | [_], _ => rfl⟩
  · obtain ⟨p, q, row, rfl, _⟩ := h
    rfl
  · obtain ⟨p, q, row, rfl, Ra, hl, hb, hcs⟩ := h
    refine ⟨_, pss_cons (ps_set (i := 1) scRL.nd rfl (Or.inl rfl) (pe_meth0 (pv 0) R.tr.cl MW GW (hr.mono (by decide)) bW .nil (passes_call (takes_of rfl rfl rfl rfl) (fun _ _ _ _ h => h))))
(pss_cons (ps_set (i := 2) scRL.nd rfl (Or.inl rfl) (pe_meth0 (pv 0) R.tr.cl MW GW (hr.mono (by decide)) bW .nil passX))
(C8.pss_cut (ps_setLc (i := 3) (own := [("_", 5)]) (g := gName 5) (tt := tYes) (by rfl) scRL.nd rfl rfl (sw_true rfl rfl rfl (by decide +kernel)) (pi_range1 rfl (by exact T.range) (pa_cons (pe_meth0 (pv 0) R.tr.cl MW GW (hr.mono (by decide)) bW .nil passX) pa_nil)) (blkOk_by (own := [("_", 5)]) (N := NRL) (sc := defScope sRL) (by decide +kernel)) (fun _ _ _ _ _ => (pg_name (i := 5) scRL.nd rfl (Or.inl rfl))) (fun _ _ _ _ _ => pts_nil) (fun _ _ _ _ _ => (pe_meth0 (pv 0) R.tr.cl MS GS (hr.mono (by decide)) bS .nil passX)))
(C8.pss_cut (ps_setLc (i := 4) (own := [("_", 5)]) (g := gName 5) (tt := tYes) (by rfl) scRL.nd rfl rfl (sw_true rfl rfl rfl (by decide +kernel)) (pi_range1 rfl (by exact T.range) (pa_cons (pe_meth0 (pv 0) R.tr.cl MW GW (hr.mono (by decide)) bW .nil passX) pa_nil)) (blkOk_by (own := [("_", 5)]) (N := NRL) (sc := defScope sRL) (by decide +kernel)) (fun _ _ _ _ _ => (pg_name (i := 5) scRL.nd rfl (Or.inl rfl))) (fun _ _ _ _ _ => pts_nil) (fun _ _ _ _ _ => (pe_tup (pa_cons (pe_meth0 (pv 0) R.tr.cl MW GW (hr.mono (by decide)) bW .nil passX) (pa_cons (pe_meth0 (pv 0) R.tr.cl MW GW (hr.mono (by decide)) bW .nil passX) pa_nil)))))
(pss_cons (ps_if (PW.pt (pw_or (pt_not (pt_val (pe_fld (pv 0) rfl))) (pw_or1 (pt_cmpR (op_neD (hu64 hr)) (pv 3) (pe_callB cr_sortL (by rfl) (by exact T2.sorted) (by decide +kernel) (pa_cons (pv 3) pa_nil)) (nomark _)))))
(pss_one (ps_ret pe_non))
pss_nil)
(pss_cons (ps_if (pt_not (pt_val (pe_callB (cr_all rfl) (by rfl) (by exact hall) (by decide +kernel) (pa_cons (pe_lc (own := [("name", 6)]) (g := gName 6) (tt := tYes) (te := tCall (spF K fWord) [] E0 (tCons (tVar 6) tNil)) (by rfl) scRL.nd (pi_list (pv 3)) (blkOk_by (own := [("name", 6)]) (N := NRL) (sc := defScope sRL) (by decide +kernel)) (fun _ _ _ _ _ => (pg_name (i := 6) scRL.nd rfl (Or.inl rfl))) (fun _ _ _ _ _ => pts_nil) (fun _ _ _ _ _ => (pe_cl CW hr (by decide) rfl (pa_cons (pv 6) pa_nil)))) pa_nil))))
(pss_one (ps_ret pe_non))
pss_nil)
(pss_one (ps_ret (pe_make MI GI (hr.mono (by decide)) rfl (by exact M.gC) bI .nil pass0 (pa_cons (pv 1) (pa_cons (pv 2) (pa_cons (pv 3) (pa_cons (pv 4) pa_nil)))))))))))), ?_⟩
    obtain ⟨dx, hp⟩ := Ra.ob
    rcases hcs with ⟨c, n, fs, rs, rest, hrow, hO, hs, hw, k1, k2⟩ | ⟨rfl, k⟩
    rotate_left
    · refine ⟨_, rfl, p, dx, _, rfl, hp, by rfl, p, q, [], 0, rfl, Ra, Nat.zero_le _, by decide, (by intro b z; cases z), fun n c H1 e1 => ?_, fun e he d H1 hE => k d H1 hE.1⟩
      have e0 : rwa (([] : List Nat).drop 0) 0 0 = .err 0 := rfl
      rw [e0] at e1
      cases e1
    have A0 : At row 0 (wh c ++ (wh n ++ (wh fs.length ++ (fB fs ++ (wh rs.length ++ (rB rs ++ rest)))))) := ⟨Nat.zero_le _, by rw [List.drop_zero, hrow, ixB_parts]⟩
    clear hrow
    refine ⟨_, rfl, p, dx, _, rfl, hp, by rfl, p, q, row, 0, rfl, Ra, Nat.zero_le _, hl, hb, fun c' m' H1 e1 B1 R1 => ?_, fun e he d H1 hE => by rw [A0.whole] at he; cases he⟩
    rw [A0.whole] at e1
    cases e1
    have A1 := A0.go
    generalize 0 + (wh c).length = i1 at R1 A1
    obtain ⟨d1, hp1⟩ := R1.ob
    refine ⟨_, rfl, p, d1, _, rfl, hp1, by rfl, p, q, row, i1, rfl, R1, A1.le, hl, hb, fun c' m' H2 e2 B2 R2 => ?_, fun e he d G hE => by rw [A1.whole] at he; cases he⟩
    rw [A1.whole] at e2
    cases e2
    have A2 := A1.go
    generalize i1 + (wh n).length = i2 at R2 A2
    obtain ⟨d2, hp2⟩ := R2.ob
    have B12 := B1.trans B2
    clear A0 A1 R1 hp1 B1 B2
    refine ⟨fun σ G => ∃ la i, σ = [some (.ref p), some (nI c), some (nI n), some (.ref la), none, none, none] ∧ But p H G ∧ RAt C G p q row i ∧ At row i (wh rs.length ++ (rB rs ++ rest)) ∧ G la = some (.lst (fs.map vX)), ?_, ?_⟩
    · refine ⟨_, rfl, p, d2, _, rfl, hp2, by rfl, p, q, row, i2, rfl, R2, A2.le, hl, hb, fun c' m' H3 e3 B3 R3 => ?_, fun e he d G hE => by rw [A2.whole] at he; cases he⟩
      rw [A2.whole] at e3
      cases e3
      have A3 := A2.go
      generalize i2 + (wh fs.length).length = i3 at R3 A3
      obtain ⟨d3, hp3⟩ := R3.ob
      refine ⟨(fs.length : Int), rfl, by omega, by have := hO.fl; omega, fun Dd hD => ?_⟩
      have nDp : Dd ≠ p := fun z => by rw [z, hp3] at hD; cases hD
      have nDq : Dd ≠ q := fun z => by rw [z, R3.tp] at hD; cases hD
      refine lc_range (lo := 0) (n := fs.length) (fun k G => But p H3 G ∧ G Dd = some (.lst ((fs.take k).map vX)) ∧ ∃ i, RAt C G p q row i ∧ At row i (fB (fs.drop k) ++ (wh rs.length ++ (rB rs ++ rest)))) ⟨But.put (But.refl _ _) hD, upd_same, i3, R3.put nDp nDq, A3⟩ ?_ ?_
      · rintro k G hk ⟨b, hG, i, Rk, Ak⟩
        have hk1 : fs[k]? = some fs[k] := List.getElem?_eq_getElem hk
        have ht := hO.ft _ (List.getElem_mem hk)
        rw [fB_cons fs k _ hk1, List.append_assoc (wh fs[k].length ++ fs[k])] at Ak
        obtain ⟨dk, hpk⟩ := Rk.ob
        refine ⟨rfl, ?_⟩
        simp only [tYes, if_true]
        refine ⟨_, rfl, p, dk, _, rfl, hpk, by rfl, p, q, row, i, rfl, Rk, Ak.le, hl, hb, fun t' a G2 e2 B2' R2' => ?_, fun e he d G' hE => by rw [Ak.signs ht.2] at he; cases he⟩
        rw [Ak.signs ht.2] at e2
        cases e2
        have hD2 := B2' _ _ hG nDp
        refine ⟨_, hD2, ?_, (b.trans B2').put hD, ?_, _, R2'.put nDp nDq, Ak.go⟩
        · have := hO.fl
          rw [List.length_map, List.length_take, sizeLine_eq]
          omega
        · rw [upd_same, List.take_add_one, hk1, List.map_append]
          rfl
      · rintro G ⟨b, hG, i, Rk, Ak⟩
        rw [List.drop_length] at Ak
        rw [List.take_length] at hG
        exact ⟨Dd, i, rfl, B12.trans (B3.trans b), Rk, Ak, hG⟩
    rintro σ G3 ⟨la, i3, rfl, B3, R3, A3, hla⟩
    obtain ⟨d3, hp3⟩ := R3.ob
    have nlap : la ≠ p := fun z => by rw [z, hp3] at hla; cases hla
    refine ⟨fun σ G => ∃ lb i as, σ = [some (.ref p), some (nI c), some (nI n), some (.ref la), some (.ref lb), none, none] ∧ But p H G ∧ RAt C G p q row i ∧ At row i rest ∧ G la = some (.lst (fs.map vX)) ∧ G lb = some (.lst (as.map V.ref)) ∧ TupsAt G as rs, ?_, ?_⟩
    · refine ⟨_, rfl, p, d3, _, rfl, hp3, by rfl, p, q, row, i3, rfl, R3, A3.le, hl, hb, fun c' m' H4 e3 B4 R4 => ?_, fun e he d G hE => by rw [A3.whole] at he; cases he⟩
      rw [A3.whole] at e3
      cases e3
      have A4 := A3.go
      generalize i3 + (wh rs.length).length = i4 at R4 A4
      obtain ⟨d4, hp4⟩ := R4.ob
      have hla4 := B4 _ _ hla nlap
      refine ⟨(rs.length : Int), rfl, by omega, by have := hO.rl; omega, fun Dd hD => ?_⟩
      have nDp : Dd ≠ p := fun z => by rw [z, hp4] at hD; cases hD
      have nDq : Dd ≠ q := fun z => by rw [z, R4.tp] at hD; cases hD
      refine lc_range (lo := 0) (n := rs.length) (fun k G => But p H4 G ∧ ∃ i as, G Dd = some (.lst (as.map V.ref)) ∧ TupsAt G as (rs.take k) ∧ RAt C G p q row i ∧ At row i (rB (rs.drop k) ++ rest)) ⟨But.put (But.refl _ _) hD, i4, [], upd_same, ⟨rfl, fun i a z => by cases z⟩, R4.put nDp nDq, A4⟩ ?_ ?_
      · rintro k G hk ⟨b, i, as, hG, hT, Rk, Ak⟩
        have hk1 : rs[k]? = some rs[k] := List.getElem?_eq_getElem hk
        obtain ⟨u, t, hut⟩ : ∃ u t, rs[k] = (u, t) := ⟨_, _, rfl⟩
        rw [hut] at hk1
        rw [rB_cons rs k u t hk1, List.append_assoc (wh u ++ wh t), List.append_assoc] at Ak
        obtain ⟨dk, hpk⟩ := Rk.ob
        refine ⟨rfl, ?_⟩
        simp only [tYes, if_true]
        refine ⟨_, rfl, p, dk, _, rfl, hpk, by rfl, p, q, row, i, rfl, Rk, Ak.le, hl, hb, fun u' a G2 e2 B2' R2' => ?_, fun e he d G' hE => by rw [Ak.whole] at he; cases he⟩
        rw [Ak.whole] at e2
        cases e2
        have Al := Ak.go
        obtain ⟨dl, hpl⟩ := R2'.ob
        refine ⟨_, rfl, p, dl, _, rfl, hpl, by rfl, p, q, row, _, rfl, R2', Al.le, hl, hb, fun t' a G5 e2 B5 R5 => ?_, fun e he d G' hE => by rw [Al.whole] at he; cases he⟩
        rw [Al.whole] at e2
        cases e2
        have Am := Al.go
        refine ⟨by show 2 ≤ sizeLine; rw [sizeLine_eq]; omega, fun tp htp => ?_⟩
        have b5 := b.trans (B2'.trans B5)
        have hD5 := B5 _ _ (B2' _ _ hG nDp) nDp
        have ntD : tp ≠ Dd := (ne_of_none hD5 htp).symm
        obtain ⟨d5, hp5⟩ := R5.ob
        have ntp : tp ≠ p := (ne_of_none hp5 htp).symm
        have ntq : tp ≠ q := (ne_of_none R5.tp htp).symm
        refine ⟨as.map V.ref, by rw [upd_ne ntD.symm]; exact hD5, ?_, ?_, _, as ++ [tp], ?_, ?_, (R5.put ntp ntq).put nDp nDq, Am⟩
        · have := hT.len
          rw [List.length_take] at this
          have := hO.rl
          rw [List.length_map, sizeLine_eq]
          omega
        · exact (b5.trans (But.same (Same.new htp))).put hD
        · rw [upd_same, List.map_append]
          rfl
        · refine hT.snoc hk1 (fun a x y ea => ?_) (by rw [upd_ne ntD, upd_same])
          have na : a ≠ p := fun z => by rw [z, hpk] at ea; cases ea
          have ea5 := B5 _ _ (B2' _ _ ea na) na
          rw [upd_ne (ne_of ea hG (by intro z; cases z)), upd_ne (ne_of_none ea5 htp)]
          exact ea5
      · rintro G ⟨b, i, as, hG, hT, Rk, Ak⟩
        rw [List.drop_length] at Ak
        rw [List.take_length] at hT
        exact ⟨Dd, i, as, rfl, B3.trans (B4.trans b), Rk, Ak, b _ _ hla4 nlap, hG, hT⟩
    rintro σ G4 ⟨lb, i4, as, rfl, B4, R4, A4, hla4, hlb4, hT4⟩
    obtain ⟨d4, hp4⟩ := R4.ob
    refine ⟨_, rfl, p, C, d4, _, _, rfl, hp4, R.tr.cl, R.tr.nD, rfl, _, rfl, ?_⟩
    by_cases hrest : rest = []
    rotate_left
    · refine (if_pos (by rw [A4.more hrest]; rfl)).mpr ?_
      exact k1 hrest G4 B4
    subst hrest
    refine (if_neg (by rw [A4.done]; decide)).mpr ?_
    have hlaS : SqL K G4 la ((fs.map txt).map V.str) := .inl (.inl (by rw [List.map_map]; exact hla4))
    refine ⟨_, rfl, _, rfl, la, fs.map txt, rfl, .inl hlaS, by rw [List.length_map]; exact Nat.lt_of_le_of_lt hO.fl (by decide), fun ys q' hys hsy hq => ?_⟩
    obtain rfl := So.one hys hsy hs
    have s5 := Same.new (o := .lst ((fs.map txt).map V.str)) hq
    have h5q : upd G4 q' (.lst ((fs.map txt).map V.str)) q' = some (.lst ((fs.map txt).map V.str)) := upd_same
    generalize upd G4 q' (.lst ((fs.map txt).map V.str)) = G5 at s5 h5q
    refine ⟨.list ((fs.map txt).map PyData.str), .list ((fs.map txt).map PyData.str), .lst (SqL_same hlaS s5) (dpS _), .lst (.inl (.inl h5q)) (dpS _), shapS _ (txts_ok fun t ht => (hO.ft t ht).2), shapS _ (txts_ok fun t ht => (hO.ft t ht).2), _, rfl, ?_⟩
    refine (if_neg (by rw [PyData.eqv, eqvS]; decide)).mpr ?_
    -- all names are words
    refine ⟨_, rfl, la, rfl, ⟨_, .inl (.inl (s5 _ _ hla4))⟩, fun Dd hD => ?_⟩
    refine lc_list (K := K) (a := la) (xs := fs.map vX) (fun k G => Same G5 G ∧ G Dd = some (.lst ((List.replicate k true).map V.bl))) ⟨Same.new hD, upd_same⟩ (fun _ _ _ z => .inl (.inl (z.1 _ _ (s5 _ _ hla4)))) ?_ ?_
    · rintro k v G hv ⟨sm, hG⟩
      rw [List.getElem?_map] at hv
      cases ei : fs[k]? with
      | none => rw [ei] at hv; cases hv
      | some t =>
      rw [ei] at hv
      obtain rfl := Option.some.inj hv
      have hm := List.mem_of_getElem? ei
      have ht := hO.ft t hm
      refine ⟨rfl, ?_⟩
      simp only [tYes, if_true]
      refine ⟨_, rfl, _, .str (txt t), "str", rfl, .str (txt t) (by have := txt_len t; show (txt t).length ≤ 60; omega) (txt_lt ht.2), fun G' s' => ?_⟩
      have e : fWord (.str (txt t)) = true := hw t hm
      refine ⟨_, s' _ _ hG, ?_, Same.put (sm.trans s') hD, ?_⟩
      · rw [List.length_map, List.length_replicate, sizeLine_eq]
        obtain ⟨hlt, _⟩ := List.getElem?_eq_some_iff.mp ei
        have := hO.fl
        omega
      · rw [upd_same, e, List.replicate_succ', List.map_append]
        rfl
    rintro G6 ⟨s6, hG6⟩
    refine ⟨Dd, _, rfl, .inl (.inl hG6), _, rfl, ?_⟩
    refine (if_neg (by simp)).mpr ?_
    have s46 := s5.trans s6
    refine ⟨_, rfl, _, rfl, _, rfl, _, rfl, fun x dx' hx hdx hne => ?_⟩
    have e6 : Same G6 (upd (upd G6 dx' (.own x)) x (.ins CI dx' [])) := fun b o e => by
      rw [upd_ne (ne_of_none e hx), upd_ne (ne_of_none e hdx)]
      exact e
    have s47 := s46.trans e6
    refine ⟨x, dx', la, lb, c, n, fs, as, rs, rfl, upd_same, .inl (.inl (.inl (s47 _ _ hla4))), .inl (.inl (.inl (s47 _ _ hlb4))), hT4.same s47, hO, fun gs G7 pg hsg b7 ix => ⟨rfl, ?_⟩⟩
    have eg : gs = fs := txts_inj (fun t ht => (hO.ft t (pg.mem_iff.mp ht)).2) (fun t ht => (hO.ft t ht).2) (So.one (pg.map txt) hsg hs)
    subst eg
    have hx4 : G4 x = none := by
      cases e : G4 x with
      | none => rfl
      | some o => rw [s46 _ _ e] at hx; cases hx
    have b47 : But p G4 G7 := fun b o e nb => b7 b o (s47 b o e) (fun z => by rw [z, hx4] at e; cases e)
    refine k2 rfl x G7 (B4.trans b47) ?_ ix
    cases e : H x with
    | none => rfl
    | some o =>
      by_cases nx : x = p
      · rw [nx, hp4] at hx4
        cases hx4
      · rw [B4 _ _ e nx] at hx4
        cases hx4
end
end Wq
set_option Elab.async false
set_option linter.all false
set_option maxRecDepth 100000
set_option maxHeartbeats 4000000
set_option exponentiation.threshold 5000
namespace Wq
open PySem PySem.Spec PyProof.Rows L2
open Rb (wh le un val Bp Wr rwa fb rdWhole rdSigns rdBits rdRaw rd Res many cutN)
open Crc (ck)
/-! lists out of rows -/
abbrev sLF : Stmt := top 32
abbrev NLF : List Str := ["file", "row", "found", "within"]
theorem scLF : FnScope NLF ["file", "row"] (defScope sLF) := ⟨rfl, rfl, rfl, by decide +kernel, rfl, by decide +kernel, by decide +kernel⟩
structure IxW (c n : Nat) (fs : List (List Nat)) (rs : List (Nat × Nat)) : Prop where
  ok : IxOk c n fs rs
  so : sortedS (fs.map txt) = true
  wd : ∀ t ∈ fs, isW t
def NoIx (row : List Nat) : Prop := (∀ v, ¬ Within row v) ∨ Within row [] ∨ ∃ c n fs rs rest, rest ≠ [] ∧ Within row (ixB c n fs rs ++ rest) ∧ IxW c n fs rs
def spLF (CT CI : Addr) : Sp := fun vs H Q E => ∃ (x : V) (q : Addr) (row : List Nat), vs = [x, .ref q] ∧ H q = some (.tup (row.map nI)) ∧ (∀ b ∈ row, b < 256) ∧ row.length ≤ 100000 ∧
  ((∃ c n fs rs, Within row (ixB c n fs rs) ∧ IxW c n fs rs ∧ ∀ t G, Same H G → H t = none → IxAt G CI t c n fs rs → Q (.ref t) G) ∨ (NoIx row ∧ ∀ d G, ErrN H G d x → E (.ref CT) (some d) G))
def bLF (CB CI : Addr) (x : V) (q : Addr) (W : WX) : TS := fun D σ H => ∃ (q' : Addr) (v : List Nat), σ = [some x, some (.ref q), some .non, some (.ref q')] ∧ H q' = some (.tup (v.map nI)) ∧ (∀ b ∈ v, b < 256) ∧ v.length ≤ 100000 ∧
  ((∃ c n fs rs rest, v = ixB c n fs rs ++ rest ∧ IxW c n fs rs ∧ (rest ≠ [] → ∀ G, Same H G → D.nx [some x, some (.ref q), some .non, some (.ref q')] G) ∧
      (rest = [] → ∀ t G, Same H G → H t = none → IxAt G CI t c n fs rs → D.nx [some x, some (.ref q), some (.ref t), some (.ref q')] G)) ∨
    (v = [] ∧ ∀ d G, Same H G → W (.ref CB) (some d) [some x, some (.ref q), some .non, some (.ref q')] G))
theorem Within.len {R v : List Nat} (h : Within R v) : v.length ≤ R.length := by
  obtain ⟨n, c, h1, h2, h3, _⟩ := h.parts
  rw [h3, List.length_take, List.length_drop]
  omega
section
variable {P : Program} {w : World} {K : PySem.W.Frag} {mg : Str → Option Value} {base : Heap} {C CB CT CI fI : Addr}
theorem ok_LF {fdI : FuncData} (D : DefAt K mg "list_from" sLF) (R : RM P w K mg base C CB) (TF : TxtF K mg CT fI) (GI : FnOk P w K mg base CX0 1 fI fdI ["self", "name"] (spTF CT)) (bI : L2.Binds K fdI ["self", "name"] [])
    (CR : Cl P w K mg base 6 "row_within" spRo) (CL : Cle P w K mg base 7 "read_list" (spRL C CB CI)) : Cle P w K mg base 8 "list_from" (spLF CT CI) := by
  obtain ⟨fR, fdR, MR, GR, bR⟩ := R.ini
  obtain ⟨fl, fdl, psl, GL, hml, kpl, bL⟩ := CL.ex
  obtain ⟨f, fd, FF, hm⟩ := D.ex
  refine ⟨f, fd, ["file", "row"], FF.okX scLF (fun vs H Q E h => ?_) (fun cdv A outer s H vs Q E hr h => ?_), hm, FF.kp, FF.binds fun _ _ _ _ _ _ us hl => match us, hl with | [_, _], _ => rfl⟩
  · obtain ⟨x, q, row, rfl, _⟩ := h
    rfl
  · obtain ⟨x, q, row, rfl, hq, hb, hl, hcs⟩ := h
    refine ⟨_, pss_cons (ps_set (i := 2) scLF.nd rfl (Or.inl rfl) pe_non)
(pss_cons (ps_set (i := 3) scLF.nd rfl (Or.inl rfl) (pe_cl CR hr (by decide) rfl (pa_cons (pv 1) pa_nil)))
(C8.pss_cut (ps_if (pt_cmpR op_notN (pv 3) pe_non (nomark _))
(pss_one (ps_try_only (c := .ref CB) (tb := bLF CB CI x q) (ts := fun _ _ _ D σ H => ∃ y, σ = [some x, some (.ref q), some .non, y] ∧ D.nx [some x, some (.ref q), some .non, y] H) (Wout := fun _ _ _ _ => False) rfl rfl ⟨rfl, by decide, .inl R.gE⟩ takes0
      (fun W pn xe tk _ => pss_pre (pss_one (ps_set (i := 2) scLF.nd rfl (Or.inl rfl) (pe_callS GL (hr.mono (by decide)) rfl hml kpl bL (fun σ => passAt tk σ) (pa_cons (pe_make MR GR (hr.mono (by decide)) rfl (by exact R.gC) bR .nil pass0 (pa_cons (pv 3) pa_nil)) pa_nil)))) (fun D σ H hb => ?_))
      (fun a oe cls d pn _ _ => pss_pre (pss_one (ps_set (i := 2) scLF.nd rfl (Or.inl rfl) pe_non)) (fun D σ H hb => ?_))))
pss_nil)
(pss_cons (ps_if (pt_cmpR op_isN (pv 2) pe_non (nomark _))
(pss_one (ps_raise rfl (takes_of rfl rfl rfl rfl) (pmk_oex TF.ox TF.iC TF.tI GI (hr.mono (by decide)) bI .nil pass0 rfl (by exact TF.gC) (by exact (pa_cons (pv 0) pa_nil)))))
pss_nil)
(pss_one (ps_ret (pv 2)))))), ?_⟩
    · obtain ⟨q', v, rfl, hq', hvb, hvl, hcs⟩ := hb
      refine ⟨_, rfl, fun p dx hp hdx hne => ⟨p, dx, q', v, rfl, upd_same, ?_, fun H1 B1 R1 => ⟨rfl, ?_⟩⟩⟩
      · rw [upd_ne (ne_of_none hq' hp), upd_ne (ne_of_none hq' hdx)]
        exact hq'
      have s1 : Same H H1 := fun b o e => B1 b o (by rw [upd_ne (ne_of_none e hp), upd_ne (ne_of_none e hdx)]; exact e) (ne_of_none e hp)
      refine ⟨p, q', v, rfl, R1, hvl, hvb, ?_⟩
      rcases hcs with ⟨c, n, fs, rs, rest, e, hW, j1, j2⟩ | ⟨e, j⟩
      · refine .inl ⟨c, n, fs, rs, rest, e, hW.ok, hW.so, hW.wd, fun hr G B => j1 hr G (same_fresh s1 hp B), fun hr t G B ht ix => j2 hr t G (same_fresh s1 hp B) ?_ ix⟩
        cases eh : H t with
        | none => rfl
        | some o => rw [s1 _ _ eh] at ht; cases ht
      · exact .inr ⟨e, fun d G s => j d G (s1.trans s)⟩
    · obtain ⟨y, rfl, hn⟩ := hb
      exact hn
    rcases hcs with ⟨c, n, fs, rs, hw, hW, k⟩ | ⟨hno, k⟩
    · refine ⟨_, rfl, q, row, rfl, hq, hb, hl, fun v hv t G s ht => ?_, fun hno G s => absurd hw (hno _)⟩
      have hvb := (Reads3.facts hb hv).1
      have hvl := Nat.le_trans hv.len hl
      obtain ⟨rfl, _, _⟩ := Reads3.one hv hw
      refine ⟨fun σ G' => ∃ u, σ = [some x, some (.ref q), some (.ref u), some (.ref t)] ∧ Same H G' ∧ H u = none ∧ IxAt G' CI u c n fs rs, ?_, ?_⟩
      · refine ⟨_, rfl, rfl, _, rfl, (if_pos (by simp)).mpr ?_⟩
        refine ⟨t, _, rfl, ht, hvb, hvl, .inl ⟨c, n, fs, rs, [], (List.append_nil _).symm, hW, fun z => absurd rfl z, fun _ u G' s' hu ix => ⟨u, rfl, s.trans s', ?_, ix⟩⟩⟩
        cases eh : H u with
        | none => rfl
        | some o => rw [s _ _ eh] at hu; cases hu
      rintro σ G1 ⟨u, rfl, s1, hu, ix⟩
      refine ⟨_, rfl, rfl, _, rfl, (if_neg (by simp)).mpr ?_⟩
      exact ⟨_, rfl, k u G1 s1 hu ix⟩
    · refine ⟨_, rfl, q, row, rfl, hq, hb, hl, fun v hv t G s ht => ?_, fun hno G s => ?_⟩
      · have hvb := (Reads3.facts hb hv).1
        have hvl := Nat.le_trans hv.len hl
        refine ⟨fun σ G' => ∃ y, σ = [some x, some (.ref q), some .non, y] ∧ Same H G', ?_, ?_⟩
        · refine ⟨_, rfl, rfl, _, rfl, (if_pos (by simp)).mpr ?_⟩
          refine ⟨t, v, rfl, ht, hvb, hvl, ?_⟩
          rcases hno with hno | hw | ⟨c, n, fs, rs, rest, hr0, hw, hW⟩
          · exact absurd hv (hno v)
          · obtain ⟨rfl, _, _⟩ := Reads3.one hv hw
            exact .inr ⟨rfl, fun d G' s' => ⟨true, R.te, fun _ a ha => ⟨_, rfl, _, rfl, s.trans s'⟩, fun z => by cases z⟩⟩
          · obtain ⟨rfl, _, _⟩ := Reads3.one hv hw
            exact .inl ⟨c, n, fs, rs, rest, rfl, hW, fun _ G' s' => ⟨_, rfl, s.trans s'⟩, fun z => absurd z hr0⟩
        rintro σ G1 ⟨y, rfl, s1⟩
        refine ⟨_, rfl, rfl, _, rfl, (if_pos (by simp)).mpr ?_⟩
        refine ⟨_, rfl, (by show 1 ≤ 1000; decide), fun a ha => ⟨a, _, rfl, upd_same, fun d hd hda => ⟨rfl, d, _, upd_same, by rw [upd_ne hda, upd_same], by rw [upd_ne hda] at hd; exact hd, ?_⟩⟩⟩
        exact k d _ (ErrN.mono s1 (errN_heap ha hd hda))
      · refine ⟨fun σ G' => ∃ y, σ = [some x, some (.ref q), some .non, y] ∧ Same H G', ?_, ?_⟩
        · refine ⟨_, rfl, rfl, _, rfl, (if_neg (by simp)).mpr ?_⟩
          exact ⟨_, rfl, s⟩
        rintro σ G1 ⟨y, rfl, s1⟩
        refine ⟨_, rfl, rfl, _, rfl, (if_pos (by simp)).mpr ?_⟩
        refine ⟨_, rfl, (by show 1 ≤ 1000; decide), fun a ha => ⟨a, _, rfl, upd_same, fun d hd hda => ⟨rfl, d, _, upd_same, by rw [upd_ne hda, upd_same], by rw [upd_ne hda] at hd; exact hd, ?_⟩⟩⟩
        exact k d _ (ErrN.mono s1 (errN_heap ha hd hda))
end
end Wq
set_option Elab.async false
set_option linter.all false
set_option maxRecDepth 100000
set_option maxHeartbeats 4000000
set_option exponentiation.threshold 9000
namespace Wq
open PySem PySem.Spec PyProof.Rows L2
open SX (S S_len S_cat S_beq_eq)
/-! all files -/
def nmR (r : Nat × Nat) : List (List Nat) := nEnds.map (nSg r.1) ++ (if 0 < r.2 then [nMf r.1 r.2] else [])
def nmF (rs : List (Nat × Nat)) : List (List Nat) := rs.flatMap nmR
theorem nmR_len (r : Nat × Nat) : (nmR r).length ≤ 5 := by
  unfold nmR
  rw [List.length_append, List.length_map]
  have : nEnds.length = 4 := rfl
  split
  · have : ([nMf r.1 r.2] : List (List Nat)).length = 1 := rfl
    omega
  · have : ([] : List (List Nat)).length = 0 := rfl
    omega
theorem nmF_len : ∀ rs : List (Nat × Nat), (nmF rs).length ≤ 5 * rs.length
  | [] => Nat.le_refl _
  | r :: rs => by
    have h1 := nmR_len r
    have h2 := nmF_len rs
    show (nmR r ++ nmF rs).length ≤ 5 * (rs.length + 1)
    rw [List.length_append]
    omega
theorem nmF_snoc {rs : List (Nat × Nat)} {i : Nat} {r : Nat × Nat} (h : rs[i]? = some r) : nmF (rs.take (i + 1)) = nmF (rs.take i) ++ nmR r := by
  have e1 : rs.take (i + 1) = rs.take i ++ [r] := by rw [List.take_add_one, h]; rfl
  unfold nmF
  rw [e1, List.flatMap_append]
  simp
abbrev sAF : Stmt := top 36
abbrev NAF : List Str := ["rows", "names", "segment", "turn"]
theorem scAF : FnScope NAF ["rows"] (defScope sAF) := ⟨rfl, rfl, rfl, by decide +kernel, rfl, by decide +kernel, by decide +kernel⟩
def spAF (K : PySem.W.Frag) : Sp := fun vs H Q _ => ∃ (r : Addr) (as : List Addr) (rs : List (Nat × Nat)), vs = [.ref r] ∧ SqL K H r (as.map V.ref) ∧ TupsAt H as rs ∧ rs.length ≤ 5 ∧ (∀ r ∈ rs, r.1 < 2 ^ 64 ∧ r.2 < 2 ^ 64) ∧
  ∀ (ys : List Str) t G, ys.Perm ((nmF rs).map S) → sortedS ys = true → Same H G → G t = some (.tup (ys.map V.str)) → Q (.ref t) G
section
variable {P : Program} {w : World} {K : PySem.W.Frag} {mg : Str → Option Value} {base : Heap}
theorem ok_AF (D : DefAt K mg "all_files" sAF) (T : Txt K mg) (T2 : TxtI2 mg) (CS : Cl P w K mg base 2 "segment_files" spSf) (CM : Cl P w K mg base 2 "marks_file" spMf) : Cl P w K mg base 3 "all_files" (spAF K) := by
  refine cl_of D scAF (fun vs H Q E h => ?_) (fun _ _ _ _ _ _ us hl => match us, hl with | [_], _ => rfl) (fun f cdv A outer s H vs Q E hr h => ?_)
  · obtain ⟨r, as, rs, rfl, _⟩ := h
    rfl
  · obtain ⟨r, as, rs, rfl, hS, hT, hl, hb, k⟩ := h
    refine ⟨_, pss_cons (ps_set (i := 1) scAF.nd rfl (Or.inl rfl) (pe_lst pa_nil))
(C8.pss_cut (ps_for PassesOwn.never rfl (pi_list (pv 0)) (pg_tup (by rfl) (pgs_cons (pg_name (i := 2) scAF.nd rfl (Or.inl rfl)) (pgs_cons (pg_name (i := 3) scAF.nd rfl (Or.inl rfl)) pgs_nil)))
(pss_cons (ps_expr (pe_bm PySem.F.plainAttrs_list PySem.F.slot_list_extend PySem.F.type_list_extend mt_extend (pv 1) (pa_cons (pe_callTy call_list_of (by rfl) (by exact T.list) (by decide +kernel) (pa_cons (pe_cl CS hr (by decide) rfl (pa_cons (pv 2) pa_nil)) pa_nil)) pa_nil)))
(pss_one (ps_if (pt_cmpR op_gt (pv 3) pe_int (nomark _))
(pss_one (ps_expr (pe_bm PySem.F.plainAttrs_list PySem.F.slot_list_append PySem.F.type_list_append mt_append (pv 1) (pa_cons (pe_cl CM hr (by decide) rfl (pa_cons (pv 2) (pa_cons (pv 3) pa_nil))) pa_nil))))
pss_nil))))
(pss_one (ps_ret (pe_callTy call_tuple_of (by rfl) (by exact T.tuple) (by decide +kernel) (pa_cons (pe_callB cr_sortL (by rfl) (by exact T2.sorted) (by decide +kernel) (pa_cons (pv 1) pa_nil)) pa_nil))))), ?_⟩
    refine ⟨Nat.zero_le _, fun l hl0 => ?_⟩
    have hl1 : upd H l (.lst []) l = some (.lst []) := upd_same
    have s0 : Same H (upd H l (.lst [])) := Same.new hl0
    generalize upd H l (.lst []) = H1 at hl1 s0
    refine ⟨fun σ G => ∃ x y, σ = [some (.ref r), some (.ref l), x, y] ∧ Same H G ∧ G l = some (.lst ((nmF rs).map fun t => V.str (S t))), ?_, ?_⟩
    · refine ⟨_, rfl, r, rfl, ⟨_, SqL_same hS s0⟩, for_list (K := K) (a := r) (xs := as.map V.ref) (fun i σ G => ∃ x y, σ = [some (.ref r), some (.ref l), x, y] ∧ Same H G ∧ G l = some (.lst ((nmF (rs.take i)).map fun t => V.str (S t))))
        ⟨none, none, rfl, s0, hl1⟩ (fun i σ G _ ⟨_, _, _, s, _⟩ => SqL_same hS s) ?_ ?_⟩
      · rintro i v σ G hv ⟨x, y, rfl, sg, hG⟩
        rw [List.getElem?_map] at hv
        cases ei : as[i]? with
        | none => rw [ei] at hv; cases hv
        | some ad =>
        rw [ei] at hv
        obtain rfl := Option.some.inj hv
        obtain ⟨u, t, er, had⟩ := hT.at_ i ad ei
        have hlt := hb (u, t) (List.mem_of_getElem? er)
        have hln := nmF_len (rs.take i)
        have hti : (rs.take i).length ≤ 5 := by rw [List.length_take]; omega
        refine ⟨ad, _, rfl, .inl (.inl (sg _ _ had)), rfl, _, _, rfl, _, _, rfl, rfl, ?_⟩
        refine ⟨_, rfl, .inl ⟨rfl, _, .inl (.inl hG)⟩, _, rfl, u, rfl, hlt.1, fun t1 G1 s1 h1 => ⟨t1, _, rfl, .inr (.inl (.inl h1)), fun b hb => ?_⟩⟩
        have s2 := s1.trans (Same.new (o := .lst ((nEnds.map (nSg u)).map fun t => V.str (S t))) hb)
        have hG2 := s2 _ _ hG
        have hb2 : upd G1 b (.lst ((nEnds.map (nSg u)).map fun t => V.str (S t))) b = some (.lst ((nEnds.map (nSg u)).map fun t => V.str (S t))) := upd_same
        generalize upd G1 b (.lst ((nEnds.map (nSg u)).map fun t => V.str (S t))) = G2 at s2 hG2 hb2
        have ne4 : (nEnds.map (nSg u)).length = 4 := by rw [List.length_map]; rfl
        refine ⟨l, b, _, _, rfl, rfl, hG2, hb2, by rw [List.length_map, List.length_map, ne4, sizeLine_eq]; omega, ?_⟩
        have hG3 : upd G2 l (.lst (((nmF (rs.take i)).map fun t => V.str (S t)) ++ (nEnds.map (nSg u)).map fun t => V.str (S t))) l = some (.lst ((nmF (rs.take i) ++ nEnds.map (nSg u)).map fun t => V.str (S t))) := by
          rw [upd_same, ← List.map_append]
        have s3 : Same H (upd G2 l (.lst (((nmF (rs.take i)).map fun t => V.str (S t)) ++ (nEnds.map (nSg u)).map fun t => V.str (S t)))) := fun b o e => by
          rw [upd_ne (ne_of_none e hl0)]
          exact (sg.trans s2) b o e
        generalize upd G2 l (.lst (((nmF (rs.take i)).map fun t => V.str (S t)) ++ (nEnds.map (nSg u)).map fun t => V.str (S t))) = G3 at hG3 s3
        refine ⟨_, rfl, _, _, rfl, rfl, _, rfl, ?_⟩
        refine ite2 (fun hgt => ?_) (fun hgt => ?_)
        · have hgt : 0 < t := by
            have : (t : Int) > 0 := of_decide_eq_true hgt
            omega
          refine ⟨_, rfl, .inl ⟨rfl, _, .inl (.inl hG3)⟩, _, rfl, _, rfl, u, t, rfl, hlt.1, hlt.2, l, _, _, rfl, rfl, hG3, ?_, _, _, rfl, fun b o e => ?_, ?_⟩
          · rw [List.length_map, List.length_append, ne4, sizeLine_eq]
            omega
          · rw [upd_ne (ne_of_none e hl0)]
            exact s3 b o e
          · rw [upd_same, nmF_snoc er]
            unfold nmR
            rw [if_pos hgt, ← List.append_assoc, List.map_append (l₂ := [nMf (u, t).1 (u, t).2])]
            rfl
        · have hgt : ¬ 0 < t := fun z => hgt (decide_eq_true (show (t : Int) > 0 by omega))
          refine ⟨_, _, rfl, s3, ?_⟩
          rw [hG3, nmF_snoc er]
          unfold nmR
          rw [if_neg hgt, List.append_nil]
      · rintro σ G ⟨x, y, rfl, sg, hG⟩
        rw [List.length_map, hT.len, List.take_length] at hG
        exact ⟨x, y, rfl, sg, hG⟩
    rintro σ G ⟨x, y, rfl, sg, hG⟩
    refine ⟨_, rfl, l, (nmF rs).map S, rfl, .inl (.inl (.inl (by rw [List.map_map]; exact hG))), by rw [List.length_map]; have := nmF_len rs; omega, fun ys q hys hs hq => ?_⟩
    refine ⟨q, _, rfl, .inl ⟨.inl (.inl upd_same), fun ta hta => ?_⟩⟩
    exact k ys ta _ hys hs (sg.trans ((Same.new hq).trans (Same.new hta))) upd_same
end
end Wq
set_option Elab.async false
set_option linter.all false
set_option maxRecDepth 100000
set_option maxHeartbeats 3200000
/-! sets of texts that are walked -/
namespace TX
open PySem PySem.Spec PyProof.Rows L2
abbrev kn (P : Program) (w : World) := PySem.strKind P w
def kS (e : Int × Value) : Str := match e.2 with
  | .str k _ => k
  | _ => Str.empty
def OkE (w : World) (e : Int × Value) : Prop := ∃ k u, e.2 = Value.str k u ∧ e.1 = hashStr w k
/-- the set of texts at a: M tells its members, n how many -/
def TSet (w : World) (h : Heap) (a : Addr) (M : Str → Bool) (n : Nat) : Prop :=
  ∃ ob es ep t, h.get? a = some ob ∧ ob.ExactSet ∧ ob.data = .set es ep t ∧ (∀ e ∈ es.toList, OkE w e) ∧ (es.toList.map kS).Nodup ∧ (∀ k, M k = true ↔ k ∈ es.toList.map kS) ∧
    es.size < scanBound ∧ t.fits es.size = true ∧ es.size = n ∧ Ris t.place.toList ∧ (w.params.followText "set-order" = true ∨ t.led = true)
section
variable {P : Program} {w : World} {h h' : Heap} {a : Addr} {M : Str → Bool} {n : Nat}
theorem TSet.keep (R : TSet w h a M n) (k : ∀ ob, h.get? a = some ob → h'.get? a = some ob) : TSet w h' a M n := by
  obtain ⟨ob, es, ep, t, e0, r⟩ := R
  exact ⟨ob, es, ep, t, k ob e0, r⟩
theorem TSet.as {M' : Str → Bool} (R : TSet w h a M n) (e : ∀ k, M' k = M k) : TSet w h a M' n := by
  obtain rfl : M' = M := funext e
  exact R
theorem ok_elems {l : List (Int × Value)} (g : ∀ e ∈ l, OkE w e) : ElemsOf (kn P w) l := fun e he => by
  obtain ⟨k, u, q1, q2⟩ := g e he
  refine ⟨⟨k, ?_, q2⟩, by rw [q1] <;> rfl⟩
  rw [q1]
  exact PySem.strKind_is P w k u
theorem ok_is {e : Int × Value} (g : OkE w e) (k : Str) : (kn P w).is k e.2 = true ↔ kS e = k := by
  obtain ⟨k0, u, q1, _⟩ := g
  unfold kS
  rw [q1]
  constructor
  · intro z
    have z : Value.isStrOf k (.str k0 u) = true := z
    obtain ⟨v, q⟩ := Value.isStrOf_shape z
    injection q
  · intro z
    have z : k0 = k := z
    rw [← z]
    exact PySem.strKind_is P w k0 u
theorem ok_mem {l : List (Int × Value)} (g : ∀ e ∈ l, OkE w e) (k : Str) : k ∈ l.map kS ↔ ∃ e ∈ l, (kn P w).is k e.2 = true := by
  rw [List.mem_map]
  exact ⟨fun ⟨e, he, q⟩ => ⟨e, he, (ok_is (g e he) k).2 q⟩, fun ⟨e, he, q⟩ => ⟨e, he, (ok_is (g e he) k).1 q⟩⟩
end
section
variable {P : Program} {w : World} {B : Around} {E : Value → Shared → Prop} {z : Shared} {a : Addr} {M : Str → Bool} {n : Nat}
theorem put_tail {gv : Bool → Sem Unit} (hgv : ∀ (b : Bool) (z1 : Shared) (Q' : Unit → Shared → Prop), Q' () z1 → wpAny (model P w) B (gv b) Q' E z1)
    {ob : Obj} {es : Array (Int × Value)} {ep : Nat} {t : SetTable} (e0 : z.heap.get? a = some ob) (ex : ob.ExactSet) (e1 : ob.data = .set es ep t)
    {fs : Array (Int × Value)} {t2 : SetTable} {N : Str → Bool} (g1 : ∀ e ∈ fs.toList, OkE w e) (n1 : (fs.toList.map kS).Nodup) (m1 : ∀ k, N k = true ↔ k ∈ fs.toList.map kS)
    (b1 : fs.size < scanBound) (f2 : t2.fits fs.size = true) (r2 : Ris t2.place.toList) (l2 : w.params.followText "set-order" = true ∨ t2.led = true) {wd : Bool} {R : Option Bool → Shared → Prop}
    (hR : ∀ h', Heap.SameBut a z.heap h' → TSet w h' a N fs.size → R (some true) { z with heap := h' }) :
    wpAny (model P w) B (do
        storeSet a fs t2
        if (!wd && t2.tooFull) = true then do
            gv (relayAll t2 fs (SetTable.grown fs.size)).2.2
            storeSet a (relayAll t2 fs (SetTable.grown fs.size)).1 (relayAll t2 fs (SetTable.grown fs.size)).2.1
            pure (some true)
          else pure (some true)) R E z := by
  refine wpAny_bind (wpAny_storeSet_of e0 e1 ?_ (fits_of_scanBound b1))
  have o1 := store_at (es' := fs) (t' := t2) e0 e1
  have q1 := Heap.SameBut.update z.heap a (Obj.putSet fs t2)
  split
  · have pm := relayAll_perm t2 fs (SetTable.grown fs.size)
    have f3 := relayAll_fits t2 fs (SetTable.grown fs.size)
    have r3 := relayAll_ris t2 fs (SetTable.grown fs.size)
    have l3 := relayAll_led t2 fs (SetTable.grown fs.size)
    generalize relayAll t2 fs (SetTable.grown fs.size) = Y at pm f3 r3 l3 ⊢
    obtain ⟨gs, t3, gave⟩ := Y
    dsimp only at pm f3 r3 l3 ⊢
    have sz : gs.size = fs.size := by
      have := pm.length_eq
      rw [Array.length_toList, Array.length_toList] at this
      exact this
    have b2 : gs.size < scanBound := sz ▸ b1
    refine wpAny_bind (hgv _ _ _ ?_)
    refine wpAny_bind (wpAny_storeSet_of o1 rfl ?_ (fits_of_scanBound b2))
    have o2 := store_at (es' := gs) (t' := t3) o1 rfl
    refine wpAny_pure (hR _ (q1.trans (Heap.SameBut.update _ a _)) ⟨_, gs, _, t3, o2, ex, rfl, ?_, ?_, ?_, b2, f3, sz, r3, ?_⟩)
    · exact fun e he => g1 e (pm.mem_iff.mp he)
    · exact (pm.map kS).nodup_iff.mpr n1
    · exact fun k => (m1 k).trans (pm.map kS).mem_iff.symm
    · exact l2.imp id fun q => by rw [l3]; exact q
  · exact wpAny_pure (hR _ q1 ⟨_, fs, _, t2, o1, ex, rfl, g1, n1, m1, b1, f2, rfl, r2, l2⟩)
theorem put_hashed {k : Str} {u : Tok} {Q : Bool → Shared → Prop} (R : TSet w z.heap a M n) (room : n + 1 < scanBound)
    (hQ : ∀ h', Heap.SameBut a z.heap h' → TSet w h' a (fun j => M j || decide (j = k)) (if M k = true then n else n + 1) → Q (!M k) { z with heap := h' }) :
    wpAny (model P w) B (setAddHashed a (.str k u) ((kn P w).hash k)) Q E z := by
  obtain ⟨ob, es, ep, t, e0, ex, e1, g, nd, hm, hb, hf, hn, hr, hl⟩ := R
  have isk : (kn P w).is k (.str k u) = true := PySem.strKind_is P w k u
  have sc : (Value.str k u).scannable = true := rfl
  have els : ElemsOf (kn P w) es.toList := ok_elems g
  unfold setAddHashed setAddHashedIn
  refine wpAny_holding (wpAny_bind (wpAny_setState_of e0 e1 hf ?_))
  dsimp only
  rw [byScan_of sc hb els]
  simp only [↓reduceIte]
  unfold setAddByScan
  refine wpAny_bind (wpAny_bind (wpAny_rule ?_))
  refine wpAny_bind (wpAny_setScan_of isk e0 e1 hf els ?_)
  cases fi : List.findIdx? (fun e => (kn P w).is k e.2) es.toList with
  | some j =>
    dsimp only
    obtain ⟨hj, pj, _⟩ := List.findIdx?_eq_some_iff_getElem.mp fi
    have Mk : M k = true := (hm k).2 ((ok_mem (P := P) (w := w) g k).2 ⟨es.toList[j], List.getElem_mem hj, pj⟩)
    refine wpAny_pure (wpAny_pure ?_)
    have q := hQ z.heap (Heap.SameBut.refl a z.heap) ⟨ob, es, ep, t, e0, ex, e1, g, nd, fun i => by
      rw [Bool.or_eq_true, decide_eq_true_eq, ← hm i]
      exact ⟨fun y => y.elim id (fun e => e ▸ Mk), .inl⟩, hb, hf, by rw [if_pos Mk]; exact hn, hr, hl⟩
    rw [Mk] at q
    exact q
  | none =>
    dsimp only
    have nk : k ∉ es.toList.map kS := fun y => by
      obtain ⟨e, he, q⟩ := (ok_mem (P := P) (w := w) g k).1 y
      have c := List.findIdx?_eq_none_iff.mp fi e he
      rw [q] at c
      cases c
    have Mk : M k = false := by
      cases q : M k with
      | false => rfl
      | true => exact absurd ((hm k).1 q) nk
    have gives : ∀ (b : Bool) {z1 : Shared} {Q' : Unit → Shared → Prop}, Q' () z1 → wpAny (model P w) B (match b with | true => rule "set.scan.the-table-gave-way" | false => pure ()) Q' E z1 :=
      fun b z1 Q' q => by cases b <;> first | exact wpAny_pure q | exact wpAny_rule q
    have pm := layNew_perm t es ((kn P w).hash k) (.str k u)
    have f1 := layNew_fits t es ((kn P w).hash k) (.str k u)
    have r1 := layNew_ris t es ((kn P w).hash k) (.str k u) hr
    have l1 := layNew_led t es ((kn P w).hash k) (.str k u)
    generalize layNew t es ((kn P w).hash k) (.str k u) = Y at pm f1 r1 l1 ⊢
    obtain ⟨fs, t1, wd, gave⟩ := Y
    dsimp only at pm f1 r1 l1 ⊢
    rw [Array.toList_push] at pm
    have pc : fs.toList.Perm (((kn P w).hash k, Value.str k u) :: es.toList) := pm.trans (List.perm_append_singleton _ _)
    have pk : (fs.toList.map kS).Perm (k :: es.toList.map kS) := pc.map kS
    have g1 : ∀ e ∈ fs.toList, OkE w e := fun e he => by
      rcases List.mem_cons.mp (pc.mem_iff.mp he) with y | y
      · rw [y]
        exact ⟨k, u, rfl, rfl⟩
      · exact g e y
    have n1 : (fs.toList.map kS).Nodup := pk.nodup_iff.mpr (List.nodup_cons.mpr ⟨nk, nd⟩)
    have m1 : ∀ i, (M i || decide (i = k)) = true ↔ i ∈ fs.toList.map kS := fun i => by
      rw [Bool.or_eq_true, decide_eq_true_eq, hm i, pk.mem_iff, List.mem_cons]
      exact Or.comm
    have sz : fs.size = n + 1 := by
      have := pc.length_eq
      rw [List.length_cons, Array.length_toList, Array.length_toList, hn] at this
      exact this
    have b1 : fs.size < scanBound := sz ▸ room
    have led : w.params.followText "set-order" = true ∨ t1.led = true := hl.imp id fun y => by rw [l1]; exact y
    have fin : ∀ h', Heap.SameBut a z.heap h' → TSet w h' a (fun j => M j || decide (j = k)) fs.size → Q true { z with heap := h' } := fun h' sb r => by
      have q := hQ h' sb
      rw [Mk] at q
      rw [sz] at r
      exact q r
    refine wpAny_bind (gives _ ?_)
    split
    · refine wpAny_bind ?_
      rw [hashByValue_scannable 8 sc]
      refine wpAny_pure ?_
      refine put_tail ?_ e0 ex e1 g1 n1 m1 b1 ?_ ?_ ?_ ?_
      · intro b z1 Q' q
        cases b <;> first | exact wpAny_pure q | exact wpAny_rule q
      · first | (split <;> first | exact f1 | exact SetTable.fits_plain_off f1) | exact f1
      · first | (split <;> exact r1) | exact r1
      · first | (split <;> exact led) | exact led
      · intro h' sb r
        dsimp only
        exact wpAny_pure (fin h' sb r)
    · refine wpAny_bind (wpAny_pure ?_)
      simp only [↓reduceIte]
      refine put_tail ?_ e0 ex e1 g1 n1 m1 b1 f1 r1 led ?_
      · intro b z1 Q' q
        cases b <;> first | exact wpAny_pure q | exact wpAny_rule q
      · intro h' sb r
        dsimp only
        exact wpAny_pure (fin h' sb r)
theorem tset_new {h : Heap} (e : h.get? a = some { cls := .type "set", dict := none, data := .set #[] 0 (.fresh 0 0 (!w.params.followText "set-order")) }) : TSet w h a (fun _ => false) 0 := by
  refine ⟨_, #[], 0, _, e, ⟨rfl, rfl, rfl⟩, rfl, (fun e he => by simp at he), (by simp), (fun k => by simp), (by decide), (by rfl), rfl, List.Pairwise.nil, ?_⟩
  cases q : w.params.followText "set-order"
  · exact .inr rfl
  · exact .inl rfl
end
end TX
set_option Elab.async false
set_option linter.all false
set_option maxRecDepth 100000
set_option maxHeartbeats 3200000
/-! set(texts), sorted(set) -/
namespace TX
open PySem PySem.Spec PyProof.Rows L2
section
variable {P : Program} {w : World} {B : Around} {E : Value → Shared → Prop} {z : Shared}
/-- the texts that were put in so far -/
def Has (w : World) (h : Heap) (a : Addr) (xs : List Str) : Prop := ∃ n, n ≤ xs.length ∧ TSet w h a (fun k => decide (k ∈ xs)) n
theorem Has.keep {h h' : Heap} {a : Addr} {xs : List Str} (R : Has w h a xs) (k : ∀ ob, h.get? a = some ob → h'.get? a = some ob) : Has w h' a xs := by
  obtain ⟨n, l, r⟩ := R
  exact ⟨n, l, r.keep k⟩
theorem texts_in {I : Addr} {fp wr : List Addr} {G : Array GenState → Array GenState → Prop} {n : Nat} {Pv : Nat → Value → Prop} {St : Nat → Shared → Prop} {R : Result → Shared → Prop}
    (W : WalksS P w B.in1 I fp wr G n Pv St) (T : Addr) (nT : T ∉ fp) (xs : List Str) (hn : n = xs.length) (few : xs.length < 64) (val : ∀ i v, Pv i v → ∃ x u, xs[i]? = some x ∧ v = .str x u)
    (h0 : Heap) (t0 : h0.get? T = none) (w0 : ∀ b ∈ wr, h0.get? b = none) :
    ∀ (k i : Nat) (z : Shared), n - i = k → i ≤ n → St i z → (∀ b ob, h0.get? b = some ob → z.heap.get? b = some ob) → Has w z.heap T (xs.take i) →
      (∀ z', Moved (T :: wr) G z z' → Has w z'.heap T xs → (∀ b ob, h0.get? b = some ob → z'.heap.get? b = some ob) → R (.ok (.ret .none)) z') →
      codeAny (model P w) B (.builtin "set.update.loop" ⟨[.ref T, .ref I], []⟩) R z := by
  have nTw : T ∉ wr := fun h => nT (W.sub _ h)
  have up : ∀ b ∈ wr, b ∈ T :: wr := fun b hb => List.mem_cons_of_mem _ hb
  have kept : ∀ {z z' : Shared}, Moved wr G z z' → (∀ b ob, h0.get? b = some ob → z.heap.get? b = some ob) → ∀ b ob, h0.get? b = some ob → z'.heap.get? b = some ob := fun hm hk b ob e =>
    hm.heap b ob (fun hb => by rw [w0 b hb] at e; cases e) (hk b ob e)
  intro k
  induction k with
  | zero =>
    intro i z hk hi hst hkp hS hR
    obtain rfl : i = n := by omega
    refine codeAny_builtin F.entry_set_update_loop ?_
    rw [Around.under_plainId F.plain_set_update_loop _]
    show wpAny _ B.in1 (pyNext (.ref I) >>= _) _ _ z
    refine wpAny_bind (W.done z _ _ hst fun z' hm => ?_)
    show wpAny _ B.in1 (ret Value.none) _ _ z'
    rw [hn, List.take_length] at hS
    exact wpAny_pure (hR z' (hm.mono up) (hS.keep fun ob e => hm.heap T ob nTw e) (kept hm hkp))
  | succ k ih =>
    intro i z hk hi hst hkp hS hR
    have lt : i < n := by omega
    refine codeAny_builtin F.entry_set_update_loop ?_
    rw [Around.under_plainId F.plain_set_update_loop _]
    show wpAny _ B.in1 (pyNext (.ref I) >>= _) _ _ z
    refine wpAny_bind (W.item i z _ _ lt hst fun v z' hP hst' hm => ?_)
    obtain ⟨x, u, hx, rfl⟩ := val i v hP
    obtain ⟨m, lm, hT⟩ := hS.keep (h' := z'.heap) fun ob e => hm.heap T ob nTw e
    have kp := kept hm hkp
    show wpAny _ B.in1 (holding [Value.str x u] (setAdd T (.str x u)) >>= _) _ _ z'
    refine wpAny_bind (wpAny_holding ?_)
    unfold setAdd
    refine wpAny_holding ?_
    refine wpAny_bind ((kn P w).pyHash (k := x) (PySem.strKind_is P w x u) ?_)
    rw [List.length_take] at lm
    refine put_hashed (z := { z' with toks := z'.toks + 1 }) hT (by unfold scanBound; omega) fun h' sb hS2 => ?_
    have hS3 : Has w h' T (xs.take (i + 1)) := by
      refine ⟨_, ?_, hS2.as fun k => ?_⟩
      · rw [List.length_take]
        split <;> omega
      · rw [List.take_add_one, hx]
        simp only [Option.toList, List.mem_append, List.mem_singleton]
        by_cases h1 : k ∈ xs.take i <;> by_cases h2 : k = x <;> simp [h1, h2]
    refine wpAny_pure ⟨plainId_quiet F.plain_set_update_loop _, ih (i + 1) _ (by omega) lt (W.frame _ z' _ _ hst' (Nat.le_succ _) fun b hb ob e => ?_) (fun b ob e => ?_) hS3 fun z2 hm2 hS4 kp2 => ?_⟩
    · rw [sb.2 b (fun h : b = T => nT (by rw [← h]; exact hb))]
      exact e
    · rw [sb.2 b (fun h : b = T => by rw [h, t0] at e; cases e)]
      exact kp b ob e
    · refine hR z2 (Moved.trans W.gtrans ((hm.mono up).then_heap (Nat.le_succ _) fun b ob hb e => ?_) hm2) hS4 kp2
      rw [sb.2 b (fun h : b = T => hb (by rw [h]; exact List.mem_cons_self))]
      exact e
def newS (w : World) : Obj := { cls := .type "set", dict := none, data := .set #[] 0 (.fresh 0 0 (!w.params.followText "set-order")) }
/-- set(xs), xs a list of texts -/
theorem set_of_texts {l : Addr} {its : Array Value} {xs : List Str} {Q : Value → Shared → Prop} (hh : B.handled = none) (hl : z.heap.IsList l its) (hi : PyProof.Rows.StrsAre its.toList xs) (few : xs.length < 64)
    (k : ∀ (h' : Heap) (tk : Nat), Has w h' z.heap.objs.size xs → (∀ b ob, z.heap.get? b = some ob → h'.get? b = some ob) → Q (.ref z.heap.objs.size) { z with heap := h', toks := tk }) :
    wpAny (model P w) B (call (.type "set") [.ref l]) Q E z := by
  obtain ⟨hp, g, d, tk0, os⟩ := z
  have hlen : its.size = xs.length := by
    have := hi.length
    rw [Array.length_toList] at this
    exact this
  obtain ⟨cc, tl, hmro⟩ := PySem.F.called_set.mro
  have made := PySem.F.called_set.made
  have subs := PySem.F.called_set.sub
  have g1 := PySem.F.called_set.notType
  have g2 := PySem.F.called_set.canCreate
  have g3 := PySem.F.typeCall_set_1 (.ref l)
  have q0 : (Code.builtin "type.__call__" ⟨[.type "set", .ref l], []⟩).quiet = true := Code.quiet_builtin _ (by decide +kernel)
  refine wpAny_call (codeAny_of_tree (show wpAny _ _ (callAny (.type "set") ⟨[.ref l], []⟩) _ _ _ from wpAny_pure ⟨q0, codeAny_builtin PySem.F.entry_type_call ?_⟩))
  rw [Around.under_plain (weight_type_call_type "set" [.ref l] []) rfl]
  repeat (any_goals (first | assumption | wp_step))
  refine codeAny_mono (code_set_led1 (.ref l) (E := E) (Q₁ := fun v s1 => v = .ref hp.objs.size ∧ s1 = ⟨hp.push (newS w), g, d, tk0, os⟩) ⟨rfl, rfl⟩) fun r s1 hr => ?_
  match r, hr with
  | .error e, hr => exact hr
  | .ok (.ret obj), hr =>
    obtain ⟨rfl, rfl⟩ := hr
    have e0 : (hp.push (newS w)).get? hp.objs.size = some (newS w) := Heap.get?_push_size _ rfl
    have tS : (⟨hp.push (newS w), g, d, tk0, os⟩ : Shared).TypeIs (.ref hp.objs.size) "set" := ⟨_, e0, rfl⟩
    have i1 := PySem.F.called_set.init.lookup
    have i2 := PySem.F.called_set.init.bind (.ref hp.objs.size)
    repeat (any_goals (first | assumption | wp_step))
    refine codeAny_mono (codeAny_call_builtin (R := wants (fun v s2 => v = .none ∧ ∃ h' tk, s2 = ⟨h', g, d, tk, os⟩ ∧ Has w h' hp.objs.size xs ∧ ∀ b ob, hp.get? b = some ob → h'.get? b = some ob) E)
      PySem.F.called_set.init.plain PySem.F.entry_set_init (check_set_init_1 tS ?_)) fun r2 s2 hr2 => ?_
    · obtain ⟨⟨oc, od, da, osl⟩, ol, ec, nl, ed⟩ := hl
      simp only at ec ed
      subst ec
      subst ed
      have ol1 : (hp.push (newS w)).get? l = some { cls := .type "list", dict := od, data := .seq its nl, slots := osl } := Heap.get?_push_of_some _ ol
      have k1 := PySem.F.sub_list_set
      have k2 := PySem.F.sub_list_frozenset
      have k3 : (Value.type "list" == Value.type "dict") = false := by decide
      have hl1 : (hp.push (newS w)).IsList l its := ⟨_, ol1, rfl, nl, rfl⟩
      unfold Builtin.«set.__init__» noKeywords Builtin.Frozenset.updateFrom
      generalize ePI : pyIter = PI
      wp_walk
      subst ePI
      refine wpAny_pyIter_list hl1 ?_
      refine wpAny_bind (wpAny_runValue ?_)
      have lS : l < hp.objs.size := Heap.lt_size ol
      have hh3 : B.in1.in1.in1.handled = none := by simp [hh]
      have sz1 : (hp.push (newS w)).objs.size = hp.objs.size + 1 := Heap.size_push ..
      have nI : l ≠ (hp.push (newS w)).objs.size := by rw [sz1]; exact Nat.ne_of_lt (Nat.lt_succ_of_lt lS)
      have nF : hp.objs.size ∉ [(hp.push (newS w)).objs.size, l] := by
        rw [sz1]
        simp only [List.mem_cons, List.mem_singleton, List.not_mem_nil, or_false, not_or]
        exact ⟨Nat.ne_of_lt (Nat.lt_succ_self _), (Nat.ne_of_lt lS).symm⟩
      have none_of : ∀ b, hp.objs.size ≤ b → hp.get? b = none := fun b hb => by
        cases q : hp.get? b with
        | none => rfl
        | some ob => exact absurd (Nat.lt_of_lt_of_le (Heap.lt_size q) hb) (Nat.lt_irrefl _)
      have vals : ∀ (i : Nat) (v : Value), its[i]? = some v → ∃ x u, xs[i]? = some x ∧ v = .str x u := fun i v hv => by
        have hv' : its.toList[i]? = some v := by rw [Array.getElem?_toList]; exact hv
        obtain ⟨u, e⟩ := SS.strs_at hi i v hv'
        have li : i < xs.length := by
          have : i < its.toList.length := (List.getElem?_eq_some_iff.mp hv').1
          rw [Array.length_toList, hlen] at this
          exact this
        refine ⟨xs[i], u, List.getElem?_eq_getElem li, ?_⟩
        rw [e, List.getD_eq_getElem?_getD, List.getElem?_eq_getElem li]
        rfl
      refine texts_in ((Walks.list hh3 _ l nI its).toS) hp.objs.size nF xs hlen few vals hp (none_of _ (Nat.le_refl _)) (fun b hb => none_of b (by rw [List.mem_singleton.mp hb, sz1]; omega)) (its.size - 0) 0 _ (by omega) (Nat.zero_le _)
        ⟨⟨_, Heap.get?_push_size _ rfl, rfl, rfl⟩, (hl1.push _)⟩ (fun b ob e => Heap.get?_push_of_some _ (Heap.get?_push_of_some _ e)) ?fst ?snd
      case fst => exact ⟨0, Nat.zero_le _, (tset_new (Heap.get?_push_of_some _ e0)).as fun k => by simp⟩
      case snd =>
        intro z2 hm hS kp
        obtain ⟨h2, gg, dd, tk2, oo⟩ := z2
        obtain rfl : gg = g := hm.gens
        obtain rfl : dd = d := hm.drawn
        obtain rfl : oo = os := hm.os
        show wpAny _ _ _ _ _ _
        refine wpAny_pure ?_
        show wpAny _ _ (ret Value.none) _ _ _
        exact wpAny_pure ⟨rfl, h2, tk2, rfl, hS, kp⟩
    · match r2, hr2 with
      | .error e, hr2 => exact hr2
      | .ok (.ret r), hr2 =>
        obtain ⟨rfl, h', tk, rfl, hS, kp⟩ := hr2
        repeat (any_goals (first | assumption | wp_step))
        exact k _ _ hS kp
      | .ok .next, hr2 => exact hr2.elim
      | .ok .brk, hr2 => exact hr2.elim
      | .ok .cont, hr2 => exact hr2.elim
  | .ok .next, hr => exact hr.elim
  | .ok .brk, hr => exact hr.elim
  | .ok .cont, hr => exact hr.elim
end
end TX
set_option Elab.async false
set_option linter.all false
set_option maxRecDepth 100000
set_option maxHeartbeats 3200000
/-! sorted(set of texts); both as rules -/
namespace TX
open PySem PySem.Spec PyProof.Rows L2
def txV : Value → Str
  | .str x _ => x
  | _ => Str.empty
theorem strs_txV : ∀ (l : List Value), (∀ v ∈ l, ∃ x u, v = Value.str x u) → PyProof.Rows.StrsAre l (l.map txV)
  | [], _ => .nil
  | v :: l, h => by
    obtain ⟨x, u, rfl⟩ := h v List.mem_cons_self
    exact .cons x u (strs_txV l fun v hv => h v (List.mem_cons_of_mem _ hv))
section
variable {P : Program} {w : World} {B : Around} {E : Value → Shared → Prop} {z : Shared} {a : Addr}
theorem sorted_texts {M : Str → Bool} {n : Nat} {Q : Value → Shared → Prop} (R : TSet w z.heap a M n) (hh : B.handled = none) (h64 : n < 64)
    (hQ : ∀ z' p (out : Array Value) (c : Nat) (ns : List Str), (∀ b ob, z.heap.get? b = some ob → z'.heap.get? b = some ob) → z'.gens = z.gens → z'.os = z.os → z.heap.objs.size ≤ p →
      z'.heap.get? p = some (seqObj "list" out c) → PyProof.Rows.StrsAre out.toList ns → sortedS ns = true → ns.Nodup → (∀ k, k ∈ ns ↔ M k = true) → ns.length = n → Q (.ref p) z') :
    wpAny (model P w) B (call (.builtin "sorted") [.ref a]) Q E z := by
  obtain ⟨ob, es, ep, t, e0, ex, e1, g, nd, hm, hb, hf, hn, hr, hl⟩ := R
  refine Calls.call_function_entry kind_sorted plain_sorted entry_sorted (args_sorted1 _) ?_
  unfold Builtin.«sorted»
  apply wpAny_bind (m := checkCount "sorted" 1 1 _); apply wpAny_pure
  apply wpAny_bind; refine collect_set (A := B.in1) hh ⟨ob, e0, ex.1, e1⟩ hf hb hr hl fun z1 vs k1 sz g1 o1 pm => ?_
  have vl : vs.length = n := by
    exact (pm.length_eq.trans (List.length_map _)).trans (Array.length_toList.trans hn)
  have hI : PyProof.Rows.StrsAre vs (vs.map txV) := strs_txV vs fun v hv => by
    obtain ⟨e, he, q⟩ := List.mem_map.mp (pm.mem_iff.mp hv)
    obtain ⟨k, u, q1, _⟩ := g e he
    exact ⟨k, u, by rw [← q]; exact q1⟩
  have pk : (vs.map txV).Perm (es.toList.map kS) := by
    have q := pm.map txV
    rw [List.map_map] at q
    have e : es.toList.map (txV ∘ fun e => e.2) = es.toList.map kS := List.map_congr_left fun e he => by
      obtain ⟨k, u, q1, _⟩ := g e he
      show txV e.2 = kS e
      unfold kS
      rw [q1]
      rfl
    rw [e] at q
    exact q
  apply wpAny_bind; refine wpAny_newList ?_ (by rw [vl, sizeLine_eq]; omega)
  have eL : (z1.heap.push (seqObj "list" vs.toArray 0)).get? z1.heap.objs.size = some (seqObj "list" vs.toArray 0) := Heap.get?_push_size _ rfl
  apply wpAny_bind; apply wpAny_holding
  refine wpAny_call_entry slot_list_sort ⟨_, eL, rfl⟩ entry_list_sort (list_sort_treeK strKind_oneLt eL hI.keysOf (fun v₁ v₂ rest e => keyKind_strs (by rw [← e]; exact hI)) (by rw [vl]; exact h64) fun st q1 q2 => ⟨_, rfl, ?_⟩) (args_list_sort _)
  obtain ⟨ys, p1, p2, p3⟩ := sorted_out_str hI q1 q2
  obtain ⟨c, hc⟩ := sortedHeap_at (vs := vs) (out := (arrOf st).map (·.2)) eL
  have pn : ys.Perm (es.toList.map kS) := p2.trans pk
  refine wpAny_pure ⟨_, rfl, hQ _ z1.heap.objs.size _ c ys (fun b u e => ?_) g1 o1 sz hc p1 p3 (pn.nodup_iff.mpr nd) (fun k => by rw [pn.mem_iff, ← hm k]) ?_⟩
  · have q := k1 b u e
    have lt := Heap.lt_size q
    show (sortedHeap (z1.heap.push (seqObj "list" vs.toArray 0)) z1.heap.objs.size vs ((arrOf st).map (·.2))).get? b = some u
    rw [sortedHeap_old (Nat.ne_of_lt lt) (by rw [size_push']; exact Nat.lt_succ_of_lt lt)]
    exact Heap.get?_push_of_some _ q
  · exact (pn.length_eq.trans (List.length_map _)).trans (Array.length_toList.trans hn)
end
/-- the set of some texts -/
def SetX (w : World) (a : Addr) (xs : List Str) : HO := .ext fun h => Has w h a xs
theorem setX_ok {P : Program} {w : World} {H : Hp} {h : Heap} {a : Addr} {xs : List Str} (R : Has w h a xs) : ObjOk P w H h a (SetX w a xs) := by
  have ⟨n, _, ob, _, _, _, e0, _⟩ := R
  exact ⟨R, ⟨ob, e0⟩, fun h1 h2 p k => Has.keep p k⟩
section
variable {X : Cx}
def rSetX (K : PySem.W.Frag) (w : World) : List V → Hp → VK → Prop := fun vs H Q => ∃ (l : Addr) (xs : List Str), vs = [V.ref l] ∧ SqL K H l (xs.map V.str) ∧ xs.length < 64 ∧ ∀ a, H a = none → Q (.ref a) (upd H a (SetX w a xs))
theorem cr_setX (hc : X.calm = true) : CallR X (.type "set") (rSetX X.K X.w) := by
  intro pins s σ H vs us Q I r h
  obtain ⟨l, xs, rfl, hs, h64, q⟩ := h
  obtain ⟨its, rv, hl, _⟩ := I.list hs
  rw [Vals.ref1 r]
  refine set_of_texts (I.ok.hd hc) hl.isList rv.strs h64 fun h' tk hS hk => ?_
  exact ⟨.ref _, _, I.laid (t' := tk) hk (Nat.le_refl _) (setX_ok hS), rfl, q _ (I.hok.fresh (Nat.le_refl _))⟩
def rSortX (w : World) : List V → Hp → VK → Prop := fun vs H Q => ∃ (a : Addr) (xs : List Str), vs = [V.ref a] ∧ H a = some (SetX w a xs) ∧ xs.length < 64 ∧
  ∀ (ys : List Str) (p : Addr), sortedS ys = true → ys.Nodup → (∀ k, k ∈ ys ↔ k ∈ xs) → H p = none → Q (.ref p) (upd H p (.lst (ys.map V.str)))
theorem cr_sortX (hc : X.calm = true) : CallR X (.builtin "sorted") (rSortX X.w) := by
  intro pins s σ H vs us Q I r h
  obtain ⟨a, xs, rfl, ha, h64, q⟩ := h
  have R : Has X.w s.heap a xs := (show ObjOk X.prog X.w H s.heap a (.ext fun h => Has X.w h a xs) from I.hok a _ ha).1
  obtain ⟨n, hn, R⟩ := R
  rw [Vals.ref1 r]
  refine sorted_texts R (I.ok.hd hc) (by omega) fun z' p out c ns k g o hp hg hi hs hd hm hl => ?_
  have hlen : (ns.map V.str).length ≤ sizeLine := by rw [List.length_map, hl, sizeLine_eq]; omega
  have hf : H p = none := I.hok.fresh hp
  have J : Inv X pins σ (upd H p (.lst (ns.map V.str))) { s with heap := z'.heap, gens := z'.gens, drawn := z'.drawn, toks := z'.toks } :=
    I.call (ch := []) (Un.laid k hp hf) (I.hok.laid k hp ⟨hlen, out.toList, c, vals_of_strs hi, hg⟩) (by rw [g]; exact I.bare) (fun _ z => nomatch z)
  have e : z' = { s with heap := z'.heap, gens := z'.gens, drawn := z'.drawn, toks := z'.toks } := by
    cases z'
    cases s
    cases o
    rfl
  rw [e]
  exact ⟨.ref p, _, J, rfl, q ns p hs hd (fun k => by rw [hm k, decide_eq_true_eq]) hf⟩
end
end TX
set_option Elab.async false
set_option linter.all false
set_option maxRecDepth 100000
set_option maxHeartbeats 4000000
set_option exponentiation.threshold 9000
namespace Wq
open PySem PySem.Spec PyProof.Rows L2
open LamX (ExtN Tabs TabS TabB CodeO)
/-! what is kept, where lambdas are made -/
theorem Tabs.but {T : List (Addr × Str)} {p : Addr} {H G : Hp} {kvs : List (Key × V)} (t : Tabs T H) (hp : H p = some (.dK kvs)) (b : But p H G) : Tabs T G := fun q hq => by
  obtain ⟨ps, h1, h2, h3⟩ := t q hq
  refine ⟨ps, b _ _ h1 (ne_of h1 hp (by intro z; cases z)), h2, fun pos cv hc => ?_⟩
  obtain ⟨c, e, h⟩ := h3 pos cv hc
  exact ⟨c, e, b _ _ h (ne_of h hp (by intro z; cases z))⟩
theorem ExtN.same {H G : Hp} (s : Same H G) : ExtN H G := fun b o h _ => s b o h
/-- the pen, and the tables -/
structure Kp (T : List (Addr × Str)) (p c : Addr) (m : Nat) (G : Hp) : Prop where
  pen : PenAt G p c m
  tabs : Tabs T G
section
variable {T : List (Addr × Str)} {p c : Addr} {m m' : Nat} {G G' : Hp} {o : HO}
theorem Kp.same (k : Kp T p c m G) (s : Same G G') : Kp T p c m G' := ⟨k.pen.same s, k.tabs.ext s⟩
theorem Kp.draw (k : Kp T p c m G) (h : PenAt (upd G p o) p c m') : Kp T p c m' (upd G p o) := by
  obtain ⟨kvs, hk⟩ := k.pen.dict
  exact ⟨h, Tabs.but k.tabs hk (But.up _ _ _)⟩
theorem Kp.mono (k : Kp T p c m G) (h : m ≤ m') : Kp T p c m' G := ⟨k.pen.mono h, k.tabs⟩
theorem Kp.ext (k : Kp T p c m G) (e : ExtN G G') (t : Tabs T G') : Kp T p c m G' := by
  refine ⟨?_, t⟩
  obtain ⟨ns, i, d, f, n, h1, h2, h3⟩ := k.pen.ex
  exact ⟨ns, i, d, f, n, e _ _ h1 (by intro ps z; cases z), e _ _ h2 (by intro ps z; cases z), h3⟩
theorem Kp.put {D : Addr} (k : Kp T p c m G) (h : G D = none) : Kp T p c m (upd G D o) := k.same (Same.new h)
end
theorem ExtN.tup {H G : Hp} {q : Addr} {xs : List V} (e : ExtN H G) (h : H q = some (.tup xs)) : G q = some (.tup xs) := e _ _ h (by intro ps z; cases z)
theorem ExtN.lst {H G : Hp} {q : Addr} {xs : List V} (e : ExtN H G) (h : H q = some (.lst xs)) : G q = some (.lst xs) := e _ _ h (by intro ps z; cases z)
theorem IxAt.ext {H G : Hp} {CI p : Addr} {c n : Nat} {fs : List (List Nat)} {rs : List (Nat × Nat)} (h : IxAt H CI p c n fs rs) (e : ExtN H G) : IxAt G CI p c n fs rs := by
  obtain ⟨dx, fa, ra, ta, h1, h2, h3, h4⟩ := h.ex
  obtain ⟨as, r1, r2, r3⟩ := h3.ex
  refine ⟨dx, fa, ra, ta, e _ _ h1 (by intro ps z; cases z), ExtN.tup e h2, ⟨as, ExtN.tup e r1, r2, fun i a hi => ?_⟩, ExtN.tup e h4⟩
  obtain ⟨x, y, e1, e2⟩ := r3 i a hi
  exact ⟨x, y, e1, ExtN.tup e e2⟩
/-- behind a draw -/
theorem IxAt.draw {H : Hp} {CI p q : Addr} {c n : Nat} {fs : List (List Nat)} {rs : List (Nat × Nat)} {kvs : List (Key × V)} {o : HO} (h : IxAt H CI q c n fs rs) (hp : H p = some (.dK kvs)) : IxAt (upd H p o) CI q c n fs rs := by
  obtain ⟨dx, fa, ra, ta, h1, h2, h3, h4⟩ := h.ex
  obtain ⟨as, r1, r2, r3⟩ := h3.ex
  have go : ∀ b u, H b = some u → (∀ kvs, u ≠ .dK kvs) → upd H p o b = some u := fun b u e n => by
    rw [upd_ne (fun z => by rw [z, hp] at e; injection e with e; exact n _ e.symm)]
    exact e
  refine ⟨dx, fa, ra, ta, go _ _ h1 (by intro k z; cases z), go _ _ h2 (by intro k z; cases z), ⟨as, go _ _ r1 (by intro k z; cases z), r2, fun i a hi => ?_⟩, go _ _ h4 (by intro k z; cases z)⟩
  obtain ⟨x, y, e1, e2⟩ := r3 i a hi
  exact ⟨x, y, e1, go _ _ e2 (by intro k z; cases z)⟩
/-- a def whose code is known -/
structure DefC (K : PySem.W.Frag) (mg : Str → Option Value) (x : Str) (st : Stmt) (c : Addr) : Prop where
  ex : ∃ (f : Addr) (oc : Value) (od : Option Addr) (kV doc pm : Value) (an : Option Addr) (ct : Value) (osl : Array (Option Value)),
    K.lookup f = some ⟨oc, od, .func (PySem.W.fnOf x x (defArgs st) (defBody st) (defScope st) .none kV doc pm an (.ref c) ct), osl⟩ ∧ PySem.W.codeIn K (.ref c) x = true ∧ PySem.W.keepIn K (.ref f) = true ∧ mg x = some (.ref f)
structure TxtTo (K : PySem.W.Frag) (mg : Str → Option Value) (CT : Addr) : Prop where
  gC : mg "TornFile" = some (.ref CT)
  xf : XfC K CT
  nN : PySem.W.findIn K (.ref CT) "name" = some none
  te : PySem.W.exmOne K (.ref CT) (.ref CT) = some true
section
variable {X : Cx} {CT : Addr}
/-- _law_torn(lambda: body) -/
theorem pe_torn {T : List (Addr × Str)} {c P : Addr} {k : Nat} {params : Arguments} {body : Expr} {scope : Scope} {t : XK → TE} {p lpos pos : Pos} (D : DefAt X.K X.mg "_law_torn" sTo) (O : TxtTo X.K X.mg CT) (hg : Gl X "_law_torn")
    (TB : TabB X.base X.mg c P) (hcode : X.env.code = .ref c) (hmT : (P, X.env.qual ++ "<lambda>") ∈ T) (hu : ∀ q ∈ T, q.1 = P → q.2 = X.env.qual ++ "<lambda>") (hr : Room (k + 2) X.A) (L : LamX.LamS X.env.scope scope) (hdef : defaultsOf params X.env = ([], []))
    (hbind : ∀ (q : Str) (cl : List (Str × Addr)) (pm cv ctv : Value), bindArgs (PySem.W.kla_fn "<lambda>" q params body scope cl pm cv ctv) ⟨[], []⟩ = pure [])
    (hbody : ∀ (A : Around) (outer : List Env) (s : Shared) (H : Hp) (E : XK) (f c' : Addr), Room k (A.deeper (LamX.lamEnv X scope s.heap.objs.size f c')) → PE (LamX.lamCx X A outer s H E scope f c') body (t E)) :
    PE X (.Call (.Name "_law_torn" p) [.Lambda params body scope lpos] [] pos) (LamX.tLam T (TTorn CT) t) := by
  obtain ⟨g, fd, F, hm⟩ := D.ex
  have hb := F.binds (ps := ["_law_call"]) fun _ _ _ _ _ _ us hl => match us, hl with | [_], _ => rfl
  obtain ⟨oc, od, kV, doc, pm, an, cdv, ct, osl, rfl, lk, hcd⟩ := F.ex
  exact LamX.pe_lamcall hg hm F.kp lk hcd hb scTo rfl (.inl rfl) (torn_gives O.gC O.xf O.nN O.te) TB hcode hmT hu hr L hdef hbind hbody
end
end Wq
set_option Elab.async false
set_option linter.all false
set_option maxRecDepth 100000
set_option maxHeartbeats 8000000
set_option exponentiation.threshold 9000
namespace Wq
open PySem PySem.Spec PyProof.Rows L2
open LamX (ExtN Tabs TabS TabB CodeO)
open Rb (wh le un)
/-! the names of the law's lists -/
def nmMenu : List (List Nat) := [[83, 18, 14, 87, 79, 82, 68, 83], [68, 23, 14, 17], [83, 17, 16, 14, 87, 79, 82, 68, 83], [65], [58, 13, 25]]
theorem menu_lit : [V.str "s2.words", V.str "d7.1", V.str "s10.words", V.str "a", V.str "Z-9"] = nmMenu.map vX := by
  have h1 : ("s2.words" : Str) = txt [83, 18, 14, 87, 79, 82, 68, 83] := by decide +kernel
  have h2 : ("d7.1" : Str) = txt [68, 23, 14, 17] := by decide +kernel
  have h3 : ("s10.words" : Str) = txt [83, 17, 16, 14, 87, 79, 82, 68, 83] := by decide +kernel
  have h4 : ("a" : Str) = txt [65] := by decide +kernel
  have h5 : ("Z-9" : Str) = txt [58, 13, 25] := by decide +kernel
  rw [h1, h2, h3, h4, h5]
  rfl
theorem menu_ok : ∀ t ∈ nmMenu, (t.length ≤ 40 ∧ ∀ i ∈ t, i < 95) ∧ fWord (.str (txt t)) = true := by decide +kernel
/-- rows as the law makes them: segments unlike -/
def RowsOk (rs : List (Nat × Nat)) : Prop := ∀ i r, rs[i]? = some r → 90 * i ≤ r.1 ∧ r.1 < 90 * i + 90 ∧ r.2 < 3
theorem RowsOk.nil : RowsOk [] := fun i r h => by cases h
theorem RowsOk.snoc {rs : List (Nat × Nat)} {s t : Nat} (h : RowsOk rs) (h1 : 90 * rs.length ≤ s) (h2 : s < 90 * rs.length + 90) (h3 : t < 3) : RowsOk (rs ++ [(s, t)]) := by
  intro i r hi
  by_cases hl : i < rs.length
  · rw [List.getElem?_append_left hl] at hi
    exact h i r hi
  · rw [List.getElem?_append_right (by omega)] at hi
    have e : i - rs.length = 0 := by
      cases e : i - rs.length with
      | zero => rfl
      | succ m => rw [e] at hi; cases hi
    rw [e] at hi
    obtain rfl := Option.some.inj hi
    have : i = rs.length := by omega
    subst this
    exact ⟨h1, h2, h3⟩
theorem RowsOk.lt {rs : List (Nat × Nat)} (h : RowsOk rs) (hl : rs.length ≤ 3) : ∀ r ∈ rs, r.1 < 1000 ∧ r.2 < 3 := by
  intro r hr
  obtain ⟨i, hi, e⟩ := List.mem_iff_getElem.mp hr
  have := h i r (by rw [List.getElem?_eq_getElem hi, e])
  omega
theorem RowsOk.big {rs : List (Nat × Nat)} (h : RowsOk rs) (hl : rs.length ≤ 3) : ∀ r ∈ rs, r.1 < 2 ^ 64 ∧ r.2 < 2 ^ 64 := fun r hr => by
  have := h.lt hl r hr
  constructor <;> omega
theorem TupsAt.add {G G' : Hp} {as : List Addr} {rs : List (Nat × Nat)} {u t : Nat} {tp : Addr} (h : TupsAt G as rs) (k : ∀ a x y, G a = some (.tup [x, y]) → G' a = some (.tup [x, y])) (ht : G' tp = some (.tup [nI u, nI t])) : TupsAt G' (as ++ [tp]) (rs ++ [(u, t)]) := by
  have h' : TupsAt G as ((rs ++ [(u, t)]).take rs.length) := by rw [List.take_left]; exact h
  have := h'.snoc (by rw [List.getElem?_append_right (Nat.le_refl _), Nat.sub_self]; rfl) k ht
  rw [List.take_of_length_le (by rw [List.length_append]; exact Nat.le_refl _)] at this
  exact this
theorem TupsAt.draw {G : Hp} {as : List Addr} {rs : List (Nat × Nat)} {p c : Addr} {m : Nat} {o : HO} (h : TupsAt G as rs) (k : PenAt G p c m) : TupsAt (upd G p o) as rs := by
  obtain ⟨kvs, hk⟩ := k.dict
  refine ⟨h.len, fun i a hi => ?_⟩
  obtain ⟨x, y, e1, e2⟩ := h.at_ i a hi
  exact ⟨x, y, e1, by rw [upd_ne (ne_of e2 hk (by intro z; cases z))]; exact e2⟩
theorem Kp.up {T : List (Addr × Str)} {p c l : Addr} {m : Nat} {G : Hp} {xs ys : List V} (k : Kp T p c m G) (h : G l = some (.lst xs)) (hc : l ≠ c) : Kp T p c m (upd G l (.lst ys)) := by
  obtain ⟨kvs, hk⟩ := k.pen.dict
  have np : l ≠ p := ne_of h hk (by intro z; cases z)
  refine ⟨k.pen.put np.symm hc.symm, fun q hq => ?_⟩
  obtain ⟨ps, h1, h2, h3⟩ := k.tabs q hq
  have go : ∀ b u, G b = some u → u ≠ .lst xs → upd G l (.lst ys) b = some u := fun b u e n => by
    rw [upd_ne (fun z => by rw [z, h] at e; injection e with e; exact n e.symm)]
    exact e
  refine ⟨ps, go _ _ h1 (by intro z; cases z), h2, fun pos cv hcv => ?_⟩
  obtain ⟨d, e, hd⟩ := h3 pos cv hcv
  exact ⟨d, e, go _ _ hd (by intro z; cases z)⟩
/-- behind a list that is changed -/
theorem IxAt.up {H : Hp} {CI l q : Addr} {c n : Nat} {fs : List (List Nat)} {rs : List (Nat × Nat)} {xs ys : List V} (h : IxAt H CI q c n fs rs) (hp : H l = some (.lst xs)) : IxAt (upd H l (.lst ys)) CI q c n fs rs := by
  obtain ⟨dx, fa, ra, ta, h1, h2, h3, h4⟩ := h.ex
  obtain ⟨as, r1, r2, r3⟩ := h3.ex
  have go : ∀ b u, H b = some u → (∀ xs, u ≠ .lst xs) → upd H l (.lst ys) b = some u := fun b u e n => by
    rw [upd_ne (fun z => by rw [z, hp] at e; injection e with e; exact n _ e.symm)]
    exact e
  refine ⟨dx, fa, ra, ta, go _ _ h1 (by intro k z; cases z), go _ _ h2 (by intro k z; cases z), ⟨as, go _ _ r1 (by intro k z; cases z), r2, fun i a hi => ?_⟩, go _ _ h4 (by intro k z; cases z)⟩
  obtain ⟨x, y, e1, e2⟩ := r3 i a hi
  exact ⟨x, y, e1, go _ _ e2 (by intro k z; cases z)⟩
theorem sld_big {v : List Nat} (h : v.length ≤ 1000) : (sld v).length ≤ 5000 := by
  rw [sld_len]
  have := wh_len v.length 2 (by omega) (by decide)
  omega
end Wq
set_option Elab.async false
set_option linter.all false
set_option maxRecDepth 100000
set_option maxHeartbeats 8000000
set_option exponentiation.threshold 9000
namespace Wq
open PySem PySem.Spec PyProof.Rows L2
/-! what is compared -/
def rowD (r : Nat × Nat) : PyData := .tuple [.int (r.1 : Int), .int (r.2 : Int)]
theorem dpRows {K : PySem.W.Frag} {H : Hp} : ∀ (as : List Addr) (rs : List (Nat × Nat)), as.length = rs.length → (∀ (i : Nat) (a : Addr), as[i]? = some a → ∃ s t, rs[i]? = some (s, t) ∧ H a = some (.tup [nI s, nI t])) → DpAll K H (as.map V.ref) (rs.map rowD)
  | [], [], _, _ => .nil
  | [], _ :: _, h, _ => by cases h
  | _ :: _, [], h, _ => by cases h
  | a :: as, r :: rs, h, k => by
    obtain ⟨s, t, e1, e2⟩ := k 0 a rfl
    obtain rfl : r = (s, t) := Option.some.inj e1
    exact .cons (.tup (.inl (.inl e2)) (.cons (.int _) (.cons (.int _) .nil))) (dpRows as rs (Nat.succ.inj h) fun i b hb => k (i + 1) b hb)
theorem dpN {K : PySem.W.Frag} {H : Hp} : ∀ l : List Nat, DpAll K H (l.map nI) (l.map fun n : Nat => PyData.int (n : Int))
  | [] => .nil
  | x :: r => .cons (.int _) (dpN r)
theorem dpX {K : PySem.W.Frag} {H : Hp} : ∀ l : List (List Nat), DpAll K H (l.map vX) ((l.map txt).map PyData.str)
  | [] => .nil
  | x :: r => .cons (.str _) (dpX r)
theorem layN : ∀ l : List Nat, PyData.canLayAll0 (l.map fun n : Nat => PyData.int (n : Int)) = true ∧ PyData.depthAll (l.map fun n : Nat => PyData.int (n : Int)) = 0
  | [] => by simp [PyData.canLayAll0, PyData.depthAll]
  | x :: r => by
    have := layN r
    simp [PyData.canLayAll0, PyData.canLay0, PyData.depthAll, PyData.depth, this.1, this.2]
theorem layR : ∀ l : List (Nat × Nat), PyData.canLayAll0 (l.map rowD) = true ∧ PyData.depthAll (l.map rowD) ≤ 1
  | [] => by simp [PyData.canLayAll0, PyData.depthAll]
  | x :: r => by
    have := layR r
    refine ⟨by simp [PyData.canLayAll0, PyData.canLay0, rowD, this.1], ?_⟩
    have e : PyData.depth (rowD x) = 1 := by simp [rowD, PyData.depth, PyData.depthAll]
    simp only [List.map_cons, PyData.depthAll]
    omega
theorem lay_tup {l : List PyData} (h : PyData.canLayAll0 l = true) : PyData.canLay0 (.tuple l) = true := by
  simp only [PyData.canLay0]
  exact h
theorem shap_of {d : PyData} (h : d.canLay0 = true) (h2 : d.depth ≤ 64) : SeqAt.shaped d = true := by
  show (d.canLay0 && decide (d.depth ≤ 64)) = true
  rw [Bool.and_eq_true]
  exact ⟨h, decide_eq_true h2⟩
/-- != of equal things -/
theorem ne_same {K : PySem.W.Frag} {H : Hp} {x y : V} {d : PyData} {Q : VK} (h1 : Dp K H x d) (h2 : Dp K H y d) (hl : d.canLay0 = true) (hd : d.depth ≤ 64) (k : Q (.bl false) H) : rNeD K x y H Q := by
  refine ⟨d, d, h1, h2, shap_of hl hd, shap_of hl hd, ?_⟩
  rw [PySem.SeqAt.eqv_refl d hl]
  exact k
theorem eq_same {K : PySem.W.Frag} {H : Hp} {x y : V} {d : PyData} {Q : VK} (h1 : Dp K H x d) (h2 : Dp K H y d) (hl : d.canLay0 = true) (hd : d.depth ≤ 64) (k : Q (.bl true) H) : rEqD K x y H Q := by
  refine ⟨d, d, h1, h2, shap_of hl hd, shap_of hl hd, ?_⟩
  rw [PySem.SeqAt.eqv_refl d hl]
  exact k
def strD (l : List Str) : PyData := .tuple (l.map PyData.str)
def numD (l : List Nat) : PyData := .tuple (l.map fun n : Nat => PyData.int (n : Int))
theorem strD_ok {l : List Str} (h : ∀ x ∈ l, PyData.strOk x = true) : (strD l).canLay0 = true ∧ (strD l).depth ≤ 64 := by
  refine ⟨lay_tup (layS l h), ?_⟩
  unfold strD
  simp only [PyData.depth, deepS]
  omega
theorem numD_ok (l : List Nat) : (numD l).canLay0 = true ∧ (numD l).depth ≤ 64 := by
  refine ⟨lay_tup (layN l).1, ?_⟩
  unfold numD
  simp only [PyData.depth, (layN l).2]
  omega
def ixD (c n : Nat) (fs : List (List Nat)) (rs : List (Nat × Nat)) : PyData := .tuple [.int (c : Int), .int (n : Int), strD (fs.map txt), .tuple (rs.map rowD)]
theorem ixD_ok {c n : Nat} {fs : List (List Nat)} {rs : List (Nat × Nat)} (h : ∀ x ∈ fs.map txt, PyData.strOk x = true) : (ixD c n fs rs).canLay0 = true ∧ (ixD c n fs rs).depth ≤ 64 := by
  have h1 := strD_ok h
  have h2 := layR rs
  have e0 : (strD (fs.map txt)).depth = 1 := by
    unfold strD
    simp only [PyData.depth, deepS]
  constructor
  · refine lay_tup ?_
    simp only [PyData.canLayAll0, PyData.canLay0, h1.1, h2.1, Bool.and_self, Bool.true_and, Bool.and_true]
  · unfold ixD
    simp only [PyData.depth, PyData.depthAll, e0]
    omega
theorem dpStr {K : PySem.W.Frag} {H : Hp} {a : Addr} {l : List (List Nat)} (h : H a = some (.tup (l.map vX))) : Dp K H (.ref a) (strD (l.map txt)) := .tup (.inl (.inl h)) (dpX l)
theorem dpNum {K : PySem.W.Frag} {H : Hp} {a : Addr} {l : List Nat} (h : H a = some (.tup (l.map nI))) : Dp K H (.ref a) (numD l) := .tup (.inl (.inl h)) (dpN l)
theorem sqT_any {K : PySem.W.Frag} {a : Addr} {xs : List V} (h : SqT K (fun _ => none) a xs) (H : Hp) : SqT K H a xs := by
  rcases h with (h | ⟨u, h⟩) | h
  · cases h
  · cases h
  · exact .inr h
open LamX (ExtN Tabs TabS TabB CodeO)
/-- what the law's lists keep -/
structure LsG (T : List (Addr × Str)) (p c : Addr) (M : Nat) (G : Hp) (CI x1 : Addr) (cn n : Nat) (gs : List (List Nat)) (rs : List (Nat × Nat)) (lr : Addr) (as : List Addr) : Prop where
  kp : Kp T p c M G
  lr : G lr = some (.lst (as.map V.ref))
  tu : TupsAt G as rs
  ix : IxAt G CI x1 cn n gs rs
section
variable {T : List (Addr × Str)} {p c CI x1 lr : Addr} {M M' cn n : Nat} {G G' : Hp} {gs : List (List Nat)} {rs : List (Nat × Nat)} {as : List Addr}
theorem LsG.same (h : LsG T p c M G CI x1 cn n gs rs lr as) (s : Same G G') : LsG T p c M G' CI x1 cn n gs rs lr as := ⟨h.kp.same s, s _ _ h.lr, h.tu.same s, h.ix.same s⟩
theorem TupsAt.ext (h : TupsAt G as rs) (e : ExtN G G') : TupsAt G' as rs := ⟨h.len, fun i a hi => by
  obtain ⟨x, y, e1, e2⟩ := h.at_ i a hi
  exact ⟨x, y, e1, ExtN.tup e e2⟩⟩
theorem LsG.ext (h : LsG T p c M G CI x1 cn n gs rs lr as) (e : ExtN G G') (t : Tabs T G') : LsG T p c M G' CI x1 cn n gs rs lr as := ⟨h.kp.ext e t, ExtN.lst e h.lr, h.tu.ext e, h.ix.ext e⟩
theorem IxAt.sp {kvs : List (Key × V)} (h : IxAt G CI x1 cn n gs rs) (hp : G p = some (.dK kvs)) (b : But p G G') : IxAt G' CI x1 cn n gs rs := by
  obtain ⟨dx, fa, ra, ta, h1, h2, h3, h4⟩ := h.ex
  obtain ⟨as, r1, r2, r3⟩ := h3.ex
  have go : ∀ d u, G d = some u → (∀ kvs, u ≠ .dK kvs) → G' d = some u := fun d u e n => b d u e (ne_of e hp (n _))
  refine ⟨dx, fa, ra, ta, go _ _ h1 (by intro k z; cases z), go _ _ h2 (by intro k z; cases z), ⟨as, go _ _ r1 (by intro k z; cases z), r2, fun i a hi => ?_⟩, go _ _ h4 (by intro k z; cases z)⟩
  obtain ⟨x, y, e1, e2⟩ := r3 i a hi
  exact ⟨x, y, e1, go _ _ e2 (by intro k z; cases z)⟩
theorem LsG.pn (h : LsG T p c M G CI x1 cn n gs rs lr as) (q : Pn p c M' G G') : LsG T p c M' G' CI x1 cn n gs rs lr as := by
  obtain ⟨kvs, hk⟩ := h.kp.pen.dict
  refine ⟨⟨q.pen, Tabs.but h.kp.tabs hk q.sp⟩, q.lst h.lr, ⟨h.tu.len, fun i a hi => ?_⟩, h.ix.sp hk q.sp⟩
  obtain ⟨x, y, e1, e2⟩ := h.tu.at_ i a hi
  exact ⟨x, y, e1, q.tup e2⟩
end
theorem ix_len {c n : Nat} {fs : List (List Nat)} {rs : List (Nat × Nat)} (h : IxOk c n fs rs) : (ixB c n fs rs).length ≤ 1000 := ixB_len h.c h.n h.fl h.ft h.rl h.rt
theorem ix_sld {c n : Nat} {fs : List (List Nat)} {rs : List (Nat × Nat)} (h : IxOk c n fs rs) : (∀ b ∈ sld (ixB c n fs rs), b < 256) ∧ (sld (ixB c n fs rs)).length ≤ 5000 := by
  refine ⟨sld_lt (ixB_lt h.ft), ?_⟩
  have := ix_len h
  exact sld_big this
end Wq
set_option Elab.async false
set_option linter.all false
set_option maxRecDepth 100000
set_option maxHeartbeats 8000000
set_option exponentiation.threshold 9000
namespace Wq
open PySem PySem.Spec PyProof.Rows L2
open SX (S S_len S_cat S_beq_eq)
/-! names of files, one unlike another -/
theorem S_list (t : List Nat) : (S t).cps.toList = t := by simp [S]
theorem S_inj {t u : List Nat} (h : S t = S u) : t = u := by
  have := congrArg (fun z : Str => z.cps.toList) h
  simpa [S] using this
theorem dot_split : ∀ {l l' r r' : List Nat}, 46 ∉ l → 46 ∉ l' → l ++ 46 :: r = l' ++ 46 :: r' → l = l' ∧ r = r'
  | [], [], _, _, _, _, h => ⟨rfl, by simpa using h⟩
  | [], b :: l', _, _, _, h2, h => by
    have h : 46 :: _ = b :: _ := h
    injection h with h3 h4
    exact absurd (by rw [h3]; exact List.mem_cons_self) h2
  | a :: l, [], _, _, h1, _, h => by
    have h : a :: _ = 46 :: _ := h
    injection h with h3 h4
    exact absurd (by rw [← h3]; exact List.mem_cons_self) h1
  | a :: l, b :: l', _, _, h1, h2, h => by
    have h : a :: (l ++ 46 :: _) = b :: (l' ++ 46 :: _) := h
    injection h with h3 h4
    obtain ⟨e1, e2⟩ := dot_split (fun z => h1 (List.mem_cons_of_mem _ z)) (fun z => h2 (List.mem_cons_of_mem _ z)) h4
    exact ⟨by rw [h3, e1], e2⟩
theorem no46 (x n : Nat) (hx : x ≠ 46) : 46 ∉ x :: TL.numL n := by
  intro h
  rcases List.mem_cons.mp h with h | h
  · exact hx h.symm
  · exact TL.numL_free (.inl (by decide)) h
theorem sg_form (s : Nat) (e : List Nat) : nSg s e = (115 :: TL.numL s) ++ 46 :: e := by unfold nSg; simp
theorem mf_form (s t : Nat) : nMf s t = (100 :: TL.numL s) ++ 46 :: TL.numL t := by unfold nMf; simp
theorem nSg_inj {s s' : Nat} {e e' : List Nat} (h : nSg s e = nSg s' e') : s = s' ∧ e = e' := by
  rw [sg_form, sg_form] at h
  obtain ⟨h1, h2⟩ := dot_split (no46 _ _ (by decide)) (no46 _ _ (by decide)) h
  injection h1 with _ h1
  exact ⟨TL.numL_inj h1, h2⟩
theorem nMf_inj {s s' t t' : Nat} (h : nMf s t = nMf s' t') : s = s' ∧ t = t' := by
  rw [mf_form, mf_form] at h
  obtain ⟨h1, h2⟩ := dot_split (no46 _ _ (by decide)) (no46 _ _ (by decide)) h
  injection h1 with _ h1
  exact ⟨TL.numL_inj h1, TL.numL_inj h2⟩
theorem sg_mf {s s' t : Nat} {e : List Nat} (h : nSg s e = nMf s' t) : False := by
  rw [sg_form, mf_form] at h
  have h : 115 :: _ = 100 :: _ := h
  injection h with h1
  cases h1
theorem nmR_of {r : Nat × Nat} {x : List Nat} (h : x ∈ nmR r) : (∃ e ∈ nEnds, x = nSg r.1 e) ∨ x = nMf r.1 r.2 := by
  unfold nmR at h
  rcases List.mem_append.mp h with h | h
  · obtain ⟨e, he, rfl⟩ := List.mem_map.mp h
    exact .inl ⟨e, he, rfl⟩
  · split at h
    · exact .inr (List.mem_singleton.mp h)
    · cases h
theorem nmR_nd (r : Nat × Nat) : (nmR r).Nodup := by
  unfold nmR
  refine List.nodup_append.mpr ⟨?_, ?_, ?_⟩
  · have hn : nEnds.Nodup := by decide
    exact List.Pairwise.map _ (fun a b hab e => hab (nSg_inj e).2) hn
  · split
    · simp
    · exact List.nodup_nil
  · intro a ha b hb e
    obtain ⟨x, _, rfl⟩ := List.mem_map.mp ha
    split at hb
    · rw [List.mem_singleton.mp hb] at e
      exact sg_mf e
    · cases hb
theorem nmR_seg {r : Nat × Nat} {x : List Nat} (h : x ∈ nmR r) (r' : Nat × Nat) (h' : x ∈ nmR r') : r.1 = r'.1 := by
  rcases nmR_of h with ⟨e, _, rfl⟩ | rfl
  · rcases nmR_of h' with ⟨e', _, h2⟩ | h2
    · exact (nSg_inj h2).1
    · exact (sg_mf h2).elim
  · rcases nmR_of h' with ⟨e', _, h2⟩ | h2
    · exact (sg_mf h2.symm).elim
    · exact (nMf_inj h2).1
theorem nmF_nd : ∀ rs : List (Nat × Nat), (rs.map (·.1)).Nodup → (nmF rs).Nodup
  | [], _ => List.nodup_nil
  | r :: rs, h => by
    rw [List.map_cons] at h
    obtain ⟨h1, h2⟩ := List.nodup_cons.mp h
    show (nmR r ++ nmF rs).Nodup
    refine List.nodup_append.mpr ⟨nmR_nd r, nmF_nd rs h2, ?_⟩
    intro a ha b hb e
    subst e
    obtain ⟨r', hr', hx⟩ := List.mem_flatMap.mp hb
    exact h1 (by rw [nmR_seg ha r' hx]; exact List.mem_map.mpr ⟨r', hr', rfl⟩)
theorem RowsOk.nd {rs : List (Nat × Nat)} (h : RowsOk rs) : (rs.map (·.1)).Nodup := by
  rw [List.nodup_iff_pairwise_ne] 
  refine List.pairwise_iff_getElem.mpr fun i j hi hj hij e => ?_
  rw [List.length_map] at hi hj
  rw [List.getElem_map, List.getElem_map] at e
  have a := h i _ (List.getElem?_eq_getElem hi)
  have b := h j _ (List.getElem?_eq_getElem hj)
  omega
theorem RowsOk.names {rs : List (Nat × Nat)} (h : RowsOk rs) : ((nmF rs).map S).Nodup := List.Pairwise.map _ (fun a b hab e => hab (S_inj e)) (nmF_nd rs h.nd)
theorem dig_lt {n c : Nat} (h : c ∈ TL.numL n) : c < 128 := by
  have h1 : ¬ (57 < c) := fun z => TL.numL_free (.inr z) h
  omega
theorem S_ok {t : List Nat} (h : ∀ c ∈ t, c < 128) : PyData.strOk (S t) = true := ok128 (by rw [S_list]; exact h)
theorem ends_lt : ∀ e ∈ nEnds, ∀ c ∈ e, c < 128 := by decide
theorem nSg_lt {s : Nat} {e : List Nat} (he : e ∈ nEnds) : ∀ c ∈ nSg s e, c < 128 := by
  intro c hc
  rw [sg_form] at hc
  rcases List.mem_append.mp hc with hc | hc
  · rcases List.mem_cons.mp hc with rfl | hc
    · decide
    · exact dig_lt hc
  · rcases List.mem_cons.mp hc with rfl | hc
    · decide
    · exact ends_lt e he c hc
theorem nMf_lt {s t : Nat} : ∀ c ∈ nMf s t, c < 128 := by
  intro c hc
  rw [mf_form] at hc
  rcases List.mem_append.mp hc with hc | hc
  · rcases List.mem_cons.mp hc with rfl | hc
    · decide
    · exact dig_lt hc
  · rcases List.mem_cons.mp hc with rfl | hc
    · decide
    · exact dig_lt hc
theorem nmF_ok {rs : List (Nat × Nat)} : ∀ x ∈ (nmF rs).map S, PyData.strOk x = true := by
  intro x hx
  obtain ⟨t, ht, rfl⟩ := List.mem_map.mp hx
  obtain ⟨r, _, hr⟩ := List.mem_flatMap.mp ht
  rcases nmR_of hr with ⟨e, he, rfl⟩ | rfl
  · exact S_ok (nSg_lt he)
  · exact S_ok nMf_lt
theorem sg4_ok {s : Nat} : ∀ x ∈ (nEnds.map (nSg s)).map S, PyData.strOk x = true := by
  intro x hx
  obtain ⟨t, ht, rfl⟩ := List.mem_map.mp hx
  obtain ⟨e, he, rfl⟩ := List.mem_map.mp ht
  exact S_ok (nSg_lt he)
theorem dpF {K : PySem.W.Frag} {H : Hp} : ∀ l : List (List Nat), DpAll K H (l.map fun t => V.str (S t)) ((l.map S).map PyData.str)
  | [] => .nil
  | x :: r => .cons (.str _) (dpF r)
theorem ends_lit : [V.str "lengths", V.str "papers", V.str "postings", V.str "words"] = nEnds.map fun t => V.str (S t) := by
  have h1 : ("lengths" : Str) = S [108, 101, 110, 103, 116, 104, 115] := by decide +kernel
  have h2 : ("papers" : Str) = S [112, 97, 112, 101, 114, 115] := by decide +kernel
  have h3 : ("postings" : Str) = S [112, 111, 115, 116, 105, 110, 103, 115] := by decide +kernel
  have h4 : ("words" : Str) = S [119, 111, 114, 100, 115] := by decide +kernel
  rw [h1, h2, h3, h4]
  rfl
end Wq
set_option Elab.async false
set_option linter.all false
set_option maxRecDepth 100000
set_option maxHeartbeats 8000000
set_option exponentiation.threshold 9000
namespace Wq
open PySem PySem.Spec PyProof.Rows L2
open LamX (ExtN Tabs TabS TabB CodeO)
open SX (S S_len S_cat S_beq_eq)
open Rb (wh le un val Bp Wr rwa fb rdWhole rdSigns rdBits rdRaw rd Res many cutN)
open Crc (ck)
/-! the law's lists -/
abbrev sLL : Stmt := top 46
abbrev NLL : List Str := ["_law_pen_here", "_law_names", "_law_rows", "_law_one", "_law_handed", "_law_again", "_law_row", "_law_bad", "_law_due", "_law_segment", "_law_turn", "_law_name", "_law_k", "_law_end"]
theorem scLL : FnScope NLL ["_law_pen_here"] (defScope sLL) := ⟨rfl, rfl, rfl, by decide +kernel, rfl, by decide +kernel, by decide +kernel⟩
def qLL : Str := (Str.ofString "_law_lists_right" ++ ".<locals>.") ++ "<lambda>"
def spLL (T : List (Addr × Str)) : Sp := fun vs H Q _ => ∃ (p c : Addr) (m : Nat), vs = [.ref p] ∧ Kp T p c m H ∧ m ≤ 100000 ∧ ∀ G, Q (.bl true) G
structure ClsL (P : Program) (w : World) (K : PySem.W.Frag) (mg : Str → Option Value) (base : Heap) (CT CI : Addr) : Prop where
  draw : Cl P w K mg base 1 "_law_draw" (spDraw K)
  se : Cl P w K mg base 3 "sealed" (spSe K)
  wo : Cl P w K mg base 7 "is_whole" spWh
  us : Cle P w K mg base 7 "unsealed" (spUn CT)
  lf : Cle P w K mg base 8 "list_from" (spLF CT CI)
  ch : Cl P w K mg base 2 "_law_changed" spCh
  sf : Cl P w K mg base 2 "segment_files" spSf
  mf : Cl P w K mg base 2 "marks_file" spMf
  af : Cl P w K mg base 3 "all_files" (spAF K)
structure TxtL (mg : Str → Option Value) : Prop where
  str : mg "str" = none
  set : mg "set" = none
/-- IndexList made, with rows and without -/
structure MkI2 (P : Program) (w : World) (K : PySem.W.Frag) (mg : Str → Option Value) (base : Heap) (CI : Addr) : Prop extends MkI P w K mg base CI where
  ex3 : ∃ f fd d0 ds, Mk K CI f ∧ FnOk P w K mg base CX0 5 f fd ["self", "commit", "counter", "files", "rows"] (spII K CI) ∧ SqT K (fun _ => none) d0 [] ∧ Vals [.ref d0] ds ∧ L2.Binds K fd ["self", "commit", "counter", "files", "rows"] ds
section
variable {P : Program} {w : World} {K : PySem.W.Frag} {mg : Str → Option Value} {base : Heap} {CT CI : Addr}
theorem ok_LL {T : List (Addr × Str)} {cc PT : Addr} (D : DefC K mg "_law_lists_right" sLL cc) (TB : TabB base mg cc PT) (hmT : (PT, qLL) ∈ T) (hu : ∀ q ∈ T, q.1 = PT → q.2 = qLL) (DT : DefAt K mg "_law_torn" sTo) (O : TxtTo K mg CT)
    (TT : Txt K mg) (T2 : TxtI2 mg) (T3 : TxtL mg) (TI : TxtI K mg CI) (C : ClsL P w K mg base CT CI) (M : MkI2 P w K mg base CI) : Cl P w K mg base 13 "_law_lists_right" (spLL T) := by
  obtain ⟨fg, oc, od, kV, doc, pm, an, ct, osl, lk, hcd, kp, hmg⟩ := D.ex
  obtain ⟨fI, fdI, MI, GI, bI⟩ := M.ex
  obtain ⟨f3, fd3, d0, ds0, M3, G3, hd0, rd0, b3⟩ := M.ex3
  obtain ⟨fu, fdu, psu, GU, hmu, kpu, bU⟩ := C.us
  obtain ⟨fl, fdl, psl, GL, hml, kpl, bL⟩ := C.lf
  suffices FN : FnOk P w K mg base CX0 13 fg (PySem.W.fnOf "_law_lists_right" "_law_lists_right" (defArgs sLL) (defBody sLL) (defScope sLL) .none kV doc pm an (.ref cc) ct) ["_law_pen_here"] (spLL T) from
    ⟨fg, _, _, FN, hmg, kp, .all fun us hl => match us, hl with | [_], _ => rfl⟩
  refine fn_of lk hcd scLL (fun vs H Q E h => ?_) fun A outer s H vs Q E hr h => ?_
  · obtain ⟨p, c, m, rfl, _⟩ := h
    rfl
  obtain ⟨p, c, m, rfl, hK, hm, k⟩ := h
  refine ⟨_, PSs.nox (C8.pss_cut (ps_set (i := 1) scLL.nd rfl (Or.inr rfl) (pe_lc (own := [("_law_name", 11)]) (g := gName 11) (tt := tTest (tOp rEq (tCall (spDraw K) [] E0 (tCons (tVar 0) (tCons (tC (.int 2)) tNil))) (tC (.int 0)))) (by rfl) scLL.nd (pi_list (pe_lst (pa_cons pe_str (pa_cons pe_str (pa_cons pe_str (pa_cons pe_str (pa_cons pe_str pa_nil))))))) (blkOk_by (own := [("_law_name", 11)]) (N := NLL) (sc := defScope sLL) (by decide +kernel)) (fun _ _ _ _ _ => (pg_name (i := 11) scLL.nd rfl (Or.inl rfl))) (fun _ _ _ _ _ => (pts_one (pt_cmpR op_eq (pe_cl C.draw hr (by decide) rfl (pa_cons (pv 0) (pa_cons pe_int pa_nil))) pe_int (nomark _)))) (fun _ _ _ _ _ => (pv 11))))
(C8.pss_cut (ps_setLc (i := 2) (own := [("_law_k", 12)]) (g := gName 12) (tt := tYes) (by rfl) scLL.nd rfl rfl (sw_true rfl rfl rfl (by decide +kernel)) (pi_range1 rfl (by exact TT.range) (pa_cons (pe_cl C.draw hr (by decide) rfl (pa_cons (pv 0) (pa_cons pe_int pa_nil))) pa_nil)) (blkOk_by (own := [("_law_k", 12)]) (N := NLL) (sc := defScope sLL) (by decide +kernel)) (fun _ _ _ _ _ => (pg_name (i := 12) scLL.nd rfl (Or.inl rfl))) (fun _ _ _ _ _ => pts_nil) (fun _ _ _ _ _ => (pe_tup (pa_cons (pe_op op_add (pe_op op_mul pe_int (pv 12)) (pe_cl C.draw hr (by decide) rfl (pa_cons (pv 0) (pa_cons pe_int pa_nil)))) (pa_cons (pe_cl C.draw hr (by decide) rfl (pa_cons (pv 0) (pa_cons pe_int pa_nil))) pa_nil)))))
(C8.pss_cut (ps_set (i := 3) scLL.nd rfl (Or.inl rfl) (pe_make MI GI (hr.mono (by decide)) rfl (by exact M.gC) bI .nil pass0 (pa_cons (pe_cl C.draw hr (by decide) rfl (pa_cons (pv 0) (pa_cons pe_int pa_nil))) (pa_cons (pe_op op_add pe_int (pe_cl C.draw hr (by decide) rfl (pa_cons (pv 0) (pa_cons (pe_op op_pow pe_int pe_int) pa_nil)))) (pa_cons (pv 1) (pa_cons (pv 2) pa_nil))))))
(C8.pss_cut (ps_setLc (i := 4) (own := [("_law_k", 12)]) (g := gName 12) (tt := tYes) (te := tBM0 K "list" rPop (tVar 1)) (by rfl) scLL.nd rfl rfl (sw_true rfl rfl rfl (by decide +kernel)) (pi_range1 rfl (by exact TT.range) (pa_cons (pe_callB call_len_seq (by rfl) (by exact TT.len) PySem.boot_len (pa_cons (pv 1) pa_nil)) pa_nil)) (blkOk_by (own := [("_law_k", 12)]) (N := NLL) (sc := defScope sLL) (by decide +kernel)) (fun _ _ _ _ _ => (pg_name (i := 12) scLL.nd rfl (Or.inl rfl))) (fun _ _ _ _ _ => pts_nil) (fun _ _ _ _ _ => (pe_bm0 PySem.F.plainAttrs_list PySem.F.slot_list_pop PySem.F.type_list_pop mt_pop (pv 1))))
(C8.pss_cut (ps_set (i := 5) scLL.nd rfl (Or.inl rfl) (pe_call GL (hr.mono (by decide)) rfl hml kpl bL .nil passX (pa_cons pe_str (pa_cons (pe_fld (pv 3) rfl) pa_nil))))
(C8.pss_cut (ps_if (pt_cmpR (op_neD (hu64 hr)) (pe_tup (pa_cons (pe_fld (pv 5) rfl) (pa_cons (pe_fld (pv 5) rfl) (pa_cons (pe_fld (pv 5) rfl) (pa_cons (pe_fld (pv 5) rfl) pa_nil))))) (pe_tup (pa_cons (pe_fld (pv 3) rfl) (pa_cons (pe_fld (pv 3) rfl) (pa_cons (pe_fld (pv 3) rfl) (pa_cons (pe_callTy call_tuple_of (by rfl) (by exact TT.tuple) (by decide +kernel) (pa_cons (pv 2) pa_nil)) pa_nil))))) (nomark _))
(pss_one (ps_ret pe_bl))
pss_nil)
(C8.pss_cut (ps_if (PW.pt (pw_or (pt_cmpR (op_neD (hu64 hr)) (pe_fld (pv 3) rfl) (pe_callTy call_tuple_of (by rfl) (by exact TT.tuple) (by decide +kernel) (pa_cons (pe_callB cr_sortL (by rfl) (by exact T2.sorted) (by decide +kernel) (pa_cons (pv 4) pa_nil)) pa_nil)) (nomark _)) (pw_or (pt_cmpR (op_neD (hu64 hr)) (pe_fld (pv 5) rfl) (pe_fld (pv 3) rfl) (nomark _)) (pw_or1 (pt_not (pt_val (pe_cl C.wo hr (by decide) rfl (pa_cons (pe_fld (pv 3) rfl) pa_nil))))))))
(pss_one (ps_ret pe_bl))
pss_nil)
(C8.pss_cut (ps_for PassesOwn.never rfl (pi_list (pe_lst (pa_cons (pe_cl C.se hr (by decide) rfl (pa_cons (pe_tup pa_nil) pa_nil)) (pa_cons (pe_cl C.se hr (by decide) rfl (pa_cons (pe_op op_catA (pe_call GU (hr.mono (by decide)) rfl hmu kpu bU .nil passX (pa_cons pe_str (pa_cons (pe_fld (pv 3) rfl) pa_nil))) (pe_tup (pa_cons pe_int pa_nil))) pa_nil)) pa_nil)))) (pg_name (i := 6) scLL.nd rfl (Or.inr rfl))
(pss_one (ps_if (pt_cmpR op_ne (pe_torn (T := T) (c := cc) (P := PT) (k := 10) (t := fun E => tCall (spLF CT CI) [] E (tCons (tC (.str "back")) (tCons (tVar 6) tNil))) DT O rfl TB rfl hmT hu (hr.mono (by decide)) (LamX.lamS_by (sc := defScope sLL) (by decide +kernel)) rfl (fun _ _ _ _ _ => rfl) (fun _ _ _ _ _ _ _ hr' => pe_call GL (hr'.mono (by decide)) rfl hml kpl bL .nil (passes_call (takes_of rfl rfl rfl rfl) (fun _ _ _ _ h => h)) (pa_cons pe_str (pa_cons (pv 6) pa_nil)))) pe_str (nomark _))
(pss_one (ps_ret pe_bl))
pss_nil)))
(C8.pss_cut (ps_set (i := 7) scLL.nd rfl (Or.inr rfl) (pe_cl C.ch hr (by decide) rfl (pa_cons (pv 0) (pa_cons (pe_fld (pv 3) rfl) pa_nil))))
(C8.pss_cut (ps_if (PW.pt (pw_or (pt_cmpR op_ne (pe_torn (T := T) (c := cc) (P := PT) (k := 10) (t := fun E => tCall (spLF CT CI) [] E (tCons (tC (.str "next")) (tCons (tVar 7) tNil))) DT O rfl TB rfl hmT hu (hr.mono (by decide)) (LamX.lamS_by (sc := defScope sLL) (by decide +kernel)) rfl (fun _ _ _ _ _ => rfl) (fun _ _ _ _ _ _ _ hr' => pe_call GL (hr'.mono (by decide)) rfl hml kpl bL .nil (passes_call (takes_of rfl rfl rfl rfl) (fun _ _ _ _ h => h)) (pa_cons pe_str (pa_cons (pv 7) pa_nil)))) pe_str (nomark _)) (pw_or1 (pt_cmpR (op_neD (hu64 hr)) (pe_fld (pe_make M3 G3 (hr.mono (by decide)) rfl (by exact M.gC) b3 rd0 pass0 (pa_cons pe_int (pa_cons pe_int (pa_cons (pe_tup pa_nil) pa_nil)))) rfl) (pe_tup pa_nil) (nomark _)))))
(pss_one (ps_ret pe_bl))
pss_nil)
(pss_cons (ps_set (i := 8) scLL.nd rfl (Or.inl rfl) (pe_lst pa_nil))
(C8.pss_cut (ps_for PassesOwn.never rfl (pi_list (pv 2)) (pg_tup (by rfl) (pgs_cons (pg_name (i := 9) scLL.nd rfl (Or.inr rfl)) (pgs_cons (pg_name (i := 10) scLL.nd rfl (Or.inl rfl)) pgs_nil)))
(C8.pss_cut (ps_set (i := 8) scLL.nd rfl (Or.inl rfl) (pe_op op_cat (pv 8) (pe_lc (own := [("_law_end", 13)]) (g := gName 13) (tt := tYes) (by rfl) scLL.nd (pi_list (pe_lst (pa_cons pe_str (pa_cons pe_str (pa_cons pe_str (pa_cons pe_str pa_nil)))))) (blkOk_by (own := [("_law_end", 13)]) (N := NLL) (sc := defScope sLL) (by decide +kernel)) (fun _ _ _ _ _ => (pg_name (i := 13) scLL.nd rfl (Or.inl rfl))) (fun _ _ _ _ _ => pts_nil) (fun _ _ _ _ _ => (pe_op op_add_str (pe_op op_add_str (pe_op op_add_str pe_str (pe_callTy call_str_int (by rfl) (by exact T3.str) (by decide +kernel) (pa_cons (pv 9) pa_nil))) pe_str) (pv 13))))))
(C8.pss_cut (ps_set (i := 8) scLL.nd rfl (Or.inl rfl) (pe_op op_cat (pv 8) (pe_op op_rep (pe_lst (pa_cons (pe_op op_add_str (pe_op op_add_str (pe_op op_add_str pe_str (pe_callTy call_str_int (by rfl) (by exact T3.str) (by decide +kernel) (pa_cons (pv 9) pa_nil))) pe_str) (pe_callTy call_str_int (by rfl) (by exact T3.str) (by decide +kernel) (pa_cons (pv 10) pa_nil))) pa_nil)) (pe_callTy call_int1 (by rfl) (by exact TT.int) PyProof.Rows.boot_int (pa_cons (pe_cmpR op_gt (pv 10) pe_int (nomark _)) pa_nil)))))
(C8.pss_cut (ps_if (pt_cmpR (op_neD (hu64 hr)) (pe_cl C.sf hr (by decide) rfl (pa_cons (pv 9) pa_nil)) (pe_callTy call_tuple_of (by rfl) (by exact TT.tuple) (by decide +kernel) (pa_cons (pe_slice sl_list (pe_slice sl_list (pv 8) (po_some (pe_op op_sub (pe_op op_sub (pe_callB call_len_seq (by rfl) (by exact TT.len) PySem.boot_len (pa_cons (pv 8) pa_nil)) pe_int) (pe_callTy call_int1 (by rfl) (by exact TT.int) PyProof.Rows.boot_int (pa_cons (pe_cmpR op_gt (pv 10) pe_int (nomark _)) pa_nil)))) po_none) po_none (po_some pe_int)) pa_nil)) (nomark _))
(pss_one (ps_ret pe_bl))
pss_nil)
(pss_one (ps_if (pt_cmpR op_ne (pe_cl C.mf hr (by decide) rfl (pa_cons (pv 9) (pa_cons (pv 10) pa_nil))) (pe_op op_add_str (pe_op op_add_str (pe_op op_add_str pe_str (pe_callTy call_str_int (by rfl) (by exact T3.str) (by decide +kernel) (pa_cons (pv 9) pa_nil))) pe_str) (pe_callTy call_str_int (by rfl) (by exact T3.str) (by decide +kernel) (pa_cons (pv 10) pa_nil))) (nomark _))
(pss_one (ps_ret pe_bl))
pss_nil))))))
(pss_one (ps_ret (pe_cmpR (op_eqD (hu64 hr)) (pe_cl C.af hr (by decide) rfl (pa_cons (pv 2) pa_nil)) (pe_callTy call_tuple_of (by rfl) (by exact TT.tuple) (by decide +kernel) (pa_cons (pe_callB (TX.cr_sortX rfl) (by rfl) (by exact T2.sorted) (by decide +kernel) (pa_cons (pe_callTy (TX.cr_setX rfl) (by rfl) (by exact T3.set) (by decide +kernel) (pa_cons (pv 8) pa_nil)) pa_nil)) pa_nil)) (nomark _)))))))))))))))), ?_⟩
  have hz9 : ∀ n, n ≤ 9 → n ≤ sizeLine := fun n h => by rw [sizeLine_eq]; omega
  refine ⟨fun σ G => ∃ (ln : Addr) (fs : List (List Nat)), σ = [some (.ref p), some (.ref ln), none, none, none, none, none, none, none, none, none, none, none, none] ∧ Kp T p c (m + 5) G ∧ ln ≠ c ∧ G ln = some (.lst (fs.map vX)) ∧ (∀ t ∈ fs, t ∈ nmMenu) ∧ fs.length ≤ 5, ?_, ?_⟩
  · refine ⟨hz9 5 (by decide), fun l hl => ⟨l, rfl, ⟨_, .inl (.inl upd_same)⟩, fun Dd hD => ?_⟩⟩
    have hK1 := hK.put (o := .lst [V.str "s2.words", V.str "d7.1", V.str "s10.words", V.str "a", V.str "Z-9"]) hl
    have hl1 : upd H l (.lst [V.str "s2.words", V.str "d7.1", V.str "s10.words", V.str "a", V.str "Z-9"]) l = some (.lst (nmMenu.map vX)) := by
      rw [upd_same, menu_lit]
    generalize upd H l (.lst [V.str "s2.words", V.str "d7.1", V.str "s10.words", V.str "a", V.str "Z-9"]) = H1 at hK1 hl1 hD
    obtain ⟨_, hc1⟩ := hK1.pen.cells
    have nDc : Dd ≠ c := (ne_of_none hc1 hD).symm
    refine lc_list (K := K) (a := l) (xs := nmMenu.map vX) (fun i G => ∃ fs : List (List Nat), Kp T p c (m + i) G ∧ G l = some (.lst (nmMenu.map vX)) ∧ G Dd = some (.lst (fs.map vX)) ∧ (∀ t ∈ fs, t ∈ nmMenu) ∧ fs.length ≤ i)
      ⟨[], hK1.put hD, Same.new hD _ _ hl1, upd_same, (fun t h => by cases h), Nat.le_refl _⟩ (fun i G _ ⟨_, _, h, _⟩ => .inl (.inl h)) ?_ ?_
    · rintro i v G hv ⟨fs, hk, h1, h2, h3, h4⟩
      have hi5 : i < 5 := by
        have := (List.getElem?_eq_some_iff.mp hv).1
        rw [List.length_map] at this
        exact this
      rw [List.getElem?_map] at hv
      cases ei : nmMenu[i]? with
      | none => rw [ei] at hv; cases hv
      | some t =>
      rw [ei] at hv
      obtain rfl := Option.some.inj hv
      refine ⟨rfl, ?_⟩
      refine ⟨_, rfl, p, c, m + i, 2, rfl, hk.pen, by omega, by decide, log_ok (by decide) (by decide), fun v o a b hP => ⟨rfl, _, rfl, ?_⟩⟩
      have hk2 := hk.draw hP
      have g1 := hk.pen.lst (o := o) h1
      have g2 := hk.pen.lst (o := o) h2
      refine ite2 (fun _ => ?_) (fun _ => ?_)
      · refine ⟨_, rfl, _, g2, ?_, fs ++ [t], hk2.up g2 nDc, ?_, ?_, ?_, ?_⟩
        · rw [List.length_map, sizeLine_eq]
          omega
        · rw [upd_ne (ne_of_none hl1 hD)]
          exact g1
        · rw [upd_same, List.map_append]
          rfl
        · intro x hx
          rcases List.mem_append.mp hx with hx | hx
          · exact h3 x hx
          · rw [List.mem_singleton.mp hx]
            exact List.mem_of_getElem? ei
        · rw [List.length_append]
          show _ + 1 ≤ i + 1
          omega
      · exact ⟨fs, hk2, g1, g2, h3, by omega⟩
    · rintro G ⟨fs, hk, h1, h2, h3, h4⟩
      have e5 : (nmMenu.map vX).length = 5 := rfl
      rw [e5] at hk h4
      exact ⟨Dd, fs, rfl, hk, nDc, h2, h3, h4⟩
  rintro σ G1 ⟨ln, fs, rfl, hK1, nlc, hln1, hfm, hfl⟩
  refine ⟨fun σ G => ∃ (lr : Addr) (as : List Addr) (rs : List (Nat × Nat)), σ = [some (.ref p), some (.ref ln), some (.ref lr), none, none, none, none, none, none, none, none, none, none, none] ∧ Kp T p c (m + 20) G ∧ G ln = some (.lst (fs.map vX)) ∧ lr ≠ ln ∧ G lr = some (.lst (as.map V.ref)) ∧ TupsAt G as rs ∧ RowsOk rs ∧ rs.length ≤ 3, ?_, ?_⟩
  · refine ⟨_, rfl, p, c, m + 5, 4, rfl, hK1.pen, by omega, by decide, log_ok (by decide) (by decide), fun v o a b hP => ⟨v, rfl, by omega, by omega, fun Dd hD => ?_⟩⟩
    have hK2 := hK1.draw hP
    have g1 := hK1.pen.lst (o := o) hln1
    generalize upd G1 p o = G2 at hK2 g1 hD
    obtain ⟨_, hc2⟩ := hK2.pen.cells
    have nDc : Dd ≠ c := (ne_of_none hc2 hD).symm
    have nDl : Dd ≠ ln := (ne_of_none g1 hD).symm
    refine lc_range (lo := 0) (n := v.toNat) (fun i G => ∃ (as : List Addr) (rs : List (Nat × Nat)), Kp T p c (m + 6 + 2 * i) G ∧ G ln = some (.lst (fs.map vX)) ∧ G Dd = some (.lst (as.map V.ref)) ∧ TupsAt G as rs ∧ RowsOk rs ∧ rs.length = i)
      ⟨[], [], hK2.put hD, Same.new hD _ _ g1, upd_same, ⟨rfl, fun i a z => by cases z⟩, .nil, rfl⟩ ?_ ?_
    · rintro i G hi ⟨as, rs, hk, h1, h2, hT, hR, hl⟩
      have hi4 : i < 4 := by omega
      refine ⟨rfl, ?_⟩
      simp only [tYes, if_true]
      refine ⟨_, rfl, _, _, rfl, rfl, .inl ⟨by decide, by decide⟩, _, rfl, p, c, m + 6 + 2 * i, 90, rfl, hk.pen, by omega, by decide, log_ok (by decide) (by decide), fun v1 o1 a1 b1 hP1 => ⟨_, _, rfl, rfl, ?_⟩⟩
      have hk1 := hk.draw hP1
      have q1 := hk.pen.lst (o := o1) h1
      have q2 := hk.pen.lst (o := o1) h2
      have qT := hT.draw hk.pen (o := o1)
      generalize upd G p o1 = G3 at hk1 q1 q2 qT
      refine ⟨_, rfl, p, c, m + 6 + 2 * i + 1, 3, rfl, hk1.pen, by omega, by decide, log_ok (by decide) (by decide), fun v2 o2 a2 b2 hP2 => ⟨hz9 2 (by decide), fun tp htp => ?_⟩⟩
      have hk2 := hk1.draw hP2
      have r1 := hk1.pen.lst (o := o2) q1
      have r2 := hk1.pen.lst (o := o2) q2
      have rT := qT.draw hk1.pen (o := o2)
      generalize upd G3 p o2 = G4 at hk2 r1 r2 rT htp
      have e1 : V.int ((90 : Int) * (0 + (i : Int)) + v1) = nI (90 * i + v1.toNat) := congrArg V.int (by omega)
      have e2 : V.int v2 = nI v2.toNat := congrArg V.int (by omega)
      dsimp only
      rw [e1, e2]
      have ntD : tp ≠ Dd := (ne_of_none r2 htp).symm
      have s4 := Same.new (o := .tup [nI (90 * i + v1.toNat), nI v2.toNat]) htp
      have hk3 := hk2.put (o := .tup [nI (90 * i + v1.toNat), nI v2.toNat]) htp
      have t1 := s4 _ _ r1
      have t2 := s4 _ _ r2
      have tT := rT.same s4
      have t3 : upd G4 tp (.tup [nI (90 * i + v1.toNat), nI v2.toNat]) tp = some (.tup [nI (90 * i + v1.toNat), nI v2.toNat]) := upd_same
      generalize upd G4 tp (.tup [nI (90 * i + v1.toNat), nI v2.toNat]) = G5 at hk3 t1 t2 tT t3
      refine ⟨_, t2, ?_, as ++ [tp], rs ++ [(90 * i + v1.toNat, v2.toNat)], (hk3.up t2 nDc).mono (by omega), ?_, ?_, ?_, ?_, ?_⟩
      · rw [List.length_map, hT.len, sizeLine_eq]
        omega
      · rw [upd_ne nDl.symm]
        exact t1
      · rw [upd_same, List.map_append]
        rfl
      · refine tT.add (fun a x y ea => ?_) ?_
        · rw [upd_ne (ne_of ea t2 (by intro z; cases z))]
          exact ea
        · rw [upd_ne ntD]
          exact t3
      · exact hR.snoc (by omega) (by omega) (by omega)
      · rw [List.length_append, hl]
        rfl
    · rintro G ⟨as, rs, hk, h1, h2, hT, hR, hl⟩
      exact ⟨Dd, as, rs, rfl, hk.mono (by omega), h1, nDl, h2, hT, hR, by omega⟩
  rintro σ G2 ⟨lr, as, rs, rfl, hK2, hln2, nrl, hlr2, hT2, hR, hrl⟩
  have hIx : ∀ cn n, cn < 2 ^ 64 → n < 2 ^ 64 → IxOk cn n fs rs := fun cn n h1 h2 => ⟨h1, h2, hfl, fun t ht => (menu_ok t (hfm t ht)).1, by omega, hR.big hrl⟩
  refine ⟨fun σ G => ∃ (x1 : Addr) (cn n : Nat) (gs : List (List Nat)), σ = [some (.ref p), some (.ref ln), some (.ref lr), some (.ref x1), none, none, none, none, none, none, none, none, none, none] ∧ Kp T p c (m + 30) G ∧ G ln = some (.lst (fs.map vX)) ∧ G lr = some (.lst (as.map V.ref)) ∧ TupsAt G as rs ∧
    IxAt G CI x1 cn n gs rs ∧ IxOk cn n gs rs ∧ gs.Perm fs ∧ sortedS (gs.map txt) = true, ?_, ?_⟩
  · refine ⟨_, rfl, p, c, m + 20, 300, rfl, hK2.pen, by omega, by decide, log_ok (by decide) (by decide), fun v1 o1 a1 b1 hP1 => ?_⟩
    have hk1 := hK2.draw hP1
    have q1 := hK2.pen.lst (o := o1) hln2
    have q2 := hK2.pen.lst (o := o1) hlr2
    have qT := hT2.draw hK2.pen (o := o1)
    generalize upd G2 p o1 = G3 at hk1 q1 q2 qT
    refine ⟨_, rfl, _, _, rfl, rfl, ⟨by decide, by decide, by decide⟩, p, c, m + 20 + 1, 1000000, rfl, hk1.pen, by omega, by decide, log_ok (by decide) (by decide), fun v2 o2 a2 b2 hP2 => ⟨_, _, rfl, rfl, ?_⟩⟩
    have hk2 := hk1.draw hP2
    have r1 := hk1.pen.lst (o := o2) q1
    have r2 := hk1.pen.lst (o := o2) q2
    have rT := qT.draw hk1.pen (o := o2)
    generalize upd G3 p o2 = G4 at hk2 r1 r2 rT
    refine ⟨_, rfl, _, rfl, fun x dx hx hdx hne => ?_⟩
    have s5 : Same G4 (upd (upd G4 dx (.own x)) x (.ins CI dx [])) := fun b o e => by
      rw [upd_ne (ne_of_none e hx), upd_ne (ne_of_none e hdx)]
      exact e
    have e1 : V.int v1 = nI v1.toNat := congrArg V.int (by omega)
    have e2 : V.int (1 + v2) = nI (1 + v2.toNat) := congrArg V.int (by omega)
    refine ⟨x, dx, ln, lr, v1.toNat, 1 + v2.toNat, fs, as, rs, ?_, upd_same, .inl (.inl (.inl (s5 _ _ r1))), .inl (.inl (.inl (s5 _ _ r2))), rT.same s5, hIx _ _ (by omega) (by omega), fun gs G pg hsg b ix => ⟨rfl, ?_⟩⟩
    · rw [← e1, ← e2]
      rfl
    have s6 : Same G4 G := fun bb o e => b bb o (s5 bb o e) (ne_of_none e hx)
    exact ⟨x, v1.toNat, 1 + v2.toNat, gs, rfl, (hk2.same s6).mono (by omega), s6 _ _ r1, s6 _ _ r2, rT.same s6, ix, (hIx _ _ (by omega) (by omega)).perm pg, pg, hsg⟩
  rintro σ G3 ⟨x1, cn, n, gs, rfl, hK3, hln3, hlr3, hT3, ix3, hO, pg, hsg⟩
  -- the names, handed back
  refine ⟨fun σ G => ∃ (lh : Addr) (hs : List (List Nat)), σ = [some (.ref p), some (.ref ln), some (.ref lr), some (.ref x1), some (.ref lh), none, none, none, none, none, none, none, none, none] ∧ Kp T p c (m + 30) G ∧ G lr = some (.lst (as.map V.ref)) ∧ TupsAt G as rs ∧
    IxAt G CI x1 cn n gs rs ∧ G lh = some (.lst (hs.map vX)) ∧ hs.Perm fs, ?_, ?_⟩
  · refine ⟨_, rfl, ln, _, rfl, .inl (.inl (.inl hln3)), ((fs.map vX).length : Int), rfl, by omega, by rw [List.length_map]; omega, fun Dd hD => ?_⟩
    obtain ⟨_, hc3⟩ := hK3.pen.cells
    have nDc : Dd ≠ c := (ne_of_none hc3 hD).symm
    have nDl : Dd ≠ ln := (ne_of_none hln3 hD).symm
    have nDr : Dd ≠ lr := (ne_of_none hlr3 hD).symm
    refine lc_range (lo := 0) (n := (fs.map vX).length) (fun i G => ∃ us vs : List (List Nat), Kp T p c (m + 30) G ∧ G lr = some (.lst (as.map V.ref)) ∧ TupsAt G as rs ∧ IxAt G CI x1 cn n gs rs ∧ G ln = some (.lst (us.map vX)) ∧ G Dd = some (.lst (vs.map vX)) ∧ us ++ vs.reverse = fs ∧ vs.length = i)
      ⟨fs, [], hK3.put hD, Same.new hD _ _ hlr3, hT3.same (Same.new hD), ix3.same (Same.new hD), Same.new hD _ _ hln3, upd_same, by simp, rfl⟩ ?_ ?_
    · rintro i G hi ⟨us, vs, hk, h1, hT, hx, h2, h3, h4, h5⟩
      rw [List.length_map] at hi
      have hul : us.length = fs.length - i := by
        have := congrArg List.length h4
        rw [List.length_append, List.length_reverse] at this
        omega
      have hune : us ≠ [] := fun z => by rw [z] at hul; have : ([] : List (List Nat)).length = 0 := rfl; omega
      obtain ⟨us', y, rfl⟩ : ∃ us' y, us = us' ++ [y] := ⟨us.dropLast, us.getLast hune, (List.dropLast_concat_getLast hune).symm⟩
      refine ⟨rfl, ?_⟩
      simp only [tYes, if_true]
      refine ⟨_, rfl, .inl ⟨rfl, _, .inl (.inl h2)⟩, ln, _, vX y, rfl, rfl, h2, ?_, ?_⟩
      · rw [List.map_append, List.length_append]
        show _ = some (vX y)
        rw [show (us'.map vX).length + ([y].map vX).length - 1 = (us'.map vX).length from rfl, List.getElem?_append_right (Nat.le_refl _), Nat.sub_self]
        rfl
      have e1 : ((us' ++ [y]).map vX).dropLast = us'.map vX := by
        rw [List.map_append]
        exact List.dropLast_concat
      rw [e1]
      have hk2 := hk.up (ys := us'.map vX) h2 nlc
      have g1 : upd G ln (.lst (us'.map vX)) lr = some (.lst (as.map V.ref)) := by rw [upd_ne nrl]; exact h1
      have g3 : upd G ln (.lst (us'.map vX)) Dd = some (.lst (vs.map vX)) := by rw [upd_ne nDl]; exact h3
      have gT : TupsAt (upd G ln (.lst (us'.map vX))) as rs := ⟨hT.len, fun i a hi => by
        obtain ⟨x, z, q1, q2⟩ := hT.at_ i a hi
        exact ⟨x, z, q1, by rw [upd_ne (ne_of q2 h2 (by intro z; cases z))]; exact q2⟩⟩
      have gx := hx.up (ys := us'.map vX) h2
      have g2 : upd G ln (.lst (us'.map vX)) ln = some (.lst (us'.map vX)) := upd_same
      generalize upd G ln (.lst (us'.map vX)) = G4 at hk2 g1 g2 g3 gT gx
      refine ⟨_, g3, ?_, us', vs ++ [y], hk2.up g3 nDc, ?_, ?_, gx.up g3, ?_, ?_, ?_, ?_⟩
      · rw [List.length_map, sizeLine_eq]
        omega
      · rw [upd_ne nDr.symm]
        exact g1
      · exact ⟨gT.len, fun i a hi => by
          obtain ⟨x, z, q1, q2⟩ := gT.at_ i a hi
          exact ⟨x, z, q1, by rw [upd_ne (ne_of q2 g3 (by intro z; cases z))]; exact q2⟩⟩
      · rw [upd_ne nDl.symm]
        exact g2
      · rw [upd_same, List.map_append]
        rfl
      · rw [← h4]
        simp
      · rw [List.length_append, h5]
        rfl
    · rintro G ⟨us, vs, hk, h1, hT, hx, h2, h3, h4, h5⟩
      rw [List.length_map] at h5
      have hul := congrArg List.length h4
      rw [List.length_append, List.length_reverse] at hul
      obtain rfl : us = [] := List.length_eq_zero_iff.mp (by omega)
      exact ⟨Dd, vs, rfl, hk, h1, hT, hx, h3, by rw [← h4]; exact (List.reverse_perm vs).symm⟩
  rintro σ G4 ⟨lh, hs, rfl, hK4, hlr4, hT4, ix4, hlh4, ph⟩
  have L4 : LsG T p c (m + 30) G4 CI x1 cn n gs rs lr as := ⟨hK4, hlr4, hT4, ix4⟩
  clear hK4 hlr4 hT4 ix4
  have hW : IxW cn n gs rs := ⟨hO, hsg, fun t ht => (menu_ok t (hfm t (pg.mem_iff.mp ht))).2⟩
  have hB := ix_sld hO
  have hok : ∀ x ∈ gs.map txt, PyData.strOk x = true := txts_ok fun t ht => (hO.ft t ht).2
  -- read again
  refine ⟨fun σ G => ∃ x2 : Addr, σ = [some (.ref p), some (.ref ln), some (.ref lr), some (.ref x1), some (.ref lh), some (.ref x2), none, none, none, none, none, none, none, none] ∧ LsG T p c (m + 30) G CI x1 cn n gs rs lr as ∧
    G lh = some (.lst (hs.map vX)) ∧ IxAt G CI x2 cn n gs rs, ?_, ?_⟩
  · obtain ⟨dx, fa, ra, ta, h1, h2, h3, h4⟩ := L4.ix.ex
    refine ⟨_, rfl, x1, CI, dx, _, _, rfl, h1, TI.cl, TI.nT, rfl, .str "list", ta, sld (ixB cn n gs rs), rfl, h4, hB.1, Nat.le_trans hB.2 (by decide), .inl ⟨cn, n, gs, rs, sld_within (ixB_lt hO.ft), hW, fun t G s ht ix => ?_⟩⟩
    exact ⟨t, rfl, L4.same s, s _ _ hlh4, ix⟩
  rintro σ G5 ⟨x2, rfl, L5, hlh5, ix5⟩
  -- the same numbers, names, rows
  refine ⟨fun σ G => σ = [some (.ref p), some (.ref ln), some (.ref lr), some (.ref x1), some (.ref lh), some (.ref x2), none, none, none, none, none, none, none, none] ∧ LsG T p c (m + 30) G CI x1 cn n gs rs lr as ∧
    G lh = some (.lst (hs.map vX)) ∧ IxAt G CI x2 cn n gs rs, ?_, ?_⟩
  · obtain ⟨dx, fa, ra, ta, h1, h2, h3, h4⟩ := ix5.ex
    obtain ⟨dx', fa', ra', ta', h1', h2', h3', h4'⟩ := L5.ix.ex
    obtain ⟨as3, r1, r2, r3⟩ := h3.ex
    refine ⟨_, rfl, x2, CI, dx, _, _, rfl, h1, TI.cl, TI.nC, rfl, _, rfl, x2, CI, dx, _, _, rfl, h1, TI.cl, TI.nN, rfl, _, rfl, x2, CI, dx, _, _, rfl, h1, TI.cl, TI.nF, rfl, _, rfl, x2, CI, dx, _, _, rfl, h1, TI.cl, TI.nR, rfl, hz9 4 (by decide), fun t1 ht1 => ?_⟩
    have s1 := Same.new (o := .tup [nI cn, nI n, .ref fa, .ref ra]) ht1
    have g1 : upd G5 t1 (.tup [nI cn, nI n, .ref fa, .ref ra]) t1 = some (.tup [nI cn, nI n, .ref fa, .ref ra]) := upd_same
    generalize upd G5 t1 (.tup [nI cn, nI n, .ref fa, .ref ra]) = G6 at s1 g1
    refine ⟨_, rfl, x1, CI, dx', _, _, rfl, s1 _ _ h1', TI.cl, TI.nC, rfl, _, rfl, x1, CI, dx', _, _, rfl, s1 _ _ h1', TI.cl, TI.nN, rfl, _, rfl, x1, CI, dx', _, _, rfl, s1 _ _ h1', TI.cl, TI.nF, rfl, _, rfl, lr, _, rfl, .inl ⟨.inl (.inl (s1 _ _ L5.lr)), fun t2 ht2 => ⟨hz9 4 (by decide), fun t3 ht3 => ?_⟩⟩⟩
    have s2 := Same.new (o := .tup (as.map V.ref)) ht2
    have g2 : upd G6 t2 (.tup (as.map V.ref)) t2 = some (.tup (as.map V.ref)) := upd_same
    generalize upd G6 t2 (.tup (as.map V.ref)) = G7 at s2 g2 ht3
    have s3 := Same.new (o := .tup [nI cn, nI n, .ref fa', .ref t2]) ht3
    have g3 : upd G7 t3 (.tup [nI cn, nI n, .ref fa', .ref t2]) t3 = some (.tup [nI cn, nI n, .ref fa', .ref t2]) := upd_same
    generalize upd G7 t3 (.tup [nI cn, nI n, .ref fa', .ref t2]) = G8 at s3 g3
    have s123 := s1.trans (s2.trans s3)
    have L8 := L5.same s123
    refine ne_same (d := ixD cn n gs rs) (.tup (.inl (.inl (s3 _ _ (s2 _ _ g1)))) (.cons (.int _) (.cons (.int _) (.cons (dpStr (s123 _ _ h2)) (.cons (.tup (.inl (.inl (s123 _ _ r1))) (dpRows as3 rs r2 fun i a hi => ?_)) .nil)))))
      (.tup (.inl (.inl g3)) (.cons (.int _) (.cons (.int _) (.cons (dpStr (s123 _ _ h2')) (.cons (.tup (.inl (.inl (s3 _ _ g2))) (dpRows as rs L8.tu.len L8.tu.at_)) .nil))))) (ixD_ok hok).1 (ixD_ok hok).2 ?_
    · obtain ⟨x, y, e1, e2⟩ := r3 i a hi
      exact ⟨x, y, e1, s123 _ _ e2⟩
    refine ⟨_, rfl, (if_neg (by simp)).mpr ?_⟩
    exact ⟨rfl, L8, s123 _ _ hlh5, ix5.same s123⟩
  rintro σ G6 ⟨rfl, L6, hlh6, ix6⟩
  -- names in order, bytes, whole
  refine ⟨fun σ G => σ = [some (.ref p), some (.ref ln), some (.ref lr), some (.ref x1), some (.ref lh), some (.ref x2), none, none, none, none, none, none, none, none] ∧ LsG T p c (m + 30) G CI x1 cn n gs rs lr as, ?_, ?_⟩
  · obtain ⟨dx', fa', ra', ta', h1', h2', h3', h4'⟩ := L6.ix.ex
    obtain ⟨dx, fa, ra, ta, h1, h2, h3, h4⟩ := ix6.ex
    refine ⟨_, rfl, x1, CI, dx', _, _, rfl, h1', TI.cl, TI.nF, rfl, _, rfl, lh, hs.map txt, rfl, .inl (.inl (.inl (by rw [List.map_map]; exact hlh6))), by rw [List.length_map, ph.length_eq]; omega, fun ys q hys hsy hq => ?_⟩
    have eys : ys = gs.map txt := So.one ((hys.trans (ph.map txt)).trans (pg.map txt).symm) hsy hsg
    subst eys
    have s1 := Same.new (o := .lst ((gs.map txt).map V.str)) hq
    have g1 : upd G6 q (.lst ((gs.map txt).map V.str)) q = some (.lst ((gs.map txt).map V.str)) := upd_same
    generalize upd G6 q (.lst ((gs.map txt).map V.str)) = G7 at s1 g1
    refine ⟨q, _, rfl, .inl ⟨.inl (.inl g1), fun t2 ht2 => ?_⟩⟩
    have s2 := Same.new (o := .tup ((gs.map txt).map V.str)) ht2
    have g2 : upd G7 t2 (.tup ((gs.map txt).map V.str)) t2 = some (.tup (gs.map vX)) := by rw [upd_same, List.map_map]; rfl
    generalize upd G7 t2 (.tup ((gs.map txt).map V.str)) = G8 at s2 g2
    have s12 := s1.trans s2
    refine ne_same (d := strD (gs.map txt)) (dpStr (s12 _ _ h2')) (dpStr g2) (strD_ok hok).1 (strD_ok hok).2 ?_
    refine ⟨_, rfl, (if_neg (by simp)).mpr ?_⟩
    refine ⟨_, rfl, x2, CI, dx, _, _, rfl, s12 _ _ h1, TI.cl, TI.nT, rfl, _, rfl, x1, CI, dx', _, _, rfl, s12 _ _ h1', TI.cl, TI.nT, rfl, ?_⟩
    refine ne_same (d := numD (sld (ixB cn n gs rs))) (dpNum (s12 _ _ h4)) (dpNum (s12 _ _ h4')) (numD_ok _).1 (numD_ok _).2 ?_
    refine ⟨_, rfl, (if_neg (by simp)).mpr ?_⟩
    refine ⟨_, rfl, x1, CI, dx', _, _, rfl, s12 _ _ h1', TI.cl, TI.nT, rfl, ta', sld (ixB cn n gs rs), rfl, s12 _ _ h4', hB.1, Nat.le_trans hB.2 (by decide), fun _ G s => ?_, fun hno => absurd (sld_within (ixB_lt hO.ft)) (hno _)⟩
    refine ⟨_, rfl, (if_neg (by simp)).mpr ?_⟩
    exact ⟨rfl, L6.same (s12.trans s)⟩
  rintro σ G7 ⟨rfl, L7⟩
  -- rows that tell no list
  refine ⟨fun σ G => ∃ y, σ = [some (.ref p), some (.ref ln), some (.ref lr), some (.ref x1), some (.ref lh), some (.ref x2), y, none, none, none, none, none, none, none] ∧ LsG T p c (m + 30) G CI x1 cn n gs rs lr as, ?_, ?_⟩
  · refine ⟨hz9 0 (by decide), fun t0 ht0 => ?_⟩
    have s0 := Same.new (o := .tup []) ht0
    have g0 : upd G7 t0 (.tup []) t0 = some (.tup []) := upd_same
    generalize upd G7 t0 (.tup []) = H1 at s0 g0
    refine ⟨t0, [], rfl, .inl (.inl g0), (fun b z => by cases z), by decide, fun t1 H2 s1 g1 => ?_⟩
    have L8 := L7.same (s0.trans s1)
    obtain ⟨dx', fa', ra', ta', h1', h2', h3', h4'⟩ := L8.ix.ex
    refine ⟨_, rfl, x1, CI, dx', _, _, rfl, h1', TI.cl, TI.nT, rfl, .str "x", ta', sld (ixB cn n gs rs), rfl, h4', hB.1, Nat.le_trans hB.2 (by decide), fun v hv t2 H3 s2 g2 => ?_, fun hno => absurd (sld_within (ixB_lt hO.ft)) (hno _)⟩
    obtain ⟨rfl, _, _⟩ := Reads3.one hv (sld_within (ixB_lt hO.ft))
    refine ⟨hz9 1 (by decide), fun u hu => ?_⟩
    have s3 := Same.new (o := .tup [V.int 0]) hu
    have g3 : upd H3 u (.tup [V.int 0]) u = some (.tup [V.int 0]) := upd_same
    generalize upd H3 u (.tup [V.int 0]) = H4 at s3 g3
    have hil := ix_len hO
    refine catA_of (.inl (.inl (s3 _ _ g2))) (.inl (.inl g3)) (by rw [List.length_map]; show _ + 1 ≤ _; omega) fun c' H5 s4 g4 => ?_
    have e4 : (ixB cn n gs rs).map nI ++ [V.int 0] = (ixB cn n gs rs ++ [0]).map nI := by rw [List.map_append]; rfl
    rw [e4] at g4
    have hb0 : ∀ b ∈ ixB cn n gs rs ++ [0], b < 256 := fun b hb => by
      rcases List.mem_append.mp hb with h | h
      · exact ixB_lt hO.ft b h
      · rw [List.mem_singleton.mp h]
        decide
    have hl0 : (ixB cn n gs rs ++ [0]).length ≤ 1001 := by rw [List.length_append]; show _ + 1 ≤ _; omega
    refine ⟨c', ixB cn n gs rs ++ [0], rfl, g4, hb0, by omega, fun t5 H6 s5 g5 => ⟨hz9 2 (by decide), fun l hl => ?_⟩⟩
    have s6 := Same.new (o := .lst [V.ref t1, V.ref t5]) hl
    have g6 : upd H6 l (.lst [V.ref t1, V.ref t5]) l = some (.lst [V.ref t1, V.ref t5]) := upd_same
    generalize upd H6 l (.lst [V.ref t1, V.ref t5]) = H7 at s6 g6
    have L9 := L8.same (s2.trans (s3.trans (s4.trans (s5.trans s6))))
    have g1' := s6 _ _ (s5 _ _ (s4 _ _ (s3 _ _ (s2 _ _ g1))))
    have g5' := s6 _ _ g5
    have hs0 := sld_big (v := ixB cn n gs rs ++ [0])
    refine ⟨l, rfl, ⟨_, .inl (.inl g6)⟩, for_list (K := K) (a := l) (xs := [V.ref t1, V.ref t5]) (fun i σ G => ∃ y, σ = [some (.ref p), some (.ref ln), some (.ref lr), some (.ref x1), some (.ref lh), some (.ref x2), y, none, none, none, none, none, none, none] ∧ LsG T p c (m + 30) G CI x1 cn n gs rs lr as ∧
      G l = some (.lst [V.ref t1, V.ref t5]) ∧ G t1 = some (.tup ((sld []).map nI)) ∧ G t5 = some (.tup ((sld (ixB cn n gs rs ++ [0])).map nI))) ⟨none, rfl, L9, g6, g1', g5'⟩ (fun i σ G _ ⟨_, _, _, h, _⟩ => .inl (.inl h)) ?_ ?_⟩
    · rintro i v σ G hv ⟨y, rfl, L, f1, f2, f3⟩
      obtain ⟨tq, row, rfl, f4, hno, hrb, hrl⟩ : ∃ tq row, v = .ref tq ∧ G tq = some (.tup (row.map nI)) ∧ NoIx row ∧ (∀ b ∈ row, b < 256) ∧ row.length ≤ 100000 := by
        match i, hv with
        | 0, hv =>
          obtain rfl := Option.some.inj hv
          exact ⟨t1, _, rfl, f2, .inr (.inl (sld_within (fun b z => by cases z))), sld_lt (fun b z => by cases z), Nat.le_trans (sld_big (v := []) (by decide)) (by decide)⟩
        | 1, hv =>
          obtain rfl := Option.some.inj hv
          refine ⟨t5, _, rfl, f3, .inr (.inr ⟨cn, n, gs, rs, [0], (by intro z; cases z), sld_within hb0, hW⟩), sld_lt hb0, ?_⟩
          rw [sld_len]
          have := wh_len (ixB cn n gs rs ++ [0]).length 2 (by omega) (by decide)
          omega
        | i + 2, hv => cases hv
      refine ⟨L.kp.tabs, fun H1' eN T1 R => ⟨_, rfl, .str "back", tq, row, rfl, ExtN.tup eN f4, hrb, hrl, .inr ⟨hno, fun d G' hE => ⟨d, .str "back", rfl, rfl, hE.2.2, ?_⟩⟩⟩⟩
      refine ⟨rfl, _, rfl, (if_neg (by simp)).mpr ?_⟩
      exact ⟨_, rfl, (L.ext eN T1).same hE.1, hE.1 _ _ (ExtN.lst eN f1), hE.1 _ _ (ExtN.tup eN f2), hE.1 _ _ (ExtN.tup eN f3)⟩
    · rintro σ G ⟨y, rfl, L, _⟩
      exact ⟨y, rfl, L⟩
  rintro σ G8 ⟨y6, rfl, L8⟩
  -- a changed row
  refine ⟨fun σ G => ∃ tb row, σ = [some (.ref p), some (.ref ln), some (.ref lr), some (.ref x1), some (.ref lh), some (.ref x2), y6, some (.ref tb), none, none, none, none, none, none] ∧ LsG T p c (m + 33) G CI x1 cn n gs rs lr as ∧ G tb = some (.tup (row.map nI)) ∧ Chg (sld (ixB cn n gs rs)) row, ?_, ?_⟩
  · obtain ⟨dx', fa', ra', ta', h1', h2', h3', h4'⟩ := L8.ix.ex
    refine ⟨_, rfl, _, rfl, x1, CI, dx', _, _, rfl, h1', TI.cl, TI.nT, rfl, p, c, ta', m + 30, sld (ixB cn n gs rs), rfl, L8.kp.pen, by omega, h4', ?_, hB.2, fun row' t G hP hC ht => ⟨t, row', rfl, L8.pn hP, ht, hC⟩⟩
    intro z
    have := congrArg List.length z
    rw [sld_len] at this
    have h0 : ([] : List Nat).length = 0 := rfl
    omega
  rintro σ G9 ⟨tb, row, rfl, L9, htb, hCh⟩
  refine ⟨fun σ G => σ = [some (.ref p), some (.ref ln), some (.ref lr), some (.ref x1), some (.ref lh), some (.ref x2), y6, some (.ref tb), none, none, none, none, none, none] ∧ LsG T p c (m + 33) G CI x1 cn n gs rs lr as, ?_, ?_⟩
  · have hl := chg_lt hB.1 hCh
    refine ⟨L9.kp.tabs, fun H1' eN T1 R => ⟨_, rfl, .str "next", tb, row, rfl, ExtN.tup eN htb, hl.1, by omega, .inr ⟨.inl (fun v => chg_no (ixB_lt hO.ft) (by have := ix_len hO; omega) hCh v), fun d G' hE => ⟨d, .str "next", rfl, rfl, hE.2.2, ?_⟩⟩⟩⟩
    have LA := (L9.ext eN T1).same hE.1
    refine ⟨rfl, _, rfl, (if_neg (by simp)).mpr ?_⟩
    refine ⟨hz9 0 (by decide), fun t0 ht0 => ?_⟩
    have s0 := Same.new (o := .tup []) ht0
    have g0 : upd G' t0 (.tup []) t0 = some (.tup []) := upd_same
    generalize upd G' t0 (.tup []) = H1 at s0 g0
    intro x dx hx hdx hne
    have s5 : Same H1 (upd (upd H1 dx (.own x)) x (.ins CI dx [])) := fun b o e => by
      rw [upd_ne (ne_of_none e hx), upd_ne (ne_of_none e hdx)]
      exact e
    refine ⟨x, dx, t0, d0, 1, 1, [], [], [], rfl, upd_same, .inr (.inl (.inl (s5 _ _ g0))), .inr (sqT_any hd0 _), ⟨rfl, fun i a z => by cases z⟩, ⟨by decide, by decide, by decide, (fun t z => by cases z), by decide, (fun t z => by cases z)⟩, fun fs' G2 pf hsf b ix => ⟨rfl, ?_⟩⟩
    have s6 : Same H1 G2 := fun bb o e => b bb o (s5 bb o e) (ne_of_none e hx)
    obtain ⟨dx2, fa2, ra2, ta2, i1, i2, i3, i4⟩ := ix.ex
    obtain ⟨as2, j1, j2, j3⟩ := i3.ex
    obtain rfl : as2 = [] := List.length_eq_zero_iff.mp j2
    refine ⟨x, CI, dx2, _, _, rfl, i1, TI.cl, TI.nR, rfl, hz9 0 (by decide), fun t3 ht3 => ?_⟩
    have s7 := Same.new (o := .tup []) ht3
    have g7 : upd G2 t3 (.tup []) t3 = some (.tup []) := upd_same
    generalize upd G2 t3 (.tup []) = G3' at s7 g7
    refine ne_same (d := .tuple []) (.tup (.inl (.inl (s7 _ _ j1))) .nil) (.tup (.inl (.inl g7)) .nil) (by decide) (by decide) ?_
    refine ⟨_, rfl, (if_neg (by simp)).mpr ?_⟩
    exact ⟨rfl, LA.same (s0.trans (s6.trans s7))⟩
  rintro σ GA ⟨rfl, LA⟩
  -- the names of the files
  refine ⟨hz9 0 (by decide), fun ld0 hld0 => ?_⟩
  have sB := Same.new (o := .lst []) hld0
  have gB : upd GA ld0 (.lst []) ld0 = some (.lst []) := upd_same
  have LB := LA.same sB
  generalize upd GA ld0 (.lst []) = GB at sB gB LB
  have hbig := hR.lt hrl
  have l64 : ∀ u : Nat, u < 1000 → (u : Int).natAbs.log2 < 1920 := fun u hu => by
    have : (u : Int).natAbs.log2 < 64 := PySem.Flt.log2_lt_of (by decide) (by rw [Int.natAbs_natCast]; exact Nat.lt_of_lt_of_le hu (by decide))
    omega
  have n64 : ∀ u : Nat, u < 1000 → u < 2 ^ 64 := fun u hu => Nat.lt_of_lt_of_le hu (by decide)
  have eNum : ∀ u : Nat, V.str (Str.ofString (toString (u : Int))) = V.str (S (TL.numL u)) := fun u => congrArg V.str (SX.num_S u)
  refine ⟨fun σ G => ∃ ld y9 y10, σ = [some (.ref p), some (.ref ln), some (.ref lr), some (.ref x1), some (.ref lh), some (.ref x2), y6, some (.ref tb), some (.ref ld), y9, y10, none, none, none] ∧ G lr = some (.lst (as.map V.ref)) ∧ TupsAt G as rs ∧ G ld = some (.lst ((nmF rs).map fun t => V.str (S t))), ?_, ?_⟩
  · refine ⟨_, rfl, lr, rfl, ⟨_, .inl (.inl LB.lr)⟩, for_list (K := K) (a := lr) (xs := as.map V.ref) (fun i σ G => ∃ ld y9 y10, σ = [some (.ref p), some (.ref ln), some (.ref lr), some (.ref x1), some (.ref lh), some (.ref x2), y6, some (.ref tb), some (.ref ld), y9, y10, none, none, none] ∧
      G lr = some (.lst (as.map V.ref)) ∧ TupsAt G as rs ∧ G ld = some (.lst ((nmF (rs.take i)).map fun t => V.str (S t)))) ⟨ld0, none, none, rfl, LB.lr, LB.tu, gB⟩ (fun i σ G _ ⟨_, _, _, _, h, _⟩ => .inl (.inl h)) ?_ ?_⟩
    · rintro i v σ G hv ⟨ld, y9, y10, rfl, h1, hT, h2⟩
      rw [List.getElem?_map] at hv
      cases ei : as[i]? with
      | none => rw [ei] at hv; cases hv
      | some ad =>
      rw [ei] at hv
      obtain rfl := Option.some.inj hv
      obtain ⟨u, t, er, had⟩ := hT.at_ i ad ei
      have hut := hbig (u, t) (List.mem_of_getElem? er)
      have hu1 : u < 1000 := hut.1
      have ht1 : t < 1000 := by have := hut.2; omega
      have hln := nmF_len (rs.take i)
      have hti : (rs.take i).length ≤ 3 := by rw [List.length_take]; omega
      have nu := num_len (n64 u hu1)
      have nt := num_len (n64 t ht1)
      obtain ⟨b, hb, hb2⟩ : ∃ b : Bool, decide ((t : Int) > 0) = b ∧ (b = true ↔ 0 < t) := ⟨_, rfl, by rw [decide_eq_true_eq]; omega⟩
      refine ⟨ad, _, rfl, .inl (.inl had), rfl, _, _, rfl, _, _, rfl, rfl, ?_⟩
      -- four names
      refine ⟨fun σ G => ∃ ld, σ = [some (.ref p), some (.ref ln), some (.ref lr), some (.ref x1), some (.ref lh), some (.ref x2), y6, some (.ref tb), some (.ref ld), some (nI u), some (nI t), none, none, none] ∧ G lr = some (.lst (as.map V.ref)) ∧ TupsAt G as rs ∧
        G ld = some (.lst ((nmF (rs.take i) ++ nEnds.map (nSg u)).map fun t => V.str (S t))), ?_, ?_⟩
      · refine ⟨_, rfl, hz9 4 (by decide), fun le hle => ⟨le, rfl, ⟨_, .inl (.inl upd_same)⟩, fun Dd hD => ?_⟩⟩
        have s1 := Same.new (o := .lst [V.str "lengths", V.str "papers", V.str "postings", V.str "words"]) hle
        have g1 : upd G le (.lst [V.str "lengths", V.str "papers", V.str "postings", V.str "words"]) le = some (.lst (nEnds.map fun t => V.str (S t))) := by rw [upd_same, ends_lit]
        generalize upd G le (.lst [V.str "lengths", V.str "papers", V.str "postings", V.str "words"]) = G' at s1 g1 hD
        refine lc_list (K := K) (a := le) (xs := nEnds.map fun t => V.str (S t)) (fun j G2 => Same G' G2 ∧ G2 Dd = some (.lst (((nEnds.take j).map (nSg u)).map fun t => V.str (S t)))) ⟨Same.new hD, upd_same⟩ (fun _ _ _ z => .inl (.inl (z.1 _ _ g1))) ?_ ?_
        · rintro j v G2 hv ⟨sm, hD2⟩
          rw [List.getElem?_map] at hv
          cases ej : nEnds[j]? with
          | none => rw [ej] at hv; cases hv
          | some e =>
          rw [ej] at hv
          obtain rfl := Option.some.inj hv
          have hel := ends_len e (List.mem_of_getElem? ej)
          refine ⟨rfl, ?_⟩
          simp only [tYes, if_true]
          refine ⟨_, rfl, (u : Int), rfl, l64 u hu1, S [115], S (TL.numL u), lit_s, eNum u, ?_, S ([115] ++ TL.numL u), S [46], by rw [S_cat], lit_dot, ?_, _, rfl, S ([115] ++ TL.numL u ++ [46]), S e, by rw [S_cat], rfl, ?_, _, hD2, ?_, Same.put sm hD, ?_⟩
          · rw [S_len, S_len, sizeLine_eq]
            show 1 + _ ≤ _
            omega
          · rw [S_len, S_len, sizeLine_eq, List.length_append]
            show 1 + _ + 1 ≤ _
            omega
          · rw [S_len, S_len, sizeLine_eq, List.length_append, List.length_append]
            show 1 + _ + 1 + _ ≤ _
            omega
          · rw [List.length_map, List.length_map, List.length_take, sizeLine_eq]
            have : nEnds.length = 4 := rfl
            omega
          · rw [upd_same, S_cat, List.take_add_one, ej, List.map_append, List.map_append]
            rfl
        · rintro G2 ⟨sm, hD2⟩
          have e4 : nEnds.take (nEnds.map fun t => V.str (S t)).length = nEnds := rfl
          rw [e4] at hD2
          have s2 := s1.trans sm
          refine ⟨ld, Dd, _, _, rfl, rfl, s2 _ _ h2, hD2, ?_, fun q hq => ?_⟩
          · rw [List.length_map, List.length_map, List.length_map, sizeLine_eq]
            have : nEnds.length = 4 := rfl
            omega
          · have s3 := s2.trans (Same.new (o := .lst (((nmF (rs.take i)).map fun t => V.str (S t)) ++ ((nEnds.map (nSg u)).map fun t => V.str (S t)))) hq)
            refine ⟨q, rfl, s3 _ _ h1, hT.same s3, ?_⟩
            rw [upd_same, ← List.map_append]
      rintro σ G1 ⟨ld1, rfl, h1, hT, h2⟩
      -- the marks
      refine ⟨fun σ G => ∃ ld, σ = [some (.ref p), some (.ref ln), some (.ref lr), some (.ref x1), some (.ref lh), some (.ref x2), y6, some (.ref tb), some (.ref ld), some (nI u), some (nI t), none, none, none] ∧ G lr = some (.lst (as.map V.ref)) ∧ TupsAt G as rs ∧
        G ld = some (.lst ((nmF (rs.take i) ++ nmR (u, t)).map fun t => V.str (S t))), ?_, ?_⟩
      · refine ⟨_, rfl, _, rfl, (u : Int), rfl, l64 u hu1, S [100], S (TL.numL u), lit_d, eNum u, ?_, S ([100] ++ TL.numL u), S [46], by rw [S_cat], lit_dot, ?_, _, rfl, (t : Int), rfl, l64 t ht1, S ([100] ++ TL.numL u ++ [46]), S (TL.numL t), by rw [S_cat], eNum t, ?_, hz9 1 (by decide), fun l1 hl1 => ?_⟩
        · rw [S_len, S_len, sizeLine_eq]
          show 1 + _ ≤ _
          omega
        · rw [S_len, S_len, sizeLine_eq, List.length_append]
          show 1 + _ + 1 ≤ _
          omega
        · rw [S_len, S_len, sizeLine_eq, List.length_append, List.length_append]
          show 1 + _ + 1 + _ ≤ _
          omega
        have s1 := Same.new (o := .lst [V.str (S ([100] ++ TL.numL u ++ [46]) ++ S (TL.numL t))]) hl1
        refine ⟨_, rfl, _, _, rfl, rfl, .inr ⟨b, congrArg (fun z => [V.bl z]) hb, l1, _, _, rfl, rfl, upd_same, ?_, ?_, ?_, fun q hq => ?_⟩⟩
        · cases b <;> decide
        · cases b <;> decide
        · cases b
          · exact Nat.zero_le _
          · show 1 ≤ sizeLine
            decide
        have s2 := s1.trans (Same.new (o := .lst (List.replicate (if b = true then (1 : Int) else 0).toNat [V.str (S ([100] ++ TL.numL u ++ [46]) ++ S (TL.numL t))]).flatten) hq)
        refine ⟨ld1, q, _, _, rfl, rfl, s2 _ _ h2, upd_same, ?_, fun q2 hq2 => ?_⟩
        · rw [List.length_map, List.length_append, List.length_map, sizeLine_eq]
          have : nEnds.length = 4 := rfl
          cases b
          · show _ + 0 ≤ _
            omega
          · show _ + 1 ≤ _
            omega
        · have s3 := s2.trans (Same.new (o := .lst (((nmF (rs.take i) ++ nEnds.map (nSg u)).map fun t => V.str (S t)) ++ (List.replicate (if b = true then (1 : Int) else 0).toNat [V.str (S ([100] ++ TL.numL u ++ [46]) ++ S (TL.numL t))]).flatten)) hq2)
          refine ⟨q2, rfl, s3 _ _ h1, hT.same s3, ?_⟩
          rw [upd_same, S_cat]
          unfold nmR
          rw [← List.append_assoc, List.map_append (l₁ := nmF (rs.take i) ++ nEnds.map (nSg (u, t).1))]
          cases b with
          | true =>
            rw [if_pos (show 0 < (u, t).2 from hb2.mp rfl)]
            rfl
          | false =>
            rw [if_neg (show ¬ 0 < (u, t).2 from fun z => by cases hb2.mpr z)]
            rfl
      rintro σ G2 ⟨ld2, rfl, h1, hT, h2⟩
      -- the four files
      refine ⟨fun σ G => σ = [some (.ref p), some (.ref ln), some (.ref lr), some (.ref x1), some (.ref lh), some (.ref x2), y6, some (.ref tb), some (.ref ld2), some (nI u), some (nI t), none, none, none] ∧ G lr = some (.lst (as.map V.ref)) ∧ TupsAt G as rs ∧
        G ld2 = some (.lst ((nmF (rs.take i) ++ nmR (u, t)).map fun t => V.str (S t))), ?_, ?_⟩
      · refine ⟨_, rfl, u, rfl, n64 u hu1, fun ta G3 s3 g3 => ?_⟩
        refine ⟨_, rfl, _, rfl, ld2, _, rfl, .inl (.inl (.inl (s3 _ _ h2))), _, _, rfl, rfl, _, rfl, _, _, rfl, rfl, .inr ⟨b, congrArg (fun z => [V.bl z]) hb, _, _, rfl, rfl, _, rfl, ?_⟩⟩
        have e4 : nEnds.length = 4 := rfl
        have eR : nmR (u, t) = nEnds.map (nSg u) ++ (if 0 < t then [nMf u t] else []) := rfl
        have elen : ((((nmF (rs.take i) ++ nmR (u, t)).map fun t => V.str (S t)).length : Nat) : Int) - 4 - (if b = true then (1 : Int) else 0) = (((nmF (rs.take i)).length : Nat) : Int) := by
          rw [List.length_map, List.length_append, eR, List.length_append, List.length_map, e4]
          cases b with
          | true =>
            rw [if_pos rfl, if_pos (hb2.mp rfl)]
            show ((_ + (4 + 1) : Nat) : Int) - 4 - 1 = _
            omega
          | false =>
            rw [if_neg (show ¬ 0 < t from fun z => by cases hb2.mpr z), if_neg (by decide)]
            show ((_ + (4 + 0) : Nat) : Int) - 4 - 0 = _
            omega
        have ecut : cutV ((nmF (rs.take i) ++ nmR (u, t)).map fun t => V.str (S t)) (some (((((nmF (rs.take i) ++ nmR (u, t)).map fun t => V.str (S t)).length : Nat) : Int) - 4 - (if b = true then (1 : Int) else 0))) none = (nmR (u, t)).map fun t => V.str (S t) := by
          rw [elen, cut_from, List.map_append]
          exact List.drop_left' (by rw [List.length_map])
        have ecut2 : cutV ((nmR (u, t)).map fun t => V.str (S t)) none (some 4) = (nEnds.map (nSg u)).map fun t => V.str (S t) := by
          have := cut_to (xs := (nmR (u, t)).map fun t => V.str (S t)) (k := 4)
          refine Eq.trans this ?_
          rw [eR, List.map_append]
          exact List.take_left' (by rw [List.length_map, List.length_map, e4])
        unfold tNoPart
        refine ⟨ld2, _, rfl, .inl (.inl (s3 _ _ h2)), fun q hq => ?_⟩
        rw [ecut]
        have s4 := s3.trans (Same.new (o := .lst ((nmR (u, t)).map fun t => V.str (S t))) hq)
        refine ⟨_, rfl, q, _, rfl, .inl (.inl upd_same), fun q2 hq2 => ?_⟩
        rw [ecut2]
        have s5 := s4.trans (Same.new (o := .lst ((nEnds.map (nSg u)).map fun t => V.str (S t))) hq2)
        refine ⟨q2, _, rfl, .inl ⟨.inl (.inl upd_same), fun t2 ht2 => ?_⟩⟩
        have s6 := s5.trans (Same.new (o := .tup ((nEnds.map (nSg u)).map fun t => V.str (S t))) ht2)
        have s36 := (Same.new (o := .lst ((nmR (u, t)).map fun t => V.str (S t))) hq).trans ((Same.new (o := .lst ((nEnds.map (nSg u)).map fun t => V.str (S t))) hq2).trans (Same.new (o := .tup ((nEnds.map (nSg u)).map fun t => V.str (S t))) ht2))
        refine ne_same (d := strD ((nEnds.map (nSg u)).map S)) (.tup (.inl (.inl (s36 _ _ g3))) (dpF _)) (.tup (.inl (.inl upd_same)) (dpF _)) (strD_ok sg4_ok).1 (strD_ok sg4_ok).2 ?_
        refine ⟨_, rfl, (if_neg (by simp)).mpr ?_⟩
        exact ⟨rfl, s6 _ _ h1, hT.same s6, s6 _ _ h2⟩
      rintro σ G3 ⟨rfl, h1, hT, h2⟩
      refine ⟨_, rfl, _, rfl, u, t, rfl, n64 u hu1, n64 t ht1, _, rfl, (u : Int), rfl, l64 u hu1, S [100], S (TL.numL u), lit_d, eNum u, ?_, S ([100] ++ TL.numL u), S [46], by rw [S_cat], lit_dot, ?_, _, rfl, (t : Int), rfl, l64 t ht1, S ([100] ++ TL.numL u ++ [46]), S (TL.numL t), by rw [S_cat], eNum t, ?_, ?_⟩
      · rw [S_len, S_len, sizeLine_eq]
        show 1 + _ ≤ _
        omega
      · rw [S_len, S_len, sizeLine_eq, List.length_append]
        show 1 + _ + 1 ≤ _
        omega
      · rw [S_len, S_len, sizeLine_eq, List.length_append, List.length_append]
        show 1 + _ + 1 + _ ≤ _
        omega
      refine ⟨rfl, _, rfl, (if_neg ?_).mpr ?_⟩
      · rw [S_cat]
        unfold nMf
        simp
      · refine ⟨ld2, _, _, rfl, h1, hT, ?_⟩
        rw [nmF_snoc er]
        exact h2
    · rintro σ G ⟨ld, y9, y10, rfl, h1, hT, h2⟩
      rw [List.length_map, hT.len, List.take_length] at h2
      exact ⟨ld, y9, y10, rfl, h1, hT, h2⟩
  rintro σ GC ⟨ld, y9, y10, rfl, h1, hT, h2⟩
  have hnl := nmF_len rs
  refine ⟨_, rfl, lr, as, rs, rfl, .inl (.inl h1), hT, by omega, hR.big hrl, fun ys t1 GD hys hsy s1 g1 => ?_⟩
  refine ⟨_, rfl, ld, (nmF rs).map S, rfl, .inl (.inl (by rw [List.map_map]; exact s1 _ _ h2)), by rw [List.length_map]; omega, fun a ha => ⟨a, _, rfl, upd_same, by rw [List.length_map]; omega, fun zs q hz hzn hmem hq => ?_⟩⟩
  have ez : zs = ys := So.one ((List.perm_ext_iff_of_nodup hzn (hys.nodup_iff.mpr hR.names)).mpr fun x => by rw [hmem x, hys.mem_iff]) hz hsy
  subst ez
  refine ⟨q, _, rfl, .inl ⟨.inl (.inl upd_same), fun t2 ht2 => ?_⟩⟩
  have s2 := (Same.new (o := TX.SetX w a ((nmF rs).map S)) ha).trans ((Same.new (o := .lst (zs.map V.str)) hq).trans (Same.new (o := .tup (zs.map V.str)) ht2))
  have okz : ∀ x ∈ zs, PyData.strOk x = true := fun x hx => nmF_ok x (hys.mem_iff.mp hx)
  exact eq_same (d := strD zs) (.tup (.inl (.inl (s2 _ _ g1))) (dpS _)) (.tup (.inl (.inl upd_same)) (dpS _)) (strD_ok okz).1 (strD_ok okz).2 (k _)
end
end Wq
set_option Elab.async false
set_option linter.all false
set_option maxRecDepth 100000
set_option maxHeartbeats 4000000
set_option exponentiation.threshold 5000
namespace Wq
open PySem PySem.Spec PyProof.Rows L2
open Rb (wh le un val Bp Wr rwa fb rdWhole rdSigns rdBits rdRaw rd Res many cutN)
open Crc (ck)
/-- marked numbers as the law draws them -/
structure Asc (ns : List Nat) (i : Nat) : Prop where
  lt : ∀ n ∈ ns, n < i
  eq : (List.range i).filter (fun k => decide (k ∈ ns)) = ns
theorem Asc.nil : Asc [] 0 := ⟨(fun n h => by cases h), rfl⟩
theorem Asc.skip {ns : List Nat} {i : Nat} (h : Asc ns i) : Asc ns (i + 1) := by
  refine ⟨fun n hn => Nat.lt_succ_of_lt (h.lt n hn), ?_⟩
  have hi : i ∉ ns := fun z => Nat.lt_irrefl _ (h.lt i z)
  rw [List.range_succ, List.filter_append, h.eq]
  simp [hi]
theorem Asc.add {ns : List Nat} {i : Nat} (h : Asc ns i) : Asc (ns ++ [i]) (i + 1) := by
  refine ⟨fun n hn => ?_, ?_⟩
  · rcases List.mem_append.mp hn with hn | hn
    · exact Nat.lt_succ_of_lt (h.lt n hn)
    · rw [List.mem_singleton.mp hn]
      exact Nat.lt_succ_self i
  · rw [List.range_succ, List.filter_append]
    have e : (List.range i).filter (fun k => decide (k ∈ ns ++ [i])) = (List.range i).filter (fun k => decide (k ∈ ns)) := List.filter_congr fun k hk => by
      have hk : k < i := List.mem_range.mp hk
      have : k ≠ i := Nat.ne_of_lt hk
      simp [this]
    rw [e, h.eq]
    simp
theorem mread_one {m : Nat} {ns : List Nat} {m' b : Nat} {bits : List Nat} (h : MRead (mkR m ns) m' bits b) : m' = m ∧ bits = mkF m ns ∧ b = (mkR m ns).length := by
  obtain ⟨c, h1, h2⟩ := h
  obtain ⟨c', h1', h2'⟩ := mk_read (m := m) ns
  rw [h1] at h1'
  cases h1'
  rw [h2] at h2'
  cases h2'
  exact ⟨rfl, rfl, rfl⟩
theorem mkR_len {m : Nat} (ns : List Nat) (h : m ≤ 40) : (mkR m ns).length ≤ 20 := by
  unfold mkR
  rw [List.length_append, Rb.le_len]
  have := wh_len m 1 (by omega) (by decide)
  omega
/-- a row that tells no marks -/
structure MBad (row : List Nat) : Prop where
  small : ∀ v m c, Within row v → rwa v 0 0 = .ok m c → m ≤ 1000
  no : ∀ v m bits b, Within row v → MRead v m bits b → b ≠ v.length
theorem MBad.none {row : List Nat} (h : ∀ v, ¬ Within row v) : MBad row := ⟨fun v _ _ hv => absurd hv (h v), fun v _ _ _ hv => absurd hv (h v)⟩
theorem MBad.odd {v : List Nat} (h : Odd v) (hb : ∀ b ∈ v, b < 256) : MBad (sld v) := by
  refine ⟨fun u m c hu hr => ?_, fun u m bits b hu hr => ?_⟩
  · obtain rfl := sld_one hb hu
    exact h.small hr
  · obtain rfl := sld_one hb hu
    exact h.no hr
theorem wh1 {n : Nat} (h : n ≤ 127) : wh n = [n] := Rb.wh_small (by omega)
end Wq
set_option Elab.async false
set_option linter.all false
set_option maxRecDepth 100000
set_option maxHeartbeats 8000000
set_option exponentiation.threshold 9000
namespace Wq
open PySem PySem.Spec PyProof.Rows L2
open LamX (ExtN Tabs TabS TabB CodeO)
open Rb (wh le un val Bp Wr rwa fb rdWhole rdSigns rdBits rdRaw rd Res many cutN)
open Crc (ck)
/-! the law -/
abbrev sLaw : Stmt := top 47
abbrev NLaw : List Str := ["_law_script", "_law_pen_here", "_law_row", "_law_told", "_law_spots", "_law_k", "_law_bad", "_law_many", "_law_numbers", "_law_marks", "_law_odd", "_law_spoilt"]
theorem scLaw : FnScope NLaw ["_law_script"] (defScope sLaw) := ⟨rfl, rfl, rfl, by decide +kernel, rfl, by decide +kernel, by decide +kernel⟩
def qLaw : Str := (Str.ofString "law" ++ ".<locals>.") ++ "<lambda>"
def spLaw (T : List (Addr × Str)) (K : PySem.W.Frag) : Sp := fun vs H Q _ => ∃ (a : Addr) (ns : List Int), vs = [.ref a] ∧ SqL K H a (ns.map V.int) ∧ Tabs T H ∧ ∀ G, Q (.bl true) G
structure ClsW (P : Program) (w : World) (K : PySem.W.Frag) (mg : Str → Option Value) (base : Heap) (CT CI : Addr) : Prop extends ClsL P w K mg base CT CI where
  pen : Cl P w K mg base 1 "_law_pen" (spPen K)
  pick : Cl P w K mg base 2 "_law_pick" (spPick K)
  ls : Cl P w K mg base 4 "_law_sealed" (spLS K)
  lw : Cl P w K mg base 3 "_law_whole" spWo
  mr : Cl P w K mg base 4 "marked_row" (spMR K)
  lm : Cl P w K mg base 5 "_law_marked" (spLM K)
  mfr : Cle P w K mg base 8 "marked_from" (spMF CT)
theorem sIx_m1 (n d : Nat) : HT.sIx n d (some (-1)) = n - 1 := by
  show (if (-1 : Int) < 0 then (-1 + (n : Int)).toNat else min (-1 : Int).toNat n) = _
  rw [if_pos (by decide)]
  omega
theorem slA_m1 {K : PySem.W.Frag} {H : Hp} {q : Addr} {row : List Nat} {z : Int} {Q : VK} (hz : z = -1) (hq : H q = some (.tup (row.map nI))) (h : 1 ≤ row.length)
    (k : ∀ l H', Same H H' → H' l = some (.tup ((row.take (row.length - 1)).map nI)) → Q (.ref l) H') : rSlA K (.ref q) none (some z) H Q := by
  subst hz
  refine ⟨q, _, rfl, .inl (.inl hq), fun hw => ?_, fun _ l hl => ?_⟩
  · rw [sIx_m1, List.length_map] at hw
    omega
  · refine k l _ (Same.new hl) ?_
    rw [upd_same, List.map_take]
    refine congrArg (fun z => some (HO.tup z)) ?_
    unfold cutV
    rw [sIx_m1, HT.sIx_none, List.drop_zero, Nat.sub_zero, List.length_map]
theorem pick4 {i : Nat} {v : V} (h : [V.int 4, V.int 30, V.int 140, V.int 300][i]? = some v) : ∃ n : Int, v = .int n ∧ 0 < n ∧ n ≤ 300 := by
  match i, h with
  | 0, h => exact ⟨4, (Option.some.inj h).symm, by decide, by decide⟩
  | 1, h => exact ⟨30, (Option.some.inj h).symm, by decide, by decide⟩
  | 2, h => exact ⟨140, (Option.some.inj h).symm, by decide, by decide⟩
  | 3, h => exact ⟨300, (Option.some.inj h).symm, by decide, by decide⟩
theorem lt4000 {n : Nat} (h : n < 2 ^ 4) : n < 2 ^ 4000 := Nat.lt_of_lt_of_le h (Nat.pow_le_pow_right (by decide) (by decide))
theorem Kp.pn {T : List (Addr × Str)} {p c : Addr} {m m' : Nat} {G G' : Hp} (h : Kp T p c m G) (q : Pn p c m' G G') : Kp T p c m' G' := by
  obtain ⟨kvs, hk⟩ := h.pen.dict
  exact ⟨q.pen, Tabs.but h.tabs hk q.sp⟩
theorem PenAt.tup {H : Hp} {p c l : Addr} {m : Nat} {xs : List V} {o : HO} (h : PenAt H p c m) (hl : H l = some (.tup xs)) : upd H p o l = some (.tup xs) := by
  obtain ⟨kvs, hk⟩ := h.dict
  rw [upd_ne (ne_of hl hk (by intro z; cases z))]
  exact hl
theorem pairD_ok (m : Nat) (l : List Nat) : (PyData.tuple [.int (m : Int), numD l]).canLay0 = true ∧ (PyData.tuple [.int (m : Int), numD l]).depth ≤ 64 := by
  have h := numD_ok l
  have e : (numD l).depth = 1 := by
    unfold numD
    simp only [PyData.depth, (layN l).2]
  constructor
  · refine lay_tup ?_
    simp only [PyData.canLayAll0, PyData.canLay0, h.1, Bool.and_self, Bool.true_and, Bool.and_true]
  · simp only [PyData.depth, PyData.depthAll, e]
    omega
theorem rg_n (n : Nat) : rgV 0 (n : Int) = (List.range n).map nI := by
  unfold rgV
  have e : ((n : Int) - 0).toNat = n := by omega
  rw [e]
  refine List.map_congr_left fun i _ => ?_
  exact congrArg V.int (by omega)
/-- what the law keeps of its row -/
structure WK (T : List (Addr × Str)) (p c : Addr) (M : Nat) (G : Hp) (q t : Addr) (row : List Nat) : Prop where
  kp : Kp T p c M G
  hq : G q = some (.tup (row.map nI))
  ht : G t = some (.tup ((sld row).map nI))
section
variable {T : List (Addr × Str)} {p c q t : Addr} {M M' : Nat} {G G' : Hp} {row : List Nat} {o : HO}
theorem WK.same (h : WK T p c M G q t row) (s : Same G G') : WK T p c M G' q t row := ⟨h.kp.same s, s _ _ h.hq, s _ _ h.ht⟩
theorem WK.ext (h : WK T p c M G q t row) (e : ExtN G G') (u : Tabs T G') : WK T p c M G' q t row := ⟨h.kp.ext e u, ExtN.tup e h.hq, ExtN.tup e h.ht⟩
theorem WK.pn (h : WK T p c M G q t row) (n : Pn p c M' G G') : WK T p c M' G' q t row := ⟨h.kp.pn n, n.tup h.hq, n.tup h.ht⟩
theorem WK.draw (h : WK T p c M G q t row) (n : PenAt (upd G p o) p c M') : WK T p c M' (upd G p o) q t row := ⟨h.kp.draw n, h.kp.pen.tup h.hq, h.kp.pen.tup h.ht⟩
theorem WK.mono (h : WK T p c M G q t row) (k : M ≤ M') : WK T p c M' G q t row := ⟨h.kp.mono k, h.hq, h.ht⟩
end
section
variable {P : Program} {w : World} {K : PySem.W.Frag} {mg : Str → Option Value} {base : Heap} {CT CI : Addr}
theorem ok_law {T : List (Addr × Str)} {cc PT fg : Addr} {oc : Value} {od : Option Addr} {kV doc pm : Value} {an : Option Addr} {ct : Value} {osl : Array (Option Value)}
    (lk : K.lookup fg = some ⟨oc, od, .func (PySem.W.fnOf "law" "law" (defArgs sLaw) (defBody sLaw) (defScope sLaw) .none kV doc pm an (.ref cc) ct), osl⟩) (hcd : PySem.W.codeIn K (.ref cc) "law" = true)
    (TB : TabB base mg cc PT) (hmT : (PT, qLaw) ∈ T) (hu : ∀ q ∈ T, q.1 = PT → q.2 = qLaw) (DT : DefAt K mg "_law_torn" sTo) (O : TxtTo K mg CT)
    (TT : Txt K mg) (C : ClsW P w K mg base CT CI) (CL : Cl P w K mg base 13 "_law_lists_right" (spLL T)) :
    FnOk P w K mg base CX0 14 fg (PySem.W.fnOf "law" "law" (defArgs sLaw) (defBody sLaw) (defScope sLaw) .none kV doc pm an (.ref cc) ct) ["_law_script"] (spLaw T K) := by
  obtain ⟨fu, fdu, psu, GU, hmu, kpu, bU⟩ := C.us
  obtain ⟨fm, fdm, psm, GM, hmm, kpm, bM⟩ := C.mfr
  refine fn_of lk hcd scLaw (fun vs H Q E h => ?_) fun A outer s H vs Q E hr h => ?_
  · obtain ⟨a, ns, rfl, _⟩ := h
    rfl
  obtain ⟨a, ns, rfl, hS, hTab, k⟩ := h
  refine ⟨_, PSs.nox (C8.pss_cut (ps_set (i := 1) scLaw.nd rfl (Or.inr rfl) (pe_cl C.pen hr (by decide) rfl (pa_cons (pv 0) pa_nil)))
(C8.pss_cut (ps_set (i := 2) scLaw.nd rfl (Or.inl rfl) (pe_callTy call_tuple_of (by rfl) (by exact TT.tuple) (by decide +kernel) (pa_cons (pe_lc (own := [("_law_k", 5)]) (g := gName 5) (tt := tYes) (te := tCall (spDraw K) [] E0 (tCons (tVar 1) (tCons (tC (.int 256)) tNil))) (by rfl) scLaw.nd (pi_range1 rfl (by exact TT.range) (pa_cons (pe_cl C.draw hr (by decide) rfl (pa_cons (pv 1) (pa_cons (pe_cl C.pick hr (by decide) rfl (pa_cons (pv 1) (pa_cons (pe_lst (pa_cons pe_int (pa_cons pe_int (pa_cons pe_int (pa_cons pe_int pa_nil))))) pa_nil))) pa_nil))) pa_nil)) (blkOk_by (own := [("_law_k", 5)]) (N := NLaw) (sc := defScope sLaw) (by decide +kernel)) (fun _ _ _ _ _ => (pg_name (i := 5) scLaw.nd rfl (Or.inl rfl))) (fun _ _ _ _ _ => pts_nil) (fun _ _ _ _ _ => (pe_cl C.draw hr (by decide) rfl (pa_cons (pv 1) (pa_cons pe_int pa_nil))))) pa_nil)))
(C8.pss_cut (ps_set (i := 3) scLaw.nd rfl (Or.inr rfl) (pe_cl C.se hr (by decide) rfl (pa_cons (pv 2) pa_nil)))
(C8.pss_cut (ps_if (PW.pt (pw_or (pt_cmpR (op_neD (hu64 hr)) (pv 3) (pe_cl C.ls hr (by decide) rfl (pa_cons (pv 2) pa_nil)) (nomark _)) (pw_or (pt_not (pt_val (pe_cl C.wo hr (by decide) rfl (pa_cons (pv 3) pa_nil)))) (pw_or1 (pt_cmpR (op_neD (hu64 hr)) (pe_call GU (hr.mono (by decide)) rfl hmu kpu bU .nil passX (pa_cons pe_str (pa_cons (pv 3) pa_nil))) (pv 2) (nomark _))))))
(pss_one (ps_ret pe_bl))
pss_nil)
(pss_cons (ps_set (i := 4) scLaw.nd rfl (Or.inl rfl) (pe_listRg rfl rfl (by exact TT.list) (prg_1 rfl (by exact TT.range) (pe_callB call_len_seq (by rfl) (by exact TT.len) PySem.boot_len (pa_cons (pv 3) pa_nil)))))
(C8.pss_cut (ps_if (pt_cmpR op_gt (pe_callB call_len_seq (by rfl) (by exact TT.len) PySem.boot_len (pa_cons (pv 3) pa_nil)) pe_int (nomark _))
(pss_one (ps_set (i := 4) scLaw.nd rfl (Or.inl rfl) (pe_lst (pa_cons pe_int (pa_cons pe_int (pa_cons pe_int (pa_cons pe_int (pa_cons pe_int (pa_cons (pe_callB call_len_seq (by rfl) (by exact TT.len) PySem.boot_len (pa_cons (pv 2) pa_nil)) (pa_cons (pe_op op_add (pe_callB call_len_seq (by rfl) (by exact TT.len) PySem.boot_len (pa_cons (pv 2) pa_nil)) pe_int) (pa_cons (pe_op op_sub (pe_callB call_len_seq (by rfl) (by exact TT.len) PySem.boot_len (pa_cons (pv 3) pa_nil)) pe_int) (pa_cons (pe_cl C.draw hr (by decide) rfl (pa_cons (pv 1) (pa_cons (pe_callB call_len_seq (by rfl) (by exact TT.len) PySem.boot_len (pa_cons (pv 3) pa_nil)) pa_nil))) pa_nil))))))))))))
pss_nil)
(C8.pss_cut (ps_for PassesOwn.never rfl (pi_list (pv 4)) (pg_name (i := 5) scLaw.nd rfl (Or.inr rfl))
(pss_one (ps_if (PW.pt (pw_or (pt_val (pe_cl C.wo hr (by decide) rfl (pa_cons (pe_slice sl_tupA (pv 3) po_none (po_some (pv 5))) pa_nil))) (pw_or1 (pt_cmpR op_ne (pe_torn (T := T) (c := cc) (P := PT) (k := 10) (t := fun E => tCall (spUn CT) [] E (tCons (tC (.str "y")) (tCons (tSl (rSlA K) (tVar 3) tNoPart (tPart (tVar 5))) tNil))) DT O rfl TB rfl hmT hu (hr.mono (by decide)) (LamX.lamS_by (sc := defScope sLaw) (by decide +kernel)) rfl (fun _ _ _ _ _ => rfl) (fun _ _ _ _ _ _ _ hr' => pe_call GU (hr'.mono (by decide)) rfl hmu kpu bU .nil (passes_call (takes_of rfl rfl rfl rfl) (fun _ _ _ _ h => h)) (pa_cons pe_str (pa_cons (pe_slice sl_tupA (pv 3) po_none (po_some (pv 5))) pa_nil)))) pe_str (nomark _)))))
(pss_one (ps_ret pe_bl))
pss_nil)))
(C8.pss_cut (ps_set (i := 6) scLaw.nd rfl (Or.inr rfl) (pe_cl C.ch hr (by decide) rfl (pa_cons (pv 1) (pa_cons (pv 3) pa_nil))))
(C8.pss_cut (ps_if (PW.pt (pw_or (pt_val (pe_cl C.wo hr (by decide) rfl (pa_cons (pv 6) pa_nil))) (pw_or1 (pt_cmpR op_ne (pe_torn (T := T) (c := cc) (P := PT) (k := 10) (t := fun E => tCall (spUn CT) [] E (tCons (tC (.str "z")) (tCons (tVar 6) tNil))) DT O rfl TB rfl hmT hu (hr.mono (by decide)) (LamX.lamS_by (sc := defScope sLaw) (by decide +kernel)) rfl (fun _ _ _ _ _ => rfl) (fun _ _ _ _ _ _ _ hr' => pe_call GU (hr'.mono (by decide)) rfl hmu kpu bU .nil (passes_call (takes_of rfl rfl rfl rfl) (fun _ _ _ _ h => h)) (pa_cons pe_str (pa_cons (pv 6) pa_nil)))) pe_str (nomark _)))))
(pss_one (ps_ret pe_bl))
pss_nil)
(C8.pss_cut (ps_set (i := 7) scLaw.nd rfl (Or.inl rfl) (pe_cl C.draw hr (by decide) rfl (pa_cons (pv 1) (pa_cons pe_int pa_nil))))
(C8.pss_cut (ps_setLc (i := 8) (own := [("_law_k", 5)]) (g := gName 5) (tt := tTest (tOp rEq (tCall (spDraw K) [] E0 (tCons (tVar 1) (tCons (tC (.int 3)) tNil))) (tC (.int 0)))) (by rfl) scLaw.nd rfl rfl (sw_true rfl rfl rfl (by decide +kernel)) (pi_range1 rfl (by exact TT.range) (pa_cons (pv 7) pa_nil)) (blkOk_by (own := [("_law_k", 5)]) (N := NLaw) (sc := defScope sLaw) (by decide +kernel)) (fun _ _ _ _ _ => (pg_name (i := 5) scLaw.nd rfl (Or.inl rfl))) (fun _ _ _ _ _ => (pts_one (pt_cmpR op_eq (pe_cl C.draw hr (by decide) rfl (pa_cons (pv 1) (pa_cons pe_int pa_nil))) pe_int (nomark _)))) (fun _ _ _ _ _ => (pv 5)))
(C8.pss_cut (ps_set (i := 9) scLaw.nd rfl (Or.inl rfl) (pe_cl C.mr hr (by decide) rfl (pa_cons (pv 7) (pa_cons (pv 8) pa_nil))))
(C8.pss_cut (ps_if (PW.pt (pw_or (pt_cmpR (op_neD (hu64 hr)) (pv 9) (pe_cl C.lm hr (by decide) rfl (pa_cons (pv 7) (pa_cons (pv 8) pa_nil))) (nomark _)) (pw_or1 (pt_cmpR (op_neD (hu64 hr)) (pe_call GM (hr.mono (by decide)) rfl hmm kpm bM .nil passX (pa_cons pe_str (pa_cons (pv 9) pa_nil))) (pe_tup (pa_cons (pv 7) (pa_cons (pe_callTy call_tuple_of (by rfl) (by exact TT.tuple) (by decide +kernel) (pa_cons (pv 8) pa_nil)) pa_nil))) (nomark _)))))
(pss_one (ps_ret pe_bl))
pss_nil)
(C8.pss_cut (ps_set (i := 10) scLaw.nd rfl (Or.inl rfl) (pe_lst (pa_cons (pe_cl C.se hr (by decide) rfl (pa_cons (pe_op op_catA (pe_cl C.lw hr (by decide) rfl (pa_cons pe_int pa_nil)) (pe_tup (pa_cons pe_int pa_nil))) pa_nil)) (pa_cons (pe_cl C.se hr (by decide) rfl (pa_cons (pe_op op_catA (pe_cl C.lw hr (by decide) rfl (pa_cons pe_int pa_nil)) (pe_tup (pa_cons pe_int pa_nil))) pa_nil)) (pa_cons (pe_cl C.se hr (by decide) rfl (pa_cons (pe_op op_catA (pe_cl C.lw hr (by decide) rfl (pa_cons pe_int pa_nil)) (pe_tup (pa_cons pe_int (pa_cons pe_int pa_nil)))) pa_nil)) pa_nil)))))
(C8.pss_cut (ps_set (i := 11) scLaw.nd rfl (Or.inr rfl) (pe_cl C.pick hr (by decide) rfl (pa_cons (pv 1) (pa_cons (pe_op op_cat (pv 10) (pe_lst (pa_cons (pe_cl C.ch hr (by decide) rfl (pa_cons (pv 1) (pa_cons (pv 9) pa_nil))) (pa_cons (pe_slice sl_tupA (pv 9) po_none (po_some (pe_un un_neg pe_int))) pa_nil)))) pa_nil))))
(C8.pss_cut (ps_if (pt_cmpR op_ne (pe_torn (T := T) (c := cc) (P := PT) (k := 10) (t := fun E => tCall (spMF CT) [] E (tCons (tC (.str "d1.1")) (tCons (tVar 11) tNil))) DT O rfl TB rfl hmT hu (hr.mono (by decide)) (LamX.lamS_by (sc := defScope sLaw) (by decide +kernel)) rfl (fun _ _ _ _ _ => rfl) (fun _ _ _ _ _ _ _ hr' => pe_call GM (hr'.mono (by decide)) rfl hmm kpm bM .nil (passes_call (takes_of rfl rfl rfl rfl) (fun _ _ _ _ h => h)) (pa_cons pe_str (pa_cons (pv 11) pa_nil)))) pe_str (nomark _))
(pss_one (ps_ret pe_bl))
pss_nil)
(pss_one (ps_ret (pe_cl CL hr (by decide) rfl (pa_cons (pv 1) pa_nil)))))))))))))))))))), ?_⟩
  have hz9 : ∀ n, n ≤ 9 → n ≤ sizeLine := fun n h => by rw [sizeLine_eq]; omega
  refine ⟨fun σ G => ∃ (p c : Addr), σ = [some (.ref a), some (.ref p), none, none, none, none, none, none, none, none, none, none] ∧ Kp T p c 0 G, ?_, ?_⟩
  · exact ⟨_, rfl, a, ns, rfl, hS, fun p c H' _ s hP => ⟨p, c, rfl, hP, hTab.ext s⟩⟩
  rintro σ G1 ⟨p, c, rfl, hK1⟩
  -- the row
  refine ⟨fun σ G => ∃ (q : Addr) (row : List Nat), σ = [some (.ref a), some (.ref p), some (.ref q), none, none, none, none, none, none, none, none, none] ∧ Kp T p c 400 G ∧ G q = some (.tup (row.map nI)) ∧ (∀ b ∈ row, b < 256) ∧ row.length ≤ 300, ?_, ?_⟩
  · refine ⟨_, rfl, _, rfl, hz9 4 (by decide), fun l hl => ?_⟩
    have hK2 := hK1.put (o := .lst [V.int 4, V.int 30, V.int 140, V.int 300]) hl
    have g2 : upd G1 l (.lst [V.int 4, V.int 30, V.int 140, V.int 300]) l = some (.lst [V.int 4, V.int 30, V.int 140, V.int 300]) := upd_same
    generalize upd G1 l (.lst [V.int 4, V.int 30, V.int 140, V.int 300]) = G2 at hK2 g2
    refine ⟨p, c, 0, _, _, rfl, hK2.pen, .lst (.inl (.inl g2)), by decide, by decide, by decide, fun i v o hv hP => ?_⟩
    obtain ⟨n, rfl, n0, n1⟩ := pick4 hv
    have hK3 := hK2.draw hP
    generalize upd G2 p o = G3 at hK3
    refine ⟨p, c, 1, n, rfl, hK3.pen, by decide, n0, log_ok n0 (by omega), fun v o a0 b0 hP => ⟨v, rfl, by omega, by omega, fun Dd hD => ?_⟩⟩
    have hK4 := hK3.draw hP
    generalize upd G3 p o = G4 at hK4 hD
    obtain ⟨_, hc4⟩ := hK4.pen.cells
    have nDc : Dd ≠ c := (ne_of_none hc4 hD).symm
    refine lc_range (lo := 0) (n := v.toNat) (fun i G => ∃ row : List Nat, Kp T p c (2 + i) G ∧ G Dd = some (.lst (row.map nI)) ∧ (∀ b ∈ row, b < 256) ∧ row.length = i) ⟨[], hK4.put hD, upd_same, (fun b z => by cases z), rfl⟩ ?_ ?_
    · rintro i G hi ⟨row, hk, h1, h2, h3⟩
      refine ⟨rfl, ?_⟩
      simp only [tYes, if_true]
      refine ⟨_, rfl, p, c, 2 + i, 256, rfl, hk.pen, by omega, by decide, log_ok (by decide) (by decide), fun x o a1 b1 hP => ?_⟩
      have hk2 := hk.draw hP
      have g1 := hk.pen.lst (o := o) h1
      have e1 : V.int x = nI x.toNat := congrArg V.int (by omega)
      rw [e1]
      refine ⟨_, g1, ?_, row ++ [x.toNat], hk2.up g1 nDc, ?_, ?_, ?_⟩
      · rw [List.length_map, sizeLine_eq]
        omega
      · rw [upd_same, List.map_append]
        rfl
      · intro b hb
        rcases List.mem_append.mp hb with hb | hb
        · exact h2 b hb
        · rw [List.mem_singleton.mp hb]
          omega
      · rw [List.length_append, h3]
        rfl
    · rintro G ⟨row, hk, h1, h2, h3⟩
      refine ⟨Dd, _, rfl, .inl ⟨.inl (.inl h1), fun u hu => ?_⟩⟩
      exact ⟨u, row, rfl, (hk.put hu).mono (by omega), upd_same, h2, by omega⟩
  rintro σ G2 ⟨q, row, rfl, hK2, hq2, hb, hl⟩
  have hSl : (sld row).length ≤ 1000 := by
    rw [sld_len]
    have := wh_len row.length 2 (by omega) (by decide)
    omega
  have hSb := sld_lt hb
  have hSg : row.length + 5 ≤ (sld row).length := by
    rw [sld_len]
    have : 1 ≤ (wh row.length).length := by
      unfold wh
      split
      · show 1 ≤ _ + 1
        omega
      · show 1 ≤ 1
        omega
    omega
  -- sealed
  refine ⟨fun σ G => ∃ t : Addr, σ = [some (.ref a), some (.ref p), some (.ref q), some (.ref t), none, none, none, none, none, none, none, none] ∧ Kp T p c 400 G ∧ G q = some (.tup (row.map nI)) ∧ G t = some (.tup ((sld row).map nI)), ?_, ?_⟩
  · exact ⟨_, rfl, q, row, rfl, .inl (.inl hq2), hb, by omega, fun t G s ht => ⟨t, rfl, hK2.same s, s _ _ hq2, ht⟩⟩
  rintro σ G3 ⟨t, rfl, hK3, hq3, ht3⟩
  refine ⟨fun σ G => σ = [some (.ref a), some (.ref p), some (.ref q), some (.ref t), none, none, none, none, none, none, none, none] ∧ Kp T p c 400 G ∧ G q = some (.tup (row.map nI)) ∧ G t = some (.tup ((sld row).map nI)), ?_, ?_⟩
  · refine ⟨_, rfl, _, rfl, q, row, rfl, .inl (.inl hq3), hb, by omega, fun t2 G4 s4 ht2 => ?_⟩
    refine ne_same (d := numD (sld row)) (dpNum (s4 _ _ ht3)) (.tup ht2 (dpN _)) (numD_ok _).1 (numD_ok _).2 ?_
    refine ⟨_, rfl, (if_neg (by simp)).mpr ?_⟩
    refine ⟨_, rfl, t, sld row, rfl, s4 _ _ ht3, hSb, by omega, fun _ G5 s5 => ?_, fun hno => absurd (sld_within hb) (hno _)⟩
    refine ⟨_, rfl, (if_neg (by simp)).mpr ?_⟩
    have s45 := s4.trans s5
    refine ⟨_, rfl, _, t, sld row, rfl, s45 _ _ ht3, hSb, by omega, fun v hv t6 G6 s6 g6 => ?_, fun hno => absurd (sld_within hb) (hno _)⟩
    obtain rfl := sld_one hb hv
    have s46 := s45.trans s6
    refine ⟨_, rfl, ne_same (d := numD v) (dpNum g6) (dpNum (s46 _ _ hq3)) (numD_ok _).1 (numD_ok _).2 ?_⟩
    refine ⟨_, rfl, (if_neg (by simp)).mpr ?_⟩
    exact ⟨rfl, hK3.same s46, s46 _ _ hq3, s46 _ _ ht3⟩
  rintro σ G4 ⟨rfl, hK4, hq4, ht4⟩
  -- the spots
  have W4 : WK T p c 400 G4 q t row := ⟨hK4, hq4, ht4⟩
  clear hK4 hq4 ht4
  refine ⟨_, rfl, t, _, rfl, .inr (.inl (.inl W4.ht)), _, rfl, RgOk.of_le (by decide) (by rw [List.length_map]; omega) (by decide) (by omega), fun ls hls => ?_⟩
  have s5 := Same.new (o := .lst (rgV 0 (((sld row).map nI).length : Int))) hls
  have g5 : upd G4 ls (.lst (rgV 0 (((sld row).map nI).length : Int))) ls = some (.lst ((List.range (sld row).length).map nI)) := by rw [upd_same, List.length_map, rg_n]
  have W5 := W4.same s5
  generalize upd G4 ls (.lst (rgV 0 (((sld row).map nI).length : Int))) = G5 at s5 g5 W5
  refine ⟨fun σ G => ∃ (ls : Addr) (sp : List Nat), σ = [some (.ref a), some (.ref p), some (.ref q), some (.ref t), some (.ref ls), none, none, none, none, none, none, none] ∧ WK T p c 401 G q t row ∧ G ls = some (.lst (sp.map nI)) ∧ ∀ k ∈ sp, k < (sld row).length, ?_, ?_⟩
  · refine ⟨_, rfl, t, _, rfl, .inr (.inl (.inl W5.ht)), _, _, rfl, rfl, _, rfl, ?_⟩
    refine ite2 (fun hgt => ?_) (fun _ => ⟨ls, _, rfl, W5.mono (by decide), g5, fun k hk => List.mem_range.mp hk⟩)
    have hgt := of_decide_eq_true hgt
    rw [List.length_map] at hgt
    refine ⟨_, rfl, q, _, rfl, .inr (.inl (.inl W5.hq)), _, rfl, q, _, rfl, .inr (.inl (.inl W5.hq)), _, _, rfl, rfl, _, rfl, t, _, rfl, .inr (.inl (.inl W5.ht)), _, _, rfl, rfl, _, rfl, _, rfl, t, _, rfl, .inr (.inl (.inl W5.ht)), p, c, 400, _, rfl, W5.kp.pen, by decide, by rw [List.length_map]; omega,
      log_ok (by rw [List.length_map]; omega) (by rw [List.length_map]; omega), fun v o v0 v1 hP => ⟨hz9 9 (by decide), fun l2 hl2 => ?_⟩⟩
    rw [List.length_map] at v1
    have W6 := W5.draw hP
    generalize upd G5 p o = G6 at W6 hl2
    have s7 := fun o => Same.new (o := o) hl2
    refine ⟨l2, [0, 1, 2, 4, 5, row.length, row.length + 1, (sld row).length - 1, v.toNat], rfl, W6.same (s7 _), ?_, fun k hk => ?_⟩
    · have e1 : nI row.length = V.int ((row.map nI).length : Int) := by rw [List.length_map]
      have e2 : nI (row.length + 1) = V.int (((row.map nI).length : Int) + 1) := congrArg V.int (by rw [List.length_map]; omega)
      have e3 : nI ((sld row).length - 1) = V.int ((((sld row).map nI).length : Int) - 1) := congrArg V.int (by rw [List.length_map]; omega)
      have e4 : nI v.toNat = V.int v := congrArg V.int (by omega)
      simp only [List.map_cons, List.map_nil]
      rw [upd_same, e1, e2, e3, e4]
      rfl
    · simp only [List.mem_cons, List.not_mem_nil, or_false] at hk
      omega
  rintro σ G6 ⟨ls6, sp, rfl, W6, hs6, hsp⟩
  -- cut at each spot
  refine ⟨fun σ G => ∃ y, σ = [some (.ref a), some (.ref p), some (.ref q), some (.ref t), some (.ref ls6), y, none, none, none, none, none, none] ∧ WK T p c 401 G q t row, ?_, ?_⟩
  · refine ⟨_, rfl, ls6, rfl, ⟨_, .inl (.inl hs6)⟩, for_list (K := K) (a := ls6) (xs := sp.map nI) (fun i σ G => ∃ y, σ = [some (.ref a), some (.ref p), some (.ref q), some (.ref t), some (.ref ls6), y, none, none, none, none, none, none] ∧ WK T p c 401 G q t row ∧ G ls6 = some (.lst (sp.map nI)))
      ⟨none, rfl, W6, hs6⟩ (fun i σ G _ ⟨_, _, _, h⟩ => .inl (.inl h)) ?_ ?_⟩
    · rintro i v σ G hv ⟨y, rfl, L, f1⟩
      rw [List.getElem?_map] at hv
      cases ei : sp[i]? with
      | none => rw [ei] at hv; cases hv
      | some n =>
      rw [ei] at hv
      obtain rfl := Option.some.inj hv
      have hn := hsp n (List.mem_of_getElem? ei)
      have htb : ∀ b ∈ (sld row).take n, b < 256 := fun b hb' => hSb b (List.mem_of_mem_take hb')
      have htl : ((sld row).take n).length ≤ 100000 := by rw [List.length_take]; omega
      refine ⟨_, rfl, _, rfl, _, rfl, slA_to L.ht (Nat.le_of_lt hn) fun l1 G1 s1 hl1 => ⟨l1, (sld row).take n, rfl, hl1, htb, htl, fun ⟨v, hv⟩ => absurd hv (cut_no hn v), fun _ G2 s2 => ?_⟩⟩
      refine ⟨_, rfl, (if_neg (by simp)).mpr ?_⟩
      have L2 := L.same (s1.trans s2)
      have f2 := (s1.trans s2) _ _ f1
      refine ⟨L2.kp.tabs, fun H1 eN T1 R => ⟨_, rfl, _, rfl, _, rfl, slA_to (ExtN.tup eN L2.ht) (Nat.le_of_lt hn) fun l3 G3 s3 hl3 => ⟨.str "y", l3, (sld row).take n, rfl, hl3, htb, htl, fun v hv => absurd hv (cut_no hn v), fun _ d G' hE => ⟨d, .str "y", rfl, rfl, hE.2.2, ?_⟩⟩⟩⟩
      refine ⟨rfl, _, rfl, (if_neg (by simp)).mpr ?_⟩
      have s4 := s3.trans hE.1
      exact ⟨_, rfl, (L2.ext eN T1).same s4, s4 _ _ (ExtN.lst eN f2)⟩
    · rintro σ G ⟨y, rfl, L, _⟩
      exact ⟨y, rfl, L⟩
  rintro σ G7 ⟨y5, rfl, W7⟩
  -- a changed row
  refine ⟨fun σ G => ∃ (u : Addr) (bad : List Nat), σ = [some (.ref a), some (.ref p), some (.ref q), some (.ref t), some (.ref ls6), y5, some (.ref u), none, none, none, none, none] ∧ WK T p c 404 G q t row ∧ G u = some (.tup (bad.map nI)) ∧ Chg (sld row) bad, ?_, ?_⟩
  · refine ⟨_, rfl, _, rfl, p, c, t, 401, sld row, rfl, W7.kp.pen, by decide, W7.ht, ?_, by omega, fun row' u G hP hC hu => ⟨u, row', rfl, W7.pn hP, hu, hC⟩⟩
    intro z
    rw [z] at hSg
    have : ([] : List Nat).length = 0 := rfl
    omega
  rintro σ G8 ⟨u, bad, rfl, W8, hu8, hCh⟩
  have hcl := chg_lt hSb hCh
  have hcn := fun v => chg_no hb (by omega) hCh v
  refine ⟨fun σ G => σ = [some (.ref a), some (.ref p), some (.ref q), some (.ref t), some (.ref ls6), y5, some (.ref u), none, none, none, none, none] ∧ Kp T p c 404 G, ?_, ?_⟩
  · refine ⟨_, rfl, u, bad, rfl, hu8, hcl.1, by omega, fun ⟨v, hv⟩ => absurd hv (hcn v), fun _ G2 s2 => ?_⟩
    refine ⟨_, rfl, (if_neg (by simp)).mpr ?_⟩
    have L2 := W8.same s2
    refine ⟨L2.kp.tabs, fun H1 eN T1 R => ⟨_, rfl, .str "z", u, bad, rfl, ExtN.tup eN (s2 _ _ hu8), hcl.1, by omega, fun v hv => absurd hv (hcn v), fun _ d G' hE => ⟨d, .str "z", rfl, rfl, hE.2.2, ?_⟩⟩⟩
    refine ⟨rfl, _, rfl, (if_neg (by simp)).mpr ?_⟩
    exact ⟨rfl, ((L2.ext eN T1).same hE.1).kp⟩
  rintro σ G9 ⟨rfl, hK9⟩
  clear hSb hSl hSg hCh hcn hcl
  -- numbers that are marked
  refine ⟨fun σ G => ∃ m : Nat, σ = [some (.ref a), some (.ref p), some (.ref q), some (.ref t), some (.ref ls6), y5, some (.ref u), some (nI m), none, none, none, none] ∧ Kp T p c 405 G ∧ m ≤ 40, ?_, ?_⟩
  · refine ⟨_, rfl, p, c, 404, 41, rfl, hK9.pen, by decide, by decide, log_ok (by decide) (by decide), fun v o v0 v1 hP => ?_⟩
    have e1 : V.int v = nI v.toNat := congrArg V.int (by omega)
    rw [e1]
    exact ⟨v.toNat, rfl, hK9.draw hP, by omega⟩
  rintro σ GA ⟨m, rfl, hKA, hm⟩
  refine ⟨fun σ G => ∃ (ln : Addr) (ns : List Nat), σ = [some (.ref a), some (.ref p), some (.ref q), some (.ref t), some (.ref ls6), y5, some (.ref u), some (nI m), some (.ref ln), none, none, none] ∧ Kp T p c 500 G ∧ G ln = some (.lst (ns.map nI)) ∧ Asc ns m, ?_, ?_⟩
  · refine ⟨_, rfl, (m : Int), rfl, by omega, by omega, fun Dd hD => ?_⟩
    obtain ⟨_, hcA⟩ := hKA.pen.cells
    have nDc : Dd ≠ c := (ne_of_none hcA hD).symm
    refine lc_range (lo := 0) (n := m) (fun i G => ∃ ns : List Nat, Kp T p c (405 + i) G ∧ G Dd = some (.lst (ns.map nI)) ∧ Asc ns i ∧ ns.length ≤ i) ⟨[], hKA.put hD, upd_same, Asc.nil, Nat.le_refl _⟩ ?_ ?_
    · rintro i G hi ⟨ns, hk, h1, h2, h3⟩
      refine ⟨rfl, ?_⟩
      refine ⟨_, rfl, p, c, 405 + i, 3, rfl, hk.pen, by omega, by decide, log_ok (by decide) (by decide), fun x o a1 b1 hP => ⟨rfl, _, rfl, ?_⟩⟩
      have hk2 := hk.draw hP
      have g1 := hk.pen.lst (o := o) h1
      refine ite2 (fun _ => ?_) (fun _ => ⟨ns, hk2, g1, h2.skip, by omega⟩)
      refine ⟨_, rfl, _, g1, ?_, ns ++ [i], hk2.up g1 nDc, ?_, h2.add, ?_⟩
      · rw [List.length_map, sizeLine_eq]
        omega
      · rw [upd_same, List.map_append]
        show some (HO.lst (ns.map nI ++ [V.int (0 + (i : Int))])) = _
        rw [Int.zero_add]
        rfl
      · rw [List.length_append]
        show _ + 1 ≤ i + 1
        omega
    · rintro G ⟨ns, hk, h1, h2, h3⟩
      exact ⟨Dd, ns, rfl, hk.mono (by omega), h1, h2⟩
  rintro σ GB ⟨ln, ns, rfl, hKB, hnB, hA⟩
  -- the row of marks
  have hMl := mkR_len ns hm
  have hMb := mkR_lt m ns
  have hSb := sld_lt hMb
  have hSl : (sld (mkR m ns)).length ≤ 100 := by
    rw [sld_len]
    have := wh_len (mkR m ns).length 2 (by omega) (by decide)
    omega
  refine ⟨fun σ G => ∃ tm : Addr, σ = [some (.ref a), some (.ref p), some (.ref q), some (.ref t), some (.ref ls6), y5, some (.ref u), some (nI m), some (.ref ln), some (.ref tm), none, none] ∧ Kp T p c 500 G ∧ G ln = some (.lst (ns.map nI)) ∧ G tm = some (.tup ((sld (mkR m ns)).map nI)), ?_, ?_⟩
  · exact ⟨_, rfl, _, rfl, m, ln, ns, rfl, .inl (.inl hnB), hA.lt, by omega, fun tm G s h => ⟨tm, rfl, hKB.same s, s _ _ hnB, h⟩⟩
  rintro σ GC ⟨tm, rfl, hKC, hnC, hmC⟩
  refine ⟨fun σ G => σ = [some (.ref a), some (.ref p), some (.ref q), some (.ref t), some (.ref ls6), y5, some (.ref u), some (nI m), some (.ref ln), some (.ref tm), none, none] ∧ Kp T p c 500 G ∧ G tm = some (.tup ((sld (mkR m ns)).map nI)), ?_, ?_⟩
  · refine ⟨_, rfl, _, rfl, _, rfl, m, ln, ns, rfl, .inl (.inl hnC), hA.lt, by omega, fun t2 G s ht2 => ?_⟩
    refine ne_same (d := numD (sld (mkR m ns))) (dpNum (s _ _ hmC)) (.tup ht2 (dpN _)) (numD_ok _).1 (numD_ok _).2 ?_
    refine ⟨_, rfl, (if_neg (by simp)).mpr ?_⟩
    refine ⟨_, rfl, .str "d1.1", tm, sld (mkR m ns), rfl, s _ _ hmC, hSb, by omega, fun v m' c' hw hr => ?_, fun v m' bits hw hr t3 u3 G3 s3 g3 gu => ?_, fun hno => (hno _ _ _ _ (sld_within hMb) (mk_read ns) rfl).elim⟩
    · obtain rfl := sld_one hMb hw
      have := mk_many hr
      omega
    obtain rfl := sld_one hMb hw
    obtain ⟨rfl, rfl, _⟩ := mread_one hr
    rw [mkd_mk ns m' (Nat.le_refl _), hA.eq] at gu
    refine ⟨_, rfl, _, rfl, ln, _, rfl, .inl ⟨.inl (.inl (s3 _ _ (s _ _ hnC))), fun t4 ht4 => ⟨hz9 2 (by decide), fun t5 ht5 => ?_⟩⟩⟩
    have s4 := Same.new (o := .tup (ns.map nI)) ht4
    have g4 : upd G3 t4 (.tup (ns.map nI)) t4 = some (.tup (ns.map nI)) := upd_same
    generalize upd G3 t4 (.tup (ns.map nI)) = G4' at s4 g4 ht5
    have s5' := Same.new (o := .tup [nI m', .ref t4]) ht5
    refine ne_same (d := .tuple [.int (m' : Int), numD ns]) (.tup (.inl (.inl (s5' _ _ (s4 _ _ g3)))) (.cons (.int _) (.cons (dpNum (s5' _ _ (s4 _ _ gu))) .nil))) (.tup (.inl (.inl upd_same)) (.cons (.int _) (.cons (dpNum (s5' _ _ g4)) .nil))) (pairD_ok _ _).1 (pairD_ok _ _).2 ?_
    refine ⟨_, rfl, (if_neg (by simp)).mpr ?_⟩
    have sA := s.trans (s3.trans (s4.trans s5'))
    exact ⟨rfl, hKC.same sA, sA _ _ hmC⟩
  rintro σ GD ⟨rfl, hKD, hmD⟩
  -- odd rows
  refine ⟨fun σ G => ∃ (lo o1 o2 o3 : Addr), σ = [some (.ref a), some (.ref p), some (.ref q), some (.ref t), some (.ref ls6), y5, some (.ref u), some (nI m), some (.ref ln), some (.ref tm), some (.ref lo), none] ∧ Kp T p c 500 G ∧ G tm = some (.tup ((sld (mkR m ns)).map nI)) ∧ G lo = some (.lst [V.ref o1, V.ref o2, V.ref o3]) ∧
    G o1 = some (.tup ((sld [9, 1]).map nI)) ∧ G o2 = some (.tup ((sld [3, 8]).map nI)) ∧ G o3 = some (.tup ((sld [3, 7, 0]).map nI)), ?_, ?_⟩
  · clear hA hMl hMb hSb hSl
    refine ⟨9, rfl, lt4000 (by decide), fun t1 A1 sa1 ga1 => ⟨hz9 1 (by decide), fun u1 hu1 => ?_⟩⟩
    rw [wh1 (by decide)] at ga1
    have sb1 := Same.new (o := .tup [V.int 1]) hu1
    have gb1 : upd A1 u1 (.tup [V.int 1]) u1 = some (.tup (([1] : List Nat).map nI)) := upd_same
    generalize upd A1 u1 (.tup [V.int 1]) = B1 at sb1 gb1
    refine catA_of (.inl (.inl (sb1 _ _ ga1))) (.inl (.inl gb1)) (by decide) fun c1 C1 sc1 gc1 => ?_
    refine ⟨c1, [9, 1], rfl, gc1, by decide, by decide, fun o1 D1 sd1 gd1 => ?_⟩
    have se1 := sa1.trans (sb1.trans (sc1.trans sd1))
    refine ⟨3, rfl, lt4000 (by decide), fun t2 A2 sa2 ga2 => ⟨hz9 1 (by decide), fun u2 hu2 => ?_⟩⟩
    rw [wh1 (by decide)] at ga2
    have sb2 := Same.new (o := .tup [V.int 8]) hu2
    have gb2 : upd A2 u2 (.tup [V.int 8]) u2 = some (.tup (([8] : List Nat).map nI)) := upd_same
    generalize upd A2 u2 (.tup [V.int 8]) = B2 at sb2 gb2
    refine catA_of (.inl (.inl (sb2 _ _ ga2))) (.inl (.inl gb2)) (by decide) fun c2 C2 sc2 gc2 => ?_
    refine ⟨c2, [3, 8], rfl, gc2, by decide, by decide, fun o2 D2 sd2 gd2 => ?_⟩
    have se2 := sa2.trans (sb2.trans (sc2.trans sd2))
    refine ⟨3, rfl, lt4000 (by decide), fun t3 A3 sa3 ga3 => ⟨hz9 2 (by decide), fun u3 hu3 => ?_⟩⟩
    rw [wh1 (by decide)] at ga3
    have sb3 := Same.new (o := .tup [V.int 7, V.int 0]) hu3
    have gb3 : upd A3 u3 (.tup [V.int 7, V.int 0]) u3 = some (.tup (([7, 0] : List Nat).map nI)) := upd_same
    generalize upd A3 u3 (.tup [V.int 7, V.int 0]) = B3 at sb3 gb3
    refine catA_of (.inl (.inl (sb3 _ _ ga3))) (.inl (.inl gb3)) (by decide) fun c3 C3 sc3 gc3 => ?_
    refine ⟨c3, [3, 7, 0], rfl, gc3, by decide, by decide, fun o3 D3 sd3 gd3 => ?_⟩
    have se3 := sa3.trans (sb3.trans (sc3.trans sd3))
    refine ⟨hz9 3 (by decide), fun lo hlo => ?_⟩
    have sf := Same.new (o := .lst [V.ref o1, V.ref o2, V.ref o3]) hlo
    have sA := se1.trans (se2.trans (se3.trans sf))
    exact ⟨lo, o1, o2, o3, rfl, hKD.same sA, sA _ _ hmD, upd_same, (se2.trans (se3.trans sf)) _ _ gd1, (se3.trans sf) _ _ gd2, sf _ _ gd3⟩
  rintro σ GE ⟨lo, o1, o2, o3, rfl, hKE, hmE, hlo, ho1, ho2, ho3⟩
  have hSg : 4 ≤ (sld (mkR m ns)).length := by
    rw [sld_len]
    omega
  refine ⟨fun σ G => ∃ (ts : Addr) (bd : List Nat), σ = [some (.ref a), some (.ref p), some (.ref q), some (.ref t), some (.ref ls6), y5, some (.ref u), some (nI m), some (.ref ln), some (.ref tm), some (.ref lo), some (.ref ts)] ∧ Kp T p c 600 G ∧ G ts = some (.tup (bd.map nI)) ∧ MBad bd ∧ (∀ b ∈ bd, b < 256) ∧ bd.length ≤ 1000, ?_, ?_⟩
  · refine ⟨_, rfl, _, rfl, _, rfl, _, rfl, p, c, tm, 500, sld (mkR m ns), rfl, hKE.pen, by decide, hmE, ?_, by omega, fun row' tc G1' hP hC htc => ?_⟩
    · intro z
      rw [z] at hSg
      have : ([] : List Nat).length = 0 := rfl
      omega
    have hK1' := hKE.pn hP
    have q1 := hP.tup ho1
    have q2 := hP.tup ho2
    have q3 := hP.tup ho3
    have q4 := hP.lst hlo
    refine ⟨_, rfl, _, rfl, _, rfl, slA_m1 rfl (hP.tup hmE) (by omega) fun l2 G2' s2 hl2 => ⟨hz9 2 (by decide), fun l3 hl3 => ?_⟩⟩
    have s3 := Same.new (o := .lst [V.ref tc, V.ref l2]) hl3
    have g3 : upd G2' l3 (.lst [V.ref tc, V.ref l2]) l3 = some (.lst [V.ref tc, V.ref l2]) := upd_same
    generalize upd G2' l3 (.lst [V.ref tc, V.ref l2]) = G3' at s3 g3
    have s23 := s2.trans s3
    refine ⟨lo, l3, _, _, rfl, rfl, s23 _ _ q4, g3, (by show 5 ≤ sizeLine; exact hz9 5 (by decide)), fun l4 hl4 => ?_⟩
    have s4 := Same.new (o := .lst ([V.ref o1, V.ref o2, V.ref o3] ++ [V.ref tc, V.ref l2])) hl4
    have g4 : upd G3' l4 (.lst ([V.ref o1, V.ref o2, V.ref o3] ++ [V.ref tc, V.ref l2])) l4 = some (.lst [V.ref o1, V.ref o2, V.ref o3, V.ref tc, V.ref l2]) := upd_same
    generalize upd G3' l4 (.lst ([V.ref o1, V.ref o2, V.ref o3] ++ [V.ref tc, V.ref l2])) = G4' at s4 g4
    have s234 := s23.trans s4
    have hK4' := hK1'.same s234
    refine ⟨p, c, 503, _, _, rfl, hK4'.pen, .lst (.inl (.inl g4)), by decide, (by show 0 < 5; decide), (by show 5 < 1073741824; decide), fun i v o hv hPp => ?_⟩
    have hK5' := hK4'.draw hPp
    have go : ∀ b xs, G1' b = some (.tup xs) → upd G4' p o b = some (.tup xs) := fun b xs e => hK4'.pen.tup (s234 _ _ e)
    have hcl := chg_lt hSb hC
    have odd : ∀ v : List Nat, Odd v → MBad (sld v) ∧ (∀ b ∈ sld v, b < 256) ∧ (sld v).length ≤ 1000 := fun v hO => by
      have hb : (∀ b ∈ v, b < 256) ∧ v.length ≤ 3 := by rcases hO with rfl | rfl | rfl <;> decide
      refine ⟨.odd hO hb.1, sld_lt hb.1, ?_⟩
      rw [sld_len]
      have := wh_len v.length 2 (by omega) (by decide)
      omega
    match i, hv with
    | 0, hv =>
      obtain rfl := Option.some.inj hv
      exact ⟨o1, _, rfl, hK5'.mono (by decide), go _ _ q1, odd _ (.inl rfl)⟩
    | 1, hv =>
      obtain rfl := Option.some.inj hv
      exact ⟨o2, _, rfl, hK5'.mono (by decide), go _ _ q2, odd _ (.inr (.inl rfl))⟩
    | 2, hv =>
      obtain rfl := Option.some.inj hv
      exact ⟨o3, _, rfl, hK5'.mono (by decide), go _ _ q3, odd _ (.inr (.inr rfl))⟩
    | 3, hv =>
      obtain rfl := Option.some.inj hv
      exact ⟨tc, row', rfl, hK5'.mono (by decide), go _ _ htc, .none fun v => chg_no hMb (by omega) hC v, hcl.1, by omega⟩
    | 4, hv =>
      obtain rfl := Option.some.inj hv
      refine ⟨l2, _, rfl, hK5'.mono (by decide), hK4'.pen.tup ((s3.trans s4) _ _ hl2), .none fun v => cut_no (by omega) v, fun b hb' => hSb b (List.mem_of_mem_take hb'), ?_⟩
      rw [List.length_take]
      omega
    | i + 5, hv => cases hv
  rintro σ GF ⟨ts, bd, rfl, hKF, hts, hM, hbb, hbl⟩
  refine ⟨fun σ G => σ = [some (.ref a), some (.ref p), some (.ref q), some (.ref t), some (.ref ls6), y5, some (.ref u), some (nI m), some (.ref ln), some (.ref tm), some (.ref lo), some (.ref ts)] ∧ Kp T p c 600 G, ?_, ?_⟩
  · refine ⟨hKF.tabs, fun H1 eN T1 R => ⟨_, rfl, .str "d1.1", ts, bd, rfl, ExtN.tup eN hts, hbb, by omega, hM.small, fun v m bits hw hr => absurd rfl (hM.no v m bits _ hw hr), fun _ d G' hE => ⟨d, .str "d1.1", rfl, rfl, hE.2.2, ?_⟩⟩⟩
    refine ⟨rfl, _, rfl, (if_neg (by simp)).mpr ?_⟩
    exact ⟨rfl, (hKF.ext eN T1).same hE.1⟩
  rintro σ GG ⟨rfl, hKG⟩
  exact ⟨_, rfl, p, c, 600, rfl, hKG, by decide, fun G => k G⟩
end
end Wq
set_option Elab.async false
set_option linter.all false
set_option maxRecDepth 100000
set_option maxHeartbeats 2000000
set_option exponentiation.threshold 9000
namespace Wq
open PySem PySem.Spec PyProof.Rows L2
open LamX (ExtN Tabs TabS TabB CodeO)
/-! all that stands behind the law -/
structure MAtD (K : PySem.W.Frag) (C : Addr) (m qual : Str) (st : Stmt) (dvs : List V) : Prop where
  ex : ∃ (f : Addr) (fd : FuncData), FunD K m qual (defArgs st) (defBody st) (defScope st) dvs [] f fd ∧ Meth K C m f
theorem md_mk {K : PySem.W.Frag} {C : Addr} {m qual : Str} {st : Stmt} {f T d0 : Addr} {oc oc' : Value} {od an od' : Option Addr} {osl osl' : Array (Option Value)} {kV doc pm cdv ct : Value} {n : Nat}
    (a : PySem.W.findIn K (.ref C) m = some (some (.ref f))) (i1 : PySem.W.isFn K (.ref f) = true) (l : K.lookup f = some ⟨oc, od, .func (PySem.W.fnOf m qual (defArgs st) (defBody st) (defScope st) (.ref T) kV doc pm an cdv ct), osl⟩)
    (c : PySem.W.codeIn K cdv qual = true) (k : PySem.W.keepIn K (.ref f) = true) (lT : K.lookup T = some ⟨oc', od', .seq #[.ref d0] n, osl'⟩) : MAtD K C m qual st [.ref d0] :=
  ⟨f, _, ⟨⟨oc, od, .ref T, kV, doc, pm, an, cdv, ct, osl, rfl, l, c, .inr ⟨(by intro z; cases z), T, _, [.ref d0], n, rfl, lT, rfl, .cons rfl .nil⟩, .inl rfl⟩, k⟩, ⟨a, i1, k⟩⟩
theorem sqT0_mk {K : PySem.W.Frag} {d0 : Addr} {od : Option Addr} {n : Nat} {sl : Array (Option Value)} (l : K.lookup d0 = some ⟨.type "tuple", od, .seq #[] n, sl⟩) : SqT K (fun _ => none) d0 [] := .inr ⟨_, _, _, l, rfl, rfl, by decide, .nil⟩
theorem ends_mk {K : PySem.W.Frag} {e : Addr} {od : Option Addr} {n : Nat} {sl : Array (Option Value)} {t1 t2 t3 t4 : Tok} (l : K.lookup e = some ⟨.type "tuple", od, .seq #[.str "lengths" t1, .str "papers" t2, .str "postings" t3, .str "words" t4] n, sl⟩) :
    ∀ H, SqT K H e (nEnds.map fun t => V.str (SX.S t)) := by
  intro H
  have e := ends_lit
  rw [← e]
  exact .inr ⟨_, _, _, l, rfl, rfl, by show 4 ≤ sizeLine; decide, .cons ⟨_, rfl⟩ (.cons ⟨_, rfl⟩ (.cons ⟨_, rfl⟩ (.cons ⟨_, rfl⟩ .nil)))⟩
theorem defc_mk {h : Heap} {mg : Str → Option Value} {K : PySem.W.Frag} {x : Str} {st : Stmt} {f c : Addr} {oc : Value} {od an : Option Addr} {osl : Array (Option Value)} {kV doc pm ct : Value} (X : K.In h) (G : h.Ns mainGlobals mg)
    (a : PySem.W.nsIn K mainGlobals x = some (some (.ref f))) (l : K.lookup f = some ⟨oc, od, .func (PySem.W.fnOf x x (defArgs st) (defBody st) (defScope st) .none kV doc pm an (.ref c) ct), osl⟩)
    (cI : PySem.W.codeIn K (.ref c) x = true) (k : PySem.W.keepIn K (.ref f) = true) : DefC K mg x st c := ⟨f, oc, od, kV, doc, pm, an, ct, osl, l, cI, k, PySem.W.mg_of X G a⟩
/-- an error with one field -/
structure ErrW (K : PySem.W.Frag) (mg : Str → Option Value) (CE : Addr) (x f1 : Str) : Prop where
  ox : OexC K CE
  n1 : PySem.W.findIn K (.ref CE) f1 = some none
  gC : mg x = some (.ref CE)
  xf : XfC K CE
  te : PySem.W.exmOne K (.ref CE) (.ref CE) = some true
/-- a class of which things are made -/
structure MadeC (K : PySem.W.Frag) (mg : Str → Option Value) (x : Str) (C : Addr) : Prop where
  g : mg x = some (.ref C)
  cl : Cls K C
  mkc : PySem.W.makesIn K C = true
  kp : PySem.W.keepIn K (.ref C) = true
structure TabW (K : PySem.W.Frag) (h : Heap) (c P : Addr) : Prop where
  hd : PySem.W.codeHdIn K c P = true
  no : K.lookup P = none
  tb : h.get? P = some { cls := .none, data := .fields #[] }
theorem all_mk {l : PySem.W.OpenLaw} {w : World} {K : PySem.W.Frag} {h : Heap} {mg : Str → Option Value} {fa CW CR CE CT CI c1 P1 c2 P2 d0 : Addr} (X : K.In h) (G : h.Ns mainGlobals mg) (hfa : mg "law" = some (.ref fa))
    (B1 : TabW K h c1 P1) (B2 : TabW K h c2 P2) (hne : P1 ≠ P2)
    (T : Txt K mg) (TX : TxtX mg) (TN : TxtN mg) (TEn : TxtEn K mg) (TP : TxtP K mg) (T2 : TxtI2 mg) (hsum : mg "sum" = none) (hall : mg "all" = none) (D0 : SqT K (fun _ => none) d0 [])
    (MW : MadeC K mg "Writer" CW) (MR : MadeC K mg "RowReader" CR) (MI : MadeC K mg "IndexList" CI) (wR : NoAttr K CW "_row") (rR : NoAttr K CR "_row") (rA : NoAttr K CR "at") (rD : NoAttr K CR "is_done")
    (iC : NoAttr K CI "commit") (iN : NoAttr K CI "counter") (iF : NoAttr K CI "files") (iR : NoAttr K CI "rows") (iT : NoAttr K CI "told") (WE : ErrW K mg CE "BadBytes" "place") (WT : ErrW K mg CT "TornFile" "name")
    (d7 : DefAt K mg "is_text" sText) (d8 : DefAt K mg "is_row" sRow) (d9 : DefAt K mg "is_word" sWord) (d16 : DefAt K mg "check_of" sCheck) (d18 : DefAt K mg "sealed" sSe) (d19 : DefAt K mg "row_within" sRo) (d20 : DefAt K mg "is_whole" sWh) (d21 : DefAt K mg "unsealed" sUn)
    (d22 : DefAt K mg "marked_row" sMR) (d23 : DefAt K mg "marked_from" sMF) (d27 : DefAt K mg "told_number" sTN) (d31 : DefAt K mg "told_index" sTI) (d32 : DefAt K mg "list_from" sLF) (d33 : DefAt K mg "read_list" sRL) (d34 : DefAt K mg "segment_files" sSf) (d35 : DefAt K mg "marks_file" sMf) (d36 : DefAt K mg "all_files" sAF)
    (d38 : DefAt K mg "_law_pen" sPen) (d39 : DefAt K mg "_law_draw" sDraw) (d40 : DefAt K mg "_law_pick" sPick) (d41 : DefAt K mg "_law_torn" sTo) (d42 : DefAt K mg "_law_whole" sWo) (d43 : DefAt K mg "_law_sealed" sLS) (d44 : DefAt K mg "_law_marked" sLM) (d45 : DefAt K mg "_law_changed" sCh)
    (d46 : DefC K mg "_law_lists_right" sLL c2) (d47 : DefC K mg "law" sLaw c1)
    (e0 : MAt K CE "__init__" "BadBytes.__init__" sBI) (t0 : MAt K CT "__init__" "TornFile.__init__" sTF)
    (w0 : MAt K CW "__init__" "Writer.__init__" sWI) (w1 : MAt K CW "all_bytes" "Writer.all_bytes" sWA) (w2 : MAt K CW "whole" "Writer.whole" sWW) (w3 : MAt K CW "signs" "Writer.signs" sWS) (w4 : MAt K CW "bits" "Writer.bits" sWB) (w5 : MAt K CW "raw" "Writer.raw" sWR)
    (r0 : MAt K CR "__init__" "RowReader.__init__" sRI) (r1 : MAt K CR "_go_to" "RowReader._go_to" sRG) (r2 : MAt K CR "_byte_at" "RowReader._byte_at" sRB) (r4 : MAt K CR "_whole_from" "RowReader._whole_from" sRF) (r5 : MAt K CR "whole" "RowReader.whole" sRW)
    (r6 : MAt K CR "signs" "RowReader.signs" sRS) (r7 : MAt K CR "bits" "RowReader.bits" sRT) (r8 : MAt K CR "_numbers" "RowReader._numbers" sRN) (r9 : MAt K CR "raw" "RowReader.raw" sRR)
    (i0 : MAtD K CI "__init__" "IndexList.__init__" sII [.ref d0]) :
    LamX.LawAtS l w K CX0 14 63 "_law_script" mg fa h := by
  obtain ⟨f, oc, od, kV, doc, pm, an, ct, osl, lk, hcd, kp, hm⟩ := d47.ex
  have e := hfa.symm.trans hm
  cases e
  have pick : ∀ {Q : Addr × Addr → Prop}, Q (c1, P1) → Q (c2, P2) → ∀ p ∈ [(c1, P1), (c2, P2)], Q p := fun q1 q2 p hp => by
    rcases List.mem_cons.mp hp with rfl | hp
    · exact q1
    · rw [List.mem_singleton.mp hp]
      exact q2
  have m1 : (c1, P1) ∈ [(c1, P1), (c2, P2)] := List.mem_cons_self
  have m2 : (c2, P2) ∈ [(c1, P1), (c2, P2)] := List.mem_cons_of_mem _ List.mem_cons_self
  refine ⟨PySem.W.fnOf "law" "law" (defArgs sLaw) (defBody sLaw) (defScope sLaw) .none kV doc pm an (.ref c1) ct, [(c1, P1), (c2, P2)], spLaw [(P1, qLaw), (P2, qLL)] K, pick B1.tb B2.tb, pick B1.no B2.no, pick (PySem.W.codeHd_of_K X B1.hd) (PySem.W.codeHd_of_K X B2.hd), fun s v => .of_eq rfl,
    fun H a ns _ _ htb hS => ⟨a, ns, rfl, hS, fun q hq => ?_, fun _ => rfl⟩, fun base _ _ hTB => ?_⟩
  · rcases List.mem_cons.mp hq with rfl | hq
    · exact TabS.nil (htb _ m1)
    · rw [List.mem_singleton.mp hq]
      exact TabS.nil (htb _ m2)
  have CD := ok_draw (P := l.prog) (w := w) (base := base) d39 T
  have CP := ok_pick (P := l.prog) (w := w) (base := base) d40 T CD
  have TW : TxtW K mg CW := ⟨MW.cl, wR, TX.sg⟩
  have TR : TxtR K mg CR := ⟨MR.cl, rR, rA, rD, TX.sg⟩
  have TI : TxtI K mg CI := ⟨MI.cl, MI.g, iC, iN, iF, iR, iT⟩
  -- errors
  obtain ⟨fE, fdE, FE, ME⟩ := e0.ex
  have TE : TxtE K mg CE fE := ⟨WE.ox, WE.n1, ME.at_, beq_iff_eq.mp ME.fn, WE.gC, WE.xf, WE.te⟩
  have GE := ok_BI (P := l.prog) (w := w) (base := base) (mg := mg) FE TE
  have bE := FE.binds (ps := ["self", "place"]) fun _ _ _ _ _ _ us hl => match us, hl with | [_, _], _ => rfl
  obtain ⟨fT, fdT, FT, MT⟩ := t0.ex
  have TF : TxtF K mg CT fT := ⟨WT.ox, WT.n1, MT.at_, beq_iff_eq.mp MT.fn, WT.gC, WT.xf, WT.te⟩
  have GT := ok_TF (P := l.prog) (w := w) (base := base) (mg := mg) FT TF
  have bT := FT.binds (ps := ["self", "name"]) fun _ _ _ _ _ _ us hl => match us, hl with | [_, _], _ => rfl
  -- Writer
  obtain ⟨fw0, fdw0, Fw0, Mw0⟩ := w0.ex
  obtain ⟨fw1, fdw1, Fw1, Mw1⟩ := w1.ex
  obtain ⟨fw2, fdw2, Fw2, Mw2⟩ := w2.ex
  obtain ⟨fw3, fdw3, Fw3, Mw3⟩ := w3.ex
  obtain ⟨fw4, fdw4, Fw4, Mw4⟩ := w4.ex
  obtain ⟨fw5, fdw5, Fw5, Mw5⟩ := w5.ex
  have bw0 := Fw0.binds (ps := ["self"]) fun _ _ _ _ _ _ us hl => match us, hl with | [_], _ => rfl
  have bw1 := Fw1.binds (ps := ["self"]) fun _ _ _ _ _ _ us hl => match us, hl with | [_], _ => rfl
  have bw2 := Fw2.binds (ps := ["self", "number"]) fun _ _ _ _ _ _ us hl => match us, hl with | [_, _], _ => rfl
  have bw3 := Fw3.binds (ps := ["self", "text"]) fun _ _ _ _ _ _ us hl => match us, hl with | [_, _], _ => rfl
  have bw4 := Fw4.binds (ps := ["self", "numbers", "width"]) fun _ _ _ _ _ _ us hl => match us, hl with | [_, _, _], _ => rfl
  have bw5 := Fw5.binds (ps := ["self", "row"]) fun _ _ _ _ _ _ us hl => match us, hl with | [_, _], _ => rfl
  have Gw2 := ok_WW (P := l.prog) (w := w) (mg := mg) (base := base) Fw2 TW
  have WMw : WM l.prog w K mg base CW := ⟨MW.cl, MW.g, ⟨_, _, ⟨MW.mkc, Mw0.at_, Mw0.fn, MW.kp⟩, ok_WI Fw0 TW, bw0⟩, ⟨_, _, Mw2, Gw2, bw2⟩, ⟨_, _, Mw5, ok_WR Fw5 TW T, bw5⟩, ⟨_, _, Mw4, ok_WB Fw4 TW, bw4⟩, ⟨_, _, Mw1, ok_WA Fw1 TW T, bw1⟩⟩
  have WMs' : WMs l.prog w K mg base CW := ⟨WMw, ⟨_, _, Mw3, ok_WS Fw3 TW T Mw2 Gw2 bw2, bw3⟩⟩
  -- RowReader
  obtain ⟨fr0, fdr0, Fr0, Mr0⟩ := r0.ex
  obtain ⟨fr1, fdr1, Fr1, Mr1⟩ := r1.ex
  obtain ⟨fr2, fdr2, Fr2, Mr2⟩ := r2.ex
  obtain ⟨fr4, fdr4, Fr4, Mr4⟩ := r4.ex
  obtain ⟨fr5, fdr5, Fr5, Mr5⟩ := r5.ex
  obtain ⟨fr6, fdr6, Fr6, Mr6⟩ := r6.ex
  obtain ⟨fr7, fdr7, Fr7, Mr7⟩ := r7.ex
  obtain ⟨fr8, fdr8, Fr8, Mr8⟩ := r8.ex
  obtain ⟨fr9, fdr9, Fr9, Mr9⟩ := r9.ex
  have br0 := Fr0.binds (ps := ["self", "row"]) fun _ _ _ _ _ _ us hl => match us, hl with | [_, _], _ => rfl
  have br1 := Fr1.binds (ps := ["self", "place"]) fun _ _ _ _ _ _ us hl => match us, hl with | [_, _], _ => rfl
  have br2 := Fr2.binds (ps := ["self", "place"]) fun _ _ _ _ _ _ us hl => match us, hl with | [_, _], _ => rfl
  have br4 := Fr4.binds (ps := ["self", "place"]) fun _ _ _ _ _ _ us hl => match us, hl with | [_, _], _ => rfl
  have br5 := Fr5.binds (ps := ["self"]) fun _ _ _ _ _ _ us hl => match us, hl with | [_], _ => rfl
  have br6 := Fr6.binds (ps := ["self"]) fun _ _ _ _ _ _ us hl => match us, hl with | [_], _ => rfl
  have br7 := Fr7.binds (ps := ["self", "many", "width"]) fun _ _ _ _ _ _ us hl => match us, hl with | [_, _, _], _ => rfl
  have br8 := Fr8.binds (ps := ["self", "many", "width", "end"]) fun _ _ _ _ _ _ us hl => match us, hl with | [_, _, _, _], _ => rfl
  have br9 := Fr9.binds (ps := ["self", "many"]) fun _ _ _ _ _ _ us hl => match us, hl with | [_, _], _ => rfl
  have Gr1 := ok_RG (P := l.prog) (w := w) (mg := mg) (base := base) Fr1 TR T
  have Gr2 := ok_RB Fr2 TR T TE GE bE
  have Gr4 := ok_RF Fr4 TR TE GE bE Mr2 Gr2 br2
  have Gr5 := ok_RW Fr5 TR Mr4 Gr4 br4 Mr1 Gr1 br1
  have Gr6 := ok_RS Fr6 TR T TE GE bE Mr4 Gr4 br4 Mr1 Gr1 br1
  have Gr8 := ok_RN Fr8 TR T TE GE bE
  have Gr7 := ok_RT Fr7 TR T TE GE bE Mr8 Gr8 br8 Mr1 Gr1 br1
  have Gr9 := ok_RR Fr9 TR T TE GE bE Mr1 Gr1 br1
  have R : RM l.prog w K mg base CR CE := ⟨TR, MR.g, WE.gC, WE.te, ⟨_, _, ⟨MR.mkc, Mr0.at_, Mr0.fn, MR.kp⟩, ok_RI Fr0 TR T, br0⟩, ⟨_, _, Mr7, Gr7, br7⟩, ⟨_, _, Mr9, Gr9, br9⟩, ⟨_, _, Mr5, Gr5, br5⟩, ⟨_, _, Mr6, Gr6, br6⟩⟩
  -- functions
  have CK := ok_check (P := l.prog) (w := w) (base := base) d16 TP
  have CS := ok_Se d18 T WMw CK
  have CRo := ok_Ro d19 R CK
  have CWh := ok_Wh d20 CRo
  have CU := ok_Un d21 TF GT bT CRo
  have CMR := ok_MR d22 T WMw CS
  have CMF := ok_MF d23 T R TF GT bT CU
  have CTN := ok_TN (P := l.prog) (w := w) (K := K) (base := base) d27 TN
  have CSf := ok_Sf d34 T TEn CTN
  have CMf := ok_Mf d35 CTN
  have CAF := ok_AF d36 T T2 CSf CMf
  have CTI := ok_TI d31 T TI WMs' CS
  have CT' := ok_Text (P := l.prog) (w := w) (base := base) d7 T TX
  have CRw := ok_Row d8 T CT'
  have CWd := ok_Word d9 T TX CRw
  have CLW := ok_Wo d42 T WMw
  have CLS := ok_LS d43 T CK CLW
  have CLM := ok_LM d44 T hsum CLW CLS
  have CCh := ok_Ch d45 T CD
  -- IndexList
  obtain ⟨f0, fd0, F0, M0⟩ := i0.ex
  have G0 := ok_II (P := l.prog) (w := w) (base := base) F0 T T2 TI CTI
  obtain ⟨ds, q0, b0⟩ := F0.binds1 (ps := ["self", "commit", "counter", "files", "rows"]) 5 1 (by intro z; cases z) (by rfl) fun T kV doc pm an cdv ct us its l1 l2 => match us, its, l1, l2 with | [_, _, _, _, _], [_], _, _ => ⟨_, rfl, rfl⟩
  cases q0
  obtain ⟨ds, q1, b1⟩ := F0.binds1 (ps := ["self", "commit", "counter", "files", "rows"]) 4 0 (by intro z; cases z) (by rfl) fun T kV doc pm an cdv ct us its l1 l2 => match us, its, l1, l2 with | [_, _, _, _], [_], _, _ => ⟨_, rfl, rfl⟩
  have MM : Mk K CI f0 := ⟨MI.mkc, M0.at_, M0.fn, MI.kp⟩
  have MKI : MkI l.prog w K mg base CI := ⟨MI.g, _, _, MM, G0, b0⟩
  have MKI2 : MkI2 l.prog w K mg base CI := ⟨MKI, _, _, d0, ds, MM, G0, D0, q1, b1⟩
  have CRL := ok_RL d33 T T2 hall R MKI CWd
  have CLF := ok_LF d32 R TF GT bT CRo CRL
  have TO : TxtTo K mg CT := ⟨WT.gC, WT.xf, WT.n1, WT.te⟩
  have CL : ClsL l.prog w K mg base CT CI := ⟨CD, CS, CWh, CU, CLF, CCh, CSf, CMf, CAF⟩
  have CLL := ok_LL (T := [(P1, qLaw), (P2, qLL)]) d46 (hTB _ m2) (List.mem_cons_of_mem _ List.mem_cons_self) (fun q hq eq => ?_) d41 TO T T2 ⟨TX.str, TX.set⟩ TI CL MKI2
  · exact ok_law lk hcd (hTB _ m1) List.mem_cons_self (fun q hq eq => by
      rcases List.mem_cons.mp hq with rfl | hq
      · rfl
      · rw [List.mem_singleton.mp hq] at eq
        exact absurd eq.symm hne) d41 TO T ⟨CL, ok_pen d38 T, CP, CLS, CLW, CMR, CLM, CMF⟩ CLL
  · rcases List.mem_cons.mp hq with rfl | hq
    · exact absurd eq hne
    · rw [List.mem_singleton.mp hq]
end Wq
set_option Elab.async false
set_option linter.all false
set_option maxRecDepth 100000
set_option maxHeartbeats 2000000
namespace Wq
open PySem PySem.Spec PyProof.Rows L2
theorem oex_mk {K : PySem.W.Frag} {C : Addr} {nm q : Str} {N : Addr} {bs bm : List Value} {sn : List Str} {sub : List Value} {ab : Bool} {col : Option Bool} {dd : Option Addr} {k0 k1 k2 k3 k5 : Option Value}
    (xL : K.lookup C = some (excClassObj nm q C N bs bm true sn sub ab col dd k0 k1 k2 k3 k5 "ValueError.__new__")) (rv : PySem.HandSPX.refsVE bm = true) (sa : PySem.W.findIn K (.ref C) "__setattr__" = some (some (.builtin "object.__setattr__")))
    (eC : PySem.W.subIn K (.ref C) (.type "BaseException") = some true) (tC : PySem.W.typeIn K (.ref C) = some (.type "type")) (kC : PySem.W.keepIn K (.ref C) = true) : OexC K C := ⟨⟨nm, q, N, bs, bm, sn, sub, ab, col, dd, k0, k1, k2, k3, k5, xL, rv⟩, sa, eC, tC, kC⟩
end Wq
open PySem PySem.W PyProof.Rows
set_option maxRecDepth 100000 in
set_option maxHeartbeats 0 in
theorem PySem.Challenge.cw_wordquarry_k75_sealed_rows_marks_and_lis_holds : PySem.Challenge.rw_wordquarry_k75_sealed_rows_marks_and_lis.Holds := by
  w_on; o_law; k_head; (case hw => w_witness2)
  k_fill
  refine LamX.walk_ofTs (l := PySem.Challenge.rw_wordquarry_k75_sealed_rows_marks_and_lis) (n := 63) (k := 14) (x := "_law_script") (CX := fun _ => L2.CX0) rfl (by decide) rfl ⟨rfl, by decide, by decide⟩ (fun w h Y => PySem.W.km_in_of Y) ?F (fun _ _ _ _ _ z => z)
  case F =>
    intro w mg fa h Y KX G hmg
    have TB := PySem.W.km_tabs_of Y
    refine' Wq.all_mk KX G hmg (P1 := 399) (P2 := 394)
      ⟨?h1, ?n1, TB _ (by decide)⟩ ⟨?h2, ?n2, TB _ (by decide)⟩ (by decide)
      ⟨PySem.W.mg_none_of KX G ?z1, PySem.W.mg_none_of KX G ?z2, PySem.W.mg_none_of KX G ?z3, PySem.W.mg_none_of KX G ?z4, PySem.W.mg_none_of KX G ?z5, PySem.W.mg_none_of KX G ?z6⟩
      ⟨PySem.W.mg_none_of KX G ?z7, PySem.W.mg_none_of KX G ?z8, PySem.W.mg_none_of KX G ?z9, PySem.W.mg_none_of KX G ?z10, ⟨_, PySem.W.mg_of KX G ?s1⟩, ⟨_, PySem.W.mg_of KX G ?s2⟩⟩
      ⟨PySem.W.mg_none_of KX G ?z11, ⟨_, PySem.W.mg_of KX G ?s3⟩⟩
      ⟨_, PySem.W.mg_of KX G ?gN, Wq.ends_mk ?en⟩
      ⟨⟨_, PySem.W.mg_of KX G ?s4⟩, ⟨_, PySem.W.mg_of KX G ?s5⟩⟩
      ⟨PySem.W.mg_none_of KX G ?z12⟩ (PySem.W.mg_none_of KX G ?z13) (PySem.W.mg_none_of KX G ?z14) (Wq.sqT0_mk ?dz)
      ⟨PySem.W.mg_of KX G ?gW, ⟨?w_pg, ?w_hd, ?w_po, ?w_sa⟩, ?w_mk, ?w_kp⟩ ⟨PySem.W.mg_of KX G ?gR, ⟨?r_pg, ?r_hd, ?r_po, ?r_sa⟩, ?r_mk, ?r_kp⟩ ⟨PySem.W.mg_of KX G ?gI, ⟨?i_pg, ?i_hd, ?i_po, ?i_sa⟩, ?i_mk, ?i_kp⟩
      ?w_n1 ?r_n1 ?r_n2 ?r_n3 ?i_n1 ?i_n2 ?i_n3 ?i_n4 ?i_n5
      ⟨Wq.oex_mk ?exL ?erv ?e_sa ?e_ex ?e_ty ?e_kp, ?e_n1, PySem.W.mg_of KX G ?gE, ⟨?ex_ga, ?ex_gg, ?ex_ex, ?ex_hd⟩, PySem.W.exm_ref ?em_ex ?em_hd ?em_ty ?em_su⟩
      ⟨Wq.oex_mk ?txL ?trv ?t_sa ?t_ex ?t_ty ?t_kp, ?t_n1, PySem.W.mg_of KX G ?gT, ⟨?tx_ga, ?tx_gg, ?tx_ex, ?tx_hd⟩, PySem.W.exm_ref ?tm_ex ?tm_hd ?tm_ty ?tm_su⟩
      ?d7 ?d8 ?d9 ?d16 ?d18 ?d19 ?d20 ?d21 ?d22 ?d23 ?d27 ?d31 ?d32 ?d33 ?d34 ?d35 ?d36 ?d38 ?d39 ?d40 ?d41 ?d42 ?d43 ?d44 ?d45 ?d46 ?d47
      ?e0 ?t0 ?w0 ?w1 ?w2 ?w3 ?w4 ?w5 ?r0 ?r1 ?r2 ?r4 ?r5 ?r6 ?r7 ?r8 ?r9 ?i0
    (case gW => k_is)
    (case gR => k_is)
    (case gI => k_is)
    (case gE => k_is)
    (case gT => k_is)
    (case gN => k_is)
    (case d7 => (refine' Wq.def_mk KX G ?a ?l ?c ?k; (case a => k_is); (case l => k_is); (case c => k_is); (case k => k_is)))
    (case d8 => (refine' Wq.def_mk KX G ?a ?l ?c ?k; (case a => k_is); (case l => k_is); (case c => k_is); (case k => k_is)))
    (case d9 => (refine' Wq.def_mk KX G ?a ?l ?c ?k; (case a => k_is); (case l => k_is); (case c => k_is); (case k => k_is)))
    (case d16 => (refine' Wq.def_mk KX G ?a ?l ?c ?k; (case a => k_is); (case l => k_is); (case c => k_is); (case k => k_is)))
    (case d18 => (refine' Wq.def_mk KX G ?a ?l ?c ?k; (case a => k_is); (case l => k_is); (case c => k_is); (case k => k_is)))
    (case d19 => (refine' Wq.def_mk KX G ?a ?l ?c ?k; (case a => k_is); (case l => k_is); (case c => k_is); (case k => k_is)))
    (case d20 => (refine' Wq.def_mk KX G ?a ?l ?c ?k; (case a => k_is); (case l => k_is); (case c => k_is); (case k => k_is)))
    (case d21 => (refine' Wq.def_mk KX G ?a ?l ?c ?k; (case a => k_is); (case l => k_is); (case c => k_is); (case k => k_is)))
    (case d22 => (refine' Wq.def_mk KX G ?a ?l ?c ?k; (case a => k_is); (case l => k_is); (case c => k_is); (case k => k_is)))
    (case d23 => (refine' Wq.def_mk KX G ?a ?l ?c ?k; (case a => k_is); (case l => k_is); (case c => k_is); (case k => k_is)))
    (case d27 => (refine' Wq.def_mk KX G ?a ?l ?c ?k; (case a => k_is); (case l => k_is); (case c => k_is); (case k => k_is)))
    (case d31 => (refine' Wq.def_mk KX G ?a ?l ?c ?k; (case a => k_is); (case l => k_is); (case c => k_is); (case k => k_is)))
    (case d32 => (refine' Wq.def_mk KX G ?a ?l ?c ?k; (case a => k_is); (case l => k_is); (case c => k_is); (case k => k_is)))
    (case d33 => (refine' Wq.def_mk KX G ?a ?l ?c ?k; (case a => k_is); (case l => k_is); (case c => k_is); (case k => k_is)))
    (case d34 => (refine' Wq.def_mk KX G ?a ?l ?c ?k; (case a => k_is); (case l => k_is); (case c => k_is); (case k => k_is)))
    (case d35 => (refine' Wq.def_mk KX G ?a ?l ?c ?k; (case a => k_is); (case l => k_is); (case c => k_is); (case k => k_is)))
    (case d36 => (refine' Wq.def_mk KX G ?a ?l ?c ?k; (case a => k_is); (case l => k_is); (case c => k_is); (case k => k_is)))
    (case d38 => (refine' Wq.def_mk KX G ?a ?l ?c ?k; (case a => k_is); (case l => k_is); (case c => k_is); (case k => k_is)))
    (case d39 => (refine' Wq.def_mk KX G ?a ?l ?c ?k; (case a => k_is); (case l => k_is); (case c => k_is); (case k => k_is)))
    (case d40 => (refine' Wq.def_mk KX G ?a ?l ?c ?k; (case a => k_is); (case l => k_is); (case c => k_is); (case k => k_is)))
    (case d41 => (refine' Wq.def_mk KX G ?a ?l ?c ?k; (case a => k_is); (case l => k_is); (case c => k_is); (case k => k_is)))
    (case d42 => (refine' Wq.def_mk KX G ?a ?l ?c ?k; (case a => k_is); (case l => k_is); (case c => k_is); (case k => k_is)))
    (case d43 => (refine' Wq.def_mk KX G ?a ?l ?c ?k; (case a => k_is); (case l => k_is); (case c => k_is); (case k => k_is)))
    (case d44 => (refine' Wq.def_mk KX G ?a ?l ?c ?k; (case a => k_is); (case l => k_is); (case c => k_is); (case k => k_is)))
    (case d45 => (refine' Wq.def_mk KX G ?a ?l ?c ?k; (case a => k_is); (case l => k_is); (case c => k_is); (case k => k_is)))
    (case d46 => (refine' Wq.defc_mk KX G ?a ?l ?c ?k; (case a => k_is); (case l => k_is); (case c => k_is); (case k => k_is)))
    (case d47 => (refine' Wq.defc_mk KX G ?a ?l ?c ?k; (case a => k_is); (case l => k_is); (case c => k_is); (case k => k_is)))
    (case e0 => (refine' Wq.m_mk ?a ?i ?l ?c ?k; (case a => k_is); (case i => k_is); (case l => k_is); (case c => k_is); (case k => k_is)))
    (case t0 => (refine' Wq.m_mk ?a ?i ?l ?c ?k; (case a => k_is); (case i => k_is); (case l => k_is); (case c => k_is); (case k => k_is)))
    (case w0 => (refine' Wq.m_mk ?a ?i ?l ?c ?k; (case a => k_is); (case i => k_is); (case l => k_is); (case c => k_is); (case k => k_is)))
    (case w1 => (refine' Wq.m_mk ?a ?i ?l ?c ?k; (case a => k_is); (case i => k_is); (case l => k_is); (case c => k_is); (case k => k_is)))
    (case w2 => (refine' Wq.m_mk ?a ?i ?l ?c ?k; (case a => k_is); (case i => k_is); (case l => k_is); (case c => k_is); (case k => k_is)))
    (case w3 => (refine' Wq.m_mk ?a ?i ?l ?c ?k; (case a => k_is); (case i => k_is); (case l => k_is); (case c => k_is); (case k => k_is)))
    (case w4 => (refine' Wq.m_mk ?a ?i ?l ?c ?k; (case a => k_is); (case i => k_is); (case l => k_is); (case c => k_is); (case k => k_is)))
    (case w5 => (refine' Wq.m_mk ?a ?i ?l ?c ?k; (case a => k_is); (case i => k_is); (case l => k_is); (case c => k_is); (case k => k_is)))
    (case r0 => (refine' Wq.m_mk ?a ?i ?l ?c ?k; (case a => k_is); (case i => k_is); (case l => k_is); (case c => k_is); (case k => k_is)))
    (case r1 => (refine' Wq.m_mk ?a ?i ?l ?c ?k; (case a => k_is); (case i => k_is); (case l => k_is); (case c => k_is); (case k => k_is)))
    (case r2 => (refine' Wq.m_mk ?a ?i ?l ?c ?k; (case a => k_is); (case i => k_is); (case l => k_is); (case c => k_is); (case k => k_is)))
    (case r4 => (refine' Wq.m_mk ?a ?i ?l ?c ?k; (case a => k_is); (case i => k_is); (case l => k_is); (case c => k_is); (case k => k_is)))
    (case r5 => (refine' Wq.m_mk ?a ?i ?l ?c ?k; (case a => k_is); (case i => k_is); (case l => k_is); (case c => k_is); (case k => k_is)))
    (case r6 => (refine' Wq.m_mk ?a ?i ?l ?c ?k; (case a => k_is); (case i => k_is); (case l => k_is); (case c => k_is); (case k => k_is)))
    (case r7 => (refine' Wq.m_mk ?a ?i ?l ?c ?k; (case a => k_is); (case i => k_is); (case l => k_is); (case c => k_is); (case k => k_is)))
    (case r8 => (refine' Wq.m_mk ?a ?i ?l ?c ?k; (case a => k_is); (case i => k_is); (case l => k_is); (case c => k_is); (case k => k_is)))
    (case r9 => (refine' Wq.m_mk ?a ?i ?l ?c ?k; (case a => k_is); (case i => k_is); (case l => k_is); (case c => k_is); (case k => k_is)))
    (case i0 => (refine' Wq.md_mk ?a ?i ?l ?c ?k ?t; (case a => k_is); (case i => k_is); (case l => k_is); (case c => k_is); (case k => k_is); (case t => k_is)))
    (case en => first | k_is | rfl)
    (case dz => first | k_is | rfl)
    (case exL => first | k_is | rfl)
    (case txL => first | k_is | rfl)
    (case erv => first | rfl | decide +kernel)
    (case trv => first | rfl | decide +kernel)
    (case h1 => first | k_is | rfl)
    (case h2 => first | k_is | rfl)
    (case n1 => first | k_is | rfl)
    (case n2 => first | k_is | rfl)
    (case z1 => first | k_is | rfl)
    (case z2 => first | k_is | rfl)
    (case z3 => first | k_is | rfl)
    (case z4 => first | k_is | rfl)
    (case z5 => first | k_is | rfl)
    (case z6 => first | k_is | rfl)
    (case z7 => first | k_is | rfl)
    (case z8 => first | k_is | rfl)
    (case z9 => first | k_is | rfl)
    (case z10 => first | k_is | rfl)
    (case z11 => first | k_is | rfl)
    (case z12 => first | k_is | rfl)
    (case z13 => first | k_is | rfl)
    (case z14 => first | k_is | rfl)
    (case s1 => first | k_is | rfl)
    (case s2 => first | k_is | rfl)
    (case s3 => first | k_is | rfl)
    (case s4 => first | k_is | rfl)
    (case s5 => first | k_is | rfl)
    (case w_pg => first | k_is | rfl)
    (case w_hd => first | k_is | rfl)
    (case w_po => first | k_is | rfl)
    (case w_sa => first | k_is | rfl)
    (case w_mk => first | k_is | rfl)
    (case w_kp => first | k_is | rfl)
    (case r_pg => first | k_is | rfl)
    (case r_hd => first | k_is | rfl)
    (case r_po => first | k_is | rfl)
    (case r_sa => first | k_is | rfl)
    (case r_mk => first | k_is | rfl)
    (case r_kp => first | k_is | rfl)
    (case i_pg => first | k_is | rfl)
    (case i_hd => first | k_is | rfl)
    (case i_po => first | k_is | rfl)
    (case i_sa => first | k_is | rfl)
    (case i_mk => first | k_is | rfl)
    (case i_kp => first | k_is | rfl)
    (case w_n1 => first | k_is | rfl)
    (case r_n1 => first | k_is | rfl)
    (case r_n2 => first | k_is | rfl)
    (case r_n3 => first | k_is | rfl)
    (case i_n1 => first | k_is | rfl)
    (case i_n2 => first | k_is | rfl)
    (case i_n3 => first | k_is | rfl)
    (case i_n4 => first | k_is | rfl)
    (case i_n5 => first | k_is | rfl)
    (case e_sa => first | k_is | rfl)
    (case e_ex => first | k_is | rfl)
    (case e_ty => first | k_is | rfl)
    (case e_kp => first | k_is | rfl)
    (case e_n1 => first | k_is | rfl)
    (case ex_ga => first | k_is | rfl)
    (case ex_gg => first | k_is | rfl)
    (case ex_ex => first | k_is | rfl)
    (case ex_hd => first | k_is | rfl)
    (case em_ex => first | k_is | rfl)
    (case em_hd => first | k_is | rfl)
    (case em_ty => first | k_is | rfl)
    (case em_su => first | k_is | rfl)
    (case t_sa => first | k_is | rfl)
    (case t_ex => first | k_is | rfl)
    (case t_ty => first | k_is | rfl)
    (case t_kp => first | k_is | rfl)
    (case t_n1 => first | k_is | rfl)
    (case tx_ga => first | k_is | rfl)
    (case tx_gg => first | k_is | rfl)
    (case tx_ex => first | k_is | rfl)
    (case tx_hd => first | k_is | rfl)
    (case tm_ex => first | k_is | rfl)
    (case tm_hd => first | k_is | rfl)
    (case tm_ty => first | k_is | rfl)
    (case tm_su => first | k_is | rfl)
